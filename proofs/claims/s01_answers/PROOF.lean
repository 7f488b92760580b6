import PyProof.Rows.All
import Wide.All
import OpenK.AllK
import Wide.FinOn
import PyProof.EqAt
import PyProof.EqKinds
import PyProof.TupleCall
import KE.BitLaws
import Open.SpecLaws
import KE.OsHead
import KE.OsGo
import PySem.Challenge.RW_coneyears_s01_answers
section
set_option Elab.async false
set_option linter.all false
set_option maxRecDepth 100000
/-! THE HAND LAYER, for ints, bools, texts, own classes, lists, tuples, dicts, comprehensions, walks over dicts, enumerate, zip, reversed, texts, calls, loops. Paste it whole ahead of your own text; what your proof does not reach may be deleted. -/
namespace L2
open PySem PySem.Spec PyProof.Rows

/-- a key: an int or a str -/
abbrev Key := Sum Int Str
def keyIs : Key → Value → Bool
  | .inl k, v => Value.isInt k v
  | .inr x, v => Value.isStrOf x v
def keyH (w : World) : Key → Int
  | .inl k => hashInt k
  | .inr x => hashStr w x
theorem keyIs_shape : ∀ {k : Key} {v : Value}, keyIs k v = true → (∃ i t, k = Sum.inl i ∧ v = Value.int i t) ∨ (∃ x t, k = Sum.inr x ∧ v = Value.str x t)
  | .inl i, v, h => by
    obtain ⟨t, e⟩ := Value.isInt_shape (k := i) (v := v) h
    exact .inl ⟨i, t, rfl, e⟩
  | .inr x, v, h => by
    obtain ⟨t, e⟩ := Value.isStrOf_shape (x := x) (v := v) h
    exact .inr ⟨x, t, rfl, e⟩
theorem key_ll (a b : Int) : decide ((Sum.inl a : Key) = Sum.inl b) = (a == b) := by
  by_cases e : a = b
  · subst e; simp
  · have h : ¬ (Sum.inl a : Key) = Sum.inl b := fun q => e (Sum.inl.inj q)
    rw [decide_eq_false h]
    exact (beq_eq_false_iff_ne.mpr e).symm
theorem key_rr (a b : Str) : decide ((Sum.inr a : Key) = Sum.inr b) = decide (a = b) := by
  by_cases e : a = b
  · subst e; simp
  · have h : ¬ (Sum.inr a : Key) = Sum.inr b := fun q => e (Sum.inr.inj q)
    rw [decide_eq_false h, decide_eq_false e]
theorem key_lr (a : Int) (b : Str) : decide ((Sum.inl a : Key) = Sum.inr b) = false := decide_eq_false (fun q => nomatch q)
theorem key_rl (a : Str) (b : Int) : decide ((Sum.inr a : Key) = Sum.inl b) = false := decide_eq_false (fun q => nomatch q)

def mixKind (prog : Program) (w : World) : PySem.KeyKind prog w Key where
  is := keyIs
  hash := keyH w
  inj := fun v a b ha hb => by
    rcases keyIs_shape ha with ⟨i, t, rfl, rfl⟩ | ⟨x, t, rfl, rfl⟩
    · rcases keyIs_shape hb with ⟨j, u, rfl, e⟩ | ⟨y, u, rfl, e⟩
      · injection e with e1 _; rw [e1]
      · exact nomatch e
    · rcases keyIs_shape hb with ⟨j, u, rfl, e⟩ | ⟨y, u, rfl, e⟩
      · exact nomatch e
      · injection e with e1 _; rw [e1]
  byValue := fun k v h => by
    rcases keyIs_shape h with ⟨i, t, rfl, rfl⟩ | ⟨x, t, rfl, rfl⟩ <;> rfl
  pyHash := fun hv h => by
    rcases keyIs_shape hv with ⟨i, t, rfl, rfl⟩ | ⟨x, t, rfl, rfl⟩
    · exact wpAny_pyHash_int h
    · exact wpAny_pyHash_str h
  eqBool := fun hu hv h => by
    rcases keyIs_shape hu with ⟨i, t, rfl, rfl⟩ | ⟨x, t, rfl, rfl⟩
    · rcases keyIs_shape hv with ⟨j, u, rfl, rfl⟩ | ⟨y, u, rfl, rfl⟩
      · rw [key_ll] at h; exact wpAny_eqBool_int h
      · rw [key_lr] at h; exact SeqAt.EqAt.int_str i t y u _ _ _ _ h
    · rcases keyIs_shape hv with ⟨j, u, rfl, rfl⟩ | ⟨y, u, rfl, rfl⟩
      · rw [key_rl] at h; exact SeqAt.EqAt.str_int x t j u _ _ _ _ h
      · rw [key_rr] at h; exact wpAny_eqBool_str h
  «strs» := fun k x t v h => by
    rcases keyIs_shape h with ⟨i, u, rfl, e⟩ | ⟨y, u, rfl, e⟩
    · exact nomatch e
    · injection e with e1 _
      subst e1
      cases v <;> rfl

end L2

namespace L2
open PySem PySem.Spec PyProof.Rows

/-- a value, without the heap -/
inductive V where
  | non | bl (b : Bool) | int (i : Int) | str (x : Str) | byt (b : Array UInt8) | flt (b : UInt64) | ref (a : Addr) | ty (n : String)
  deriving DecidableEq

def RelV : V → Value → Prop
  | .non, u => u = Value.none
  | .bl b, u => u = Value.bool b
  | .int i, u => ∃ t, u = Value.int i t
  | .str x, u => ∃ t, u = Value.str x t
  | .byt b, u => ∃ t, u = Value.bytes b t
  | .flt b, u => ∃ t, u = Value.float b t
  | .ref a, u => u = Value.ref a
  | .ty n, u => u = Value.type n

abbrev Vals : List V → List Value → Prop := Paired RelV
theorem Vals.length {xs : List V} {us : List Value} (r : Vals xs us) : xs.length = us.length := Paired.length r
theorem Vals.get : ∀ {xs : List V} {us : List Value} {i : Nat} {x : V}, Vals xs us → xs[i]? = some x → ∃ u, us[i]? = some u ∧ RelV x u
  | _, _, _, _, .nil, e => by simp at e
  | _, _, 0, _, .cons r _, e => by simp at e; subst e; exact ⟨_, rfl, r⟩
  | _, _, i + 1, x, .cons _ t, e => by
    obtain ⟨u, h1, h2⟩ := Vals.get (i := i) (x := x) t (by simpa using e)
    exact ⟨u, by simpa using h1, h2⟩
theorem Vals.set {x : V} {u : Value} (r : RelV x u) : ∀ {xs : List V} {us : List Value} (i : Nat), Vals xs us → Vals (xs.set i x) (us.set i u)
  | _, _, _, .nil => .nil
  | _, _, 0, .cons _ t => .cons r t
  | _, _, i + 1, .cons q t => .cons q (Vals.set r i t)
theorem Vals.append : ∀ {xs ys : List V} {us ws : List Value}, Vals xs us → Vals ys ws → Vals (xs ++ ys) (us ++ ws)
  | _, _, _, _, .nil, s => s
  | _, _, _, _, .cons r t, s => .cons r (Vals.append t s)
theorem Vals.take : ∀ {xs : List V} {us : List Value} (n : Nat), Vals xs us → Vals (xs.take n) (us.take n)
  | _, _, 0, _ => .nil
  | _, _, _ + 1, .nil => .nil
  | _, _, n + 1, .cons r t => .cons r (Vals.take n t)
theorem Vals.drop : ∀ {xs : List V} {us : List Value} (n : Nat), Vals xs us → Vals (xs.drop n) (us.drop n)
  | _, _, 0, r => r
  | _, _, _ + 1, .nil => .nil
  | _, _, n + 1, .cons _ t => Vals.drop n t
theorem Vals.none_of : ∀ {xs : List V} {us : List Value} {i : Nat}, Vals xs us → xs[i]? = none → us[i]? = none := fun {xs us i} r e => by
  have h1 := r.length
  have h2 : xs.length ≤ i := List.getElem?_eq_none_iff.mp e
  exact List.getElem?_eq_none_iff.mpr (by omega)

def RelO : Option V → Option Value → Prop
  | some v, some u => RelV v u
  | none, none => True
  | _, _ => False
def KV {κ : Type} : List (κ × V) → List (κ × Value) → Prop := Paired fun (p : κ × V) (q : κ × Value) => p.1 = q.1 ∧ RelV p.2 q.2

/-- a key of a dict (00_mix): an int or a text -/
def kV : Key → V
  | .inl i => .int i
  | .inr x => .str x

/-- what stands at a tracked address -/
inductive HO where
  /-- a list -/
  | lst (xs : List V)
  /-- a tuple (never changes) -/
  | tup (xs : List V)
  /-- a dict whose keys are ints and texts; one whose keys are tuples of ints and texts (the empty one is both) -/
  | dK (kvs : List (Key × V)) | dT (kvs : List (List Key × V))
  /-- a set of ints: its members, its size -/
  | set (S : Int → Bool) (n : Nat)
  /-- an instance of the class at C, its dict at dx, its attributes -/
  | ins (C dx : Addr) (fs : List (Str × V))
  /-- the dict of the instance at x -/
  | own (x : Addr)
  /-- the dict of an exception -/
  | xd (fs : List (Str × V))
  /-- a bound method, f of x -/
  | met (f x : Addr)
  /-- a range object lo, lo + 1, .. below hi -/
  | rng (lo hi : Int)
  /-- a thing that is known to the object (the script; a dict while a loop walks it): read, never written while it is so -/
  | frz (o : Obj) (u : HO)
  /-- a code object's table -/
  | tbl (ps : Array Value)
  /-- any other thing, by what is true of its one object (a def of one's own: SetO a S n := HO.ext fun h => ..) -/
  | ext (φ : Heap → Prop)

abbrev Hp := Addr → Option HO
def upd (H : Hp) (a : Addr) (o : HO) : Hp := fun b => if b = a then some o else H b
theorem upd_same {H : Hp} {a : Addr} {o : HO} : upd H a o a = some o := by unfold upd; rw [if_pos rfl]
theorem upd_ne {H : Hp} {a b : Addr} {o : HO} (h : b ≠ a) : upd H a o b = H b := by unfold upd; rw [if_neg h]
theorem upd_upd {H : Hp} {a : Addr} {o u : HO} : upd (upd H a o) a u = upd H a u := by
  funext b; unfold upd; split <;> rfl
/-- two objects of different content stand apart -/
theorem ne_of {H : Hp} {a b : Addr} {o u : HO} (h : H a = some o) (h' : H b = some u) (d : o ≠ u) : a ≠ b := by
  intro e; subst e; rw [h] at h'; exact d (Option.some.inj h')
theorem ne_of_none {H : Hp} {a b : Addr} {o : HO} (h : H a = some o) (h' : H b = none) : a ≠ b := by
  intro e; subst e; rw [h] at h'; cases h'

section
variable (P : Program) (w : World)
def ObjOk (H : Hp) (h : Heap) (a : Addr) : HO → Prop
  | .lst xs => xs.length ≤ sizeLine ∧ ∃ (its : List Value) (n : Nat), Vals xs its ∧ h.get? a = some { cls := .type "list", data := .seq its.toArray n }
  | .tup xs => xs.length ≤ sizeLine ∧ ∃ its : List Value, Vals xs its ∧ IsTup h a its.toArray
  | .dK kvs => kvs.length ≤ sizeLine ∧ (a == sysModules) = false ∧ ∃ vs, KV kvs vs ∧ h.DictOf (mixKind P w) a vs
  | .dT kvs => kvs.length ≤ sizeLine ∧ (a == sysModules) = false ∧ ∃ xs : List (List Key × Addr × Value),
      Paired (fun (p : List Key × V) (q : List Key × Addr × Value) => p.1 = q.1 ∧ H q.2.1 = some (.tup (p.1.map kV)) ∧ RelV p.2 q.2.2) kvs xs ∧
      ∃ o es ep, h.get? a = some o ∧ o.ExactDict ∧ o.data = .dict es ep ∧ es.toList = xs.map (entryOfKey (tupleKind (mixKind P w))) ∧ (xs.map (·.1)).Nodup
  | .set S n => h.SetOf (intKind P w) a S n
  | .ins C dx fs => H dx = some (.own a) ∧ fs.length ≤ 1000 ∧ dx ≠ a ∧ h.get? a = some (PySem.W.instObj C dx) ∧
      ∃ mA, h.Ns1 dx mA ∧ (∀ f, RelO (fs.lookup f) (mA f)) ∧ PySem.Within mA (fs.map (·.1))
  | .own _ => ∃ o, h.get? a = some o
  | .xd fs => ∃ mA, h.Ns1 a mA ∧ ∀ f, RelO (fs.lookup f) (mA f)
  | .rng lo hi => ∃ t u v, h.get? a = some { cls := .type "range", data := .fields #[.int lo t, .int hi u, .int 1 v] }
  | .frz o u => h.get? a = some o ∧ ObjOk H h a u
  | .tbl ps => h.get? a = some { cls := .none, data := .fields ps }
  | .met f x => h.get? a = some (PySem.W.methodObj (.ref f) (.ref x))
  | .ext φ => φ h ∧ (∃ o, h.get? a = some o) ∧ ∀ h1 h2 : Heap, φ h1 → (∀ o, h1.get? a = some o → h2.get? a = some o) → φ h2
/-- the abstract heap is held -/
def HOk (H : Hp) (h : Heap) : Prop := ∀ a o, H a = some o → ObjOk P w H h a o
end

section
variable {P : Program} {w : World} {H H' : Hp} {h h' : Heap} {a : Addr} {o : HO}
theorem ObjOk.lt (x : ObjOk P w H h a o) : a < h.objs.size := by
  cases o with
  | lst xs => obtain ⟨_, _, _, _, e⟩ := x; exact Heap.lt_size e
  | tup xs => obtain ⟨_, _, _, p⟩ := x; exact p.lt
  | dK kvs => obtain ⟨_, _, _, _, o, _, _, e, _⟩ := x; exact Heap.lt_size e
  | dT kvs => obtain ⟨_, _, _, _, o, _, _, e, _⟩ := x; exact Heap.lt_size e
  | set S n => obtain ⟨o, _, _, _, e, _⟩ := x; exact Heap.lt_size e
  | ins C dx fs => obtain ⟨_, _, _, e, _⟩ := x; exact Heap.lt_size e
  | own y => obtain ⟨_, e⟩ := x; exact Heap.lt_size e
  | xd fs => obtain ⟨_, ⟨_, _, _, e, _⟩, _⟩ := x; exact Heap.lt_size e
  | rng lo hi => obtain ⟨_, _, _, e⟩ := x; exact Heap.lt_size e
  | frz ob u => obtain ⟨e, _⟩ := x; exact Heap.lt_size e
  | tbl ps => exact Heap.lt_size (show h.get? a = some _ from x)
  | met f y => exact Heap.lt_size (show h.get? a = some _ from x)
  | ext φ => obtain ⟨_, ⟨_, e⟩, _⟩ := x; exact Heap.lt_size e
theorem Paired.mapP {α β : Type} {F G : α → β → Prop} : ∀ {l₁ : List α} {l₂ : List β}, Paired F l₁ l₂ → (∀ a b, F a b → G a b) → Paired G l₁ l₂
  | _, _, .nil, _ => .nil
  | _, _, .cons r t, f => .cons (f _ _ r) (Paired.mapP t f)
/-- what an object's description leans on: its own object, its own dict, the tuples -/
theorem ObjOk.stay (x : ObjOk P w H h a o) (k : ∀ b u, (b = a ∨ H b = some (.own a)) → h.get? b = some u → h'.get? b = some u)
    (ho : ∀ b, H b = some (.own a) → H' b = some (.own a)) (ht : ∀ b xs, H b = some (.tup xs) → H' b = some (.tup xs)) : ObjOk P w H' h' a o := by
  induction o with
  | lst xs => obtain ⟨z, its, n, r, e⟩ := x; exact ⟨z, its, n, r, k _ _ (.inl rfl) e⟩
  | tup xs => obtain ⟨z, its, r, ob, e, c⟩ := x; exact ⟨z, its, r, ob, k _ _ (.inl rfl) e, c⟩
  | dK kvs => obtain ⟨z, y, vs, r, ob, es, ep, e, c⟩ := x; exact ⟨z, y, vs, r, ob, es, ep, k _ _ (.inl rfl) e, c⟩
  | dT kvs =>
    obtain ⟨z, y, xs, r, ob, es, ep, e, c⟩ := x
    exact ⟨z, y, xs, Paired.mapP r fun p q z => ⟨z.1, ht _ _ z.2.1, z.2.2⟩, ob, es, ep, k _ _ (.inl rfl) e, c⟩
  | set S n => obtain ⟨ob, es, ep, t, e, c⟩ := x; exact ⟨ob, es, ep, t, k _ _ (.inl rfl) e, c⟩
  | ins C dx fs =>
    obtain ⟨d, z, ne, e, mA, ⟨od, es, ep, e2, c⟩, r⟩ := x
    exact ⟨ho _ d, z, ne, k _ _ (.inl rfl) e, mA, ⟨od, es, ep, k _ _ (.inr d) e2, c⟩, r⟩
  | own y => obtain ⟨ob, e⟩ := x; exact ⟨ob, k _ _ (.inl rfl) e⟩
  | xd fs => obtain ⟨mA, ⟨od, es, ep, e, c⟩, r⟩ := x; exact ⟨mA, ⟨od, es, ep, k _ _ (.inl rfl) e, c⟩, r⟩
  | rng lo hi => obtain ⟨t, u, v, e⟩ := x; exact ⟨t, u, v, k _ _ (.inl rfl) e⟩
  | frz ob u ih => obtain ⟨e, q⟩ := x; exact ⟨k _ _ (.inl rfl) e, ih q⟩
  | tbl ps =>
    have e : h.get? a = some { cls := .none, data := .fields ps } := x
    show h'.get? a = some { cls := .none, data := .fields ps }
    exact k a _ (.inl rfl) e
  | met f y =>
    have e : h.get? a = some (PySem.W.methodObj (.ref f) (.ref y)) := x
    show h'.get? a = some (PySem.W.methodObj (.ref f) (.ref y))
    exact k a _ (.inl rfl) e
  | ext φ => obtain ⟨p, ⟨o, e⟩, st⟩ := x; exact ⟨st _ _ p fun o q => k _ _ (.inl rfl) q, ⟨o, k _ _ (.inl rfl) e⟩, st⟩
theorem HOk.lt (x : HOk P w H h) (e : H a = some o) : a < h.objs.size := (x a o e).lt
theorem HOk.fresh (x : HOk P w H h) (e : h.objs.size ≤ a) : H a = none := by
  cases q : H a with
  | none => rfl
  | some u => exact absurd (Nat.lt_of_lt_of_le (x.lt q) e) (Nat.lt_irrefl _)
/-- every object of the heap is kept -/
theorem HOk.kept (x : HOk P w H h) (k : ∀ b u, h.get? b = some u → h'.get? b = some u) : HOk P w H h' := fun a o e =>
  (x a o e).stay (fun b u _ q => k b u q) (fun _ q => q) fun _ _ q => q
/-- a new object is laid and tracked -/
theorem HOk.laid (x : HOk P w H h) (k : ∀ b u, h.get? b = some u → h'.get? b = some u) (hp : h.objs.size ≤ a) (new : ObjOk P w (upd H a o) h' a o) : HOk P w (upd H a o) h' := fun b u e => by
  have hn := x.fresh hp
  by_cases hb : b = a
  · subst hb; rw [upd_same] at e; cases e; exact new
  · rw [upd_ne hb] at e
    exact (x b u e).stay (fun c v _ q => k c v q) (fun c q => by rw [upd_ne (ne_of_none q hn)]; exact q) fun c xs q => by rw [upd_ne (ne_of_none q hn)]; exact q
end

/-- what may be read as u: it is u, or a known u -/
def Rd (H : Hp) (a : Addr) (u : HO) : Prop := H a = some u ∨ ∃ o, H a = some (.frz o u)
theorem Rd.ok {P : Program} {w : World} {H : Hp} {h : Heap} {a : Addr} {u : HO} (r : Rd H a u) (x : HOk P w H h) : ObjOk P w H h a u := by
  rcases r with r | ⟨o, r⟩
  · exact x a u r
  · obtain ⟨_, q⟩ := x a _ r
    exact q
/-- what may be written -/
def Mut : Option HO → Prop
  | some (.lst _) => True
  | some (.dK _) => True
  | some (.dT _) => True
  | some (.set _ _) => True
  | some (.ins _ _ _) => True
  | some (.ext _) => True
  | _ => False
section
variable {P : Program} {w : World} {H : Hp} {h h' : Heap} {x e : Addr} {o' : HO}
/-- the object at e is changed: x itself, or the dict of the instance x -/
theorem HOk.write (ok : HOk P w H h) (mu : Mut (H x)) (he : e = x ∨ H e = some (.own x)) (k : ∀ b u, b ≠ e → h.get? b = some u → h'.get? b = some u) (heo : ∃ u, h'.get? e = some u)
    (new : ObjOk P w (upd H x o') h' x o') : HOk P w (upd H x o') h' := fun b u q => by
  have nown : ∀ c y, H c = some (.own y) → c ≠ x := fun c y r z => by subst z; rw [r] at mu; exact mu
  have ntup : ∀ c xs, H c = some (.tup xs) → c ≠ x := fun c xs r z => by subst z; rw [r] at mu; exact mu
  by_cases hb : b = x
  · subst hb; rw [upd_same] at q; cases q; exact new
  · rw [upd_ne hb] at q
    by_cases hbe : b = e
    · have q' : H b = some (.own x) := by
        rcases he with z | z
        · exact absurd (hbe.trans z) hb
        · rw [hbe]; exact z
      rw [q] at q'; cases q'
      obtain ⟨v, hv⟩ := heo
      exact ⟨v, by rw [hbe]; exact hv⟩
    · refine (ok b u q).stay (fun c v hc r => k c v ?_ r) (fun c r => by rw [upd_ne (nown c b r)]; exact r) fun c xs r => by rw [upd_ne (ntup c xs r)]; exact r
      rcases hc with rfl | hc
      · exact hbe
      · rintro rfl
        rcases he with z | z
        · exact nown c b hc z
        · rw [hc] at z; cases z; exact hb rfl
end

/-! ### kept unless tracked; of the frames at fs (the callers') the slots may change (an exception that passes writes there); of the records at ex (iterators) nothing is said -/
structure Un (fs ex : List Addr) (H H' : Hp) (h h' : Heap) : Prop where
  keep : ∀ b o, h.get? b = some o → H b = none → b ∉ fs → b ∉ ex → h'.get? b = some o
  slot : ∀ b o, h.get? b = some o → H b = none → b ∈ fs → b ∉ ex → ∃ sl, h'.get? b = some { o with slots := sl }
  free : ∀ b o, h.get? b = some o → H b = none → b ∉ ex → H' b = none
  there : ∀ b o, h.get? b = some o → b ∉ ex → ∃ o', h'.get? b = some o'
  tups : ∀ b xs, H b = some (.tup xs) → H' b = some (.tup xs)
  frzs : ∀ b o u, H b = some (.frz o u) → H' b = some (.frz o u)
  tbls : ∀ b ps, H b = some (.tbl ps) → ∃ more, H' b = some (.tbl (ps ++ more))
section
variable {fs fs' ex ex' : List Addr} {H H1 H2 : Hp} {h h1 h2 h' : Heap} {a x e : Addr} {o : HO}
theorem Un.any (u : Un fs ex H H1 h h1) {b : Addr} {ob : Obj} (q : h.get? b = some ob) (n : H b = none) (hx : b ∉ ex) : ∃ sl, h1.get? b = some { ob with slots := sl } := by
  by_cases hb : b ∈ fs
  · exact u.slot b ob q n hb hx
  · exact ⟨ob.slots, u.keep b ob q n hb hx⟩
theorem Un.kept (k : ∀ b u, h.get? b = some u → h'.get? b = some u) : Un fs ex H H h h' :=
  ⟨fun b ob q _ _ _ => k b ob q, fun b ob q _ _ _ => ⟨ob.slots, k b ob q⟩, fun _ _ _ n _ => n, fun b ob q _ => ⟨ob, k b ob q⟩, fun _ _ q => q, fun _ _ _ q => q, fun _ ps q => ⟨#[], by rw [q]; simp⟩⟩
theorem Un.refl : Un fs ex H H h h := Un.kept fun _ _ q => q
theorem Un.laid (k : ∀ b u, h.get? b = some u → h'.get? b = some u) (hp : h.objs.size ≤ a) (hn : H a = none) : Un fs ex H (upd H a o) h h' where
  keep := fun b u q _ _ _ => k b u q
  slot := fun b u q _ _ _ => ⟨u.slots, k b u q⟩
  free := fun b u q n _ => by rw [upd_ne (Nat.ne_of_lt (Nat.lt_of_lt_of_le (Heap.lt_size q) hp))]; exact n
  there := fun b u q _ => ⟨u, k b u q⟩
  tups := fun b xs q => by rw [upd_ne (ne_of_none q hn)]; exact q
  frzs := fun b u xs q => by rw [upd_ne (ne_of_none q hn)]; exact q
  tbls := fun b ps q => ⟨#[], by rw [upd_ne (ne_of_none q hn), q]; simp⟩
theorem Un.write (mu : Mut (H x)) (he : e = x ∨ H e = some (.own x)) (k : ∀ b u, b ≠ e → h.get? b = some u → h'.get? b = some u) (heo : ∃ u, h'.get? e = some u) : Un fs ex H (upd H x o) h h' := by
  have hx : ∀ b, H b = none → b ≠ x := fun b n z => by subst z; rw [n] at mu; exact mu
  have hb : ∀ b, H b = none → b ≠ e := fun b n z => by
    subst z
    rcases he with r | r
    · exact hx b n r
    · rw [n] at r; cases r
  have hm : ∀ b u, H b = some u → ¬ Mut (some u) → b ≠ x := fun b u q nm z => by subst z; rw [q] at mu; exact nm mu
  refine ⟨fun b u q n _ _ => k b u (hb b n) q, fun b u q n _ _ => ⟨u.slots, k b u (hb b n) q⟩, fun b u q n _ => by rw [upd_ne (hx b n)]; exact n, fun b u q _ => ?_,
    fun b xs q => by rw [upd_ne (hm b _ q fun z => z)]; exact q, fun b u xs q => by rw [upd_ne (hm b _ q fun z => z)]; exact q, fun b ps q => ⟨#[], by rw [upd_ne (hm b _ q fun z => z), q]; simp⟩⟩
  by_cases hbe : b = e
  · subst hbe; exact heo
  · exact ⟨u, k b u hbe q⟩
end

/-! ### the heap without what is tracked -/
def trk (h : Heap) (H : Hp) : List Addr := (List.range h.objs.size).filter fun a => (H a).isSome
def hidT (h : Heap) (H : Hp) : Heap := PySem.W.hideAll h (trk h H)
theorem hidT_size (h : Heap) (H : Hp) : (hidT h H).objs.size = h.objs.size := PySem.W.hideAll_size _ _
theorem hidT_get {h : Heap} {H : Hp} {b : Addr} {o : Obj} (e : h.get? b = some o) (n : H b = none) : (hidT h H).get? b = some o :=
  PySem.W.hideAll_get _ e fun hm => by
    have q : (H b).isSome = true := (List.mem_filter.mp hm).2
    rw [n] at q; simp at q
theorem of_hidT {h : Heap} {H : Hp} {b : Addr} {o : Obj} (e : (hidT h H).get? b = some o) : h.get? b = some o ∧ H b = none := by
  have e' : h.get? b = some o := PySem.W.of_hideAll (trk h H) e
  refine ⟨e', ?_⟩
  cases q : H b with
  | none => rfl
  | some x =>
    have hm : b ∈ trk h H := List.mem_filter.mpr ⟨List.mem_range.mpr (Heap.lt_size e'), by simp [q]⟩
    have z : (hidT h H).get? b = none := PySem.W.hideAll_none (trk h H) hm
    rw [z] at e; cases e

/-! ### OpenK's ledger, filled with every new object but one -/
def allNews (g h : Heap) (L : Addr) : List (Addr × Obj) := (List.range h.objs.size).filterMap fun a => if a = L ∨ (g.get? a).isSome = true then none else (h.get? a).map fun o => (a, o)
def rest (g h : Heap) (L d : Addr) : List (Addr × Obj) := (allNews g h L).filter fun p => decide (p.1 ≠ d)
end L2

namespace L2
open PySem PySem.Spec PyProof.Rows

/-- the module's facts, over the base: the heap at the law's entry without what is tracked there -/
structure Mod (K : PySem.W.Frag) (mg : Str → Option Value) (base : Heap) : Prop where
  kin : K.In base
  glob : base.Ns mainGlobals mg
  blt : ∃ mb, base.Ns builtinsNs mb ∧ ∀ x : Str, x ≠ "__name__" → mb x = bootBuiltins x
  nolimit : base.NoLimit

/-- the context: a def's body (or a comprehension's block) running. base: fixed through the whole law; s₀, H₀: the entry; outer: the frames whose slots others may change (a def's callers); stack: all frames that run;
   ex: iterators that were made ahead of the entry and are walked here (a comprehension's); fn: the names whose cells were made at the entry (a def: all; a comprehension's block: its own); calm: not within an except suite; pn: pins that every state bears; xe: what is wanted of an exception that leaves the code -/
structure Cx where
  prog : Program
  w : World
  K : PySem.W.Frag
  mg : Str → Option Value
  base : Heap
  A : Around
  N : List Str
  s_0 : Shared
  H_0 : Hp
  env : Env
  outer : List Env
  stack : List Env
  ex : List Addr
  fn : Str → Bool
  calm : Bool
  pn : List (Addr × Obj)
  xe : Value → Shared → Prop
/-- the callers' frames -/
def frs (l : List Env) : List Addr := l.filterMap (·.frame)
abbrev Cx.fs (X : Cx) : List Addr := frs X.outer

def Vis (sc : Scope) (x : Str) : Prop := sc.names.lookup x = some .local ∨ sc.names.lookup x = some .cell ∨ sc.names.lookup x = some .free
def Loc (sc : Scope) (x : Str) : Prop := sc.names.lookup x = some .local ∨ sc.names.lookup x = some .cell
def Look (env : Env) (h : Heap) (m : Str → Option Value) (x : Str) (u : Value) : Prop :=
  (env.kindOf x = some .local ∧ m x = some u) ∨ ((env.kindOf x = some .cell ∨ env.kindOf x = some .free) ∧ ∃ c, env.cells.lookup x = some c ∧ h.IsCell c (some u))

structure Cx.Ok (X : Cx) : Prop where
  mod : Mod X.K X.mg X.base
  kind : X.env.scope.kind = .function
  glob : X.env.globals = mainGlobals
  blt : X.env.builtins = builtinsNs
  above : X.s_0.heap.objs.size ≤ X.env.locals
  inj : ∀ x y c, X.env.cells.lookup x = some c → X.env.cells.lookup y = some c → x = y
  has : ∀ x, (X.env.kindOf x = some .cell ∨ X.env.kindOf x = some .free) → ∃ c, X.env.cells.lookup x = some c
  cab : ∀ x c, X.fn x = true → X.env.cells.lookup x = some c → X.s_0.heap.objs.size ≤ c
  hd : X.calm = true → X.A.handled = none
  frames : X.A.frames = some X.stack
  stk : X.stack = X.outer ∨ (X.stack = X.env :: X.outer ∧ X.env.frame = some X.env.locals)
  exf : ∀ b ∈ X.ex, b ≠ X.env.locals ∧ ∀ x c, X.env.cells.lookup x = some c → c ≠ b
  bs : ∀ b o, X.base.get? b = some o → X.s_0.heap.get? b = some o ∧ X.H_0 b = none
  bsz : X.base.objs.size ≤ X.s_0.heap.objs.size
  noex : ∀ b o, X.base.get? b = some o → b ∉ X.ex
  exfs : ∀ b ∈ X.ex, b ∉ X.fs
  funs : X.s_0.heap.FunFrames X.base X.outer
  frf : ∀ b ∈ X.fs, X.H_0 b = none

structure Inv (X : Cx) (pins : List (Addr × Obj)) (σ : List (Option V)) (H : Hp) (s : Shared) : Prop where
  ok : X.Ok
  os : s.os = X.s_0.os
  bare : AllBare s.gens
  base : Un X.fs X.ex X.H_0 H X.s_0.heap s.heap
  loc : ∃ m, s.heap.Ns X.env.locals m ∧ ∀ (i : Nat) (x : Str) (v : V), X.N[i]? = some x → σ[i]? = some (some v) → Vis X.env.scope x → ∃ u, RelV v u ∧ Look X.env s.heap m x u
  cell : ∀ x c, X.env.cells.lookup x = some c → ∃ v, s.heap.IsCell c v
  free : H X.env.locals = none
  freeC : ∀ x c, X.env.cells.lookup x = some c → H c = none
  pin : ∀ p ∈ X.pn ++ pins, s.heap.get? p.1 = some p.2 ∧ H p.1 = none ∧ p.1 ≠ X.env.locals ∧ p.1 ∉ X.fs ∧ ∀ v, p.2.data ≠ .cell v
  hok : HOk X.prog X.w H s.heap
  len : σ.length = X.N.length

section
variable {X : Cx} {pins : List (Addr × Obj)} {σ : List (Option V)} {H H' : Hp} {s : Shared} {h' : Heap}

theorem Cx.Ok.nofr (ok : X.Ok) {b : Addr} {o : Obj} (e : X.base.get? b = some o) : b ∉ X.fs := fun hb => by
  have := (ok.funs.mem hb).1
  rw [e] at this; cases this
theorem Inv.bs (I : Inv X pins σ H s) : ∀ b o, X.base.get? b = some o → s.heap.get? b = some o ∧ H b = none := fun b o e =>
  ⟨I.base.keep b o (I.ok.bs b o e).1 (I.ok.bs b o e).2 (I.ok.nofr e) (I.ok.noex b o e), I.base.free b o (I.ok.bs b o e).1 (I.ok.bs b o e).2 (I.ok.noex b o e)⟩
theorem Inv.bk (I : Inv X pins σ H s) : ∀ b o, X.base.get? b = some o → s.heap.get? b = some o := fun b o e => (I.bs b o e).1
theorem Inv.mod (I : Inv X pins σ H s) : Mod X.K X.mg X.base := I.ok.mod
theorem Inv.kIn (I : Inv X pins σ H s) : X.K.In s.heap := I.ok.mod.kin.keeps I.bk
theorem Inv.lt (I : Inv X pins σ H s) : X.env.locals < s.heap.objs.size := let ⟨_, hn, _⟩ := I.loc; hn.lt
theorem Inv.sz (I : Inv X pins σ H s) : X.s_0.heap.objs.size ≤ s.heap.objs.size := Nat.le_trans I.ok.above (Nat.le_of_lt I.lt)
theorem Inv.nofs (I : Inv X pins σ H s) {a : Addr} (h : s.heap.objs.size ≤ a) : a ∉ X.fs := fun hb => by
  obtain ⟨_, o, ho, _⟩ := I.ok.funs.mem hb
  exact absurd (Nat.lt_of_lt_of_le (Heap.lt_size ho) (Nat.le_trans I.sz h)) (Nat.lt_irrefl _)
theorem Inv.cne (I : Inv X pins σ H s) : ∀ x c, X.env.cells.lookup x = some c → c ≠ X.env.locals := fun x c e z => by
  obtain ⟨v, o, ho, hd⟩ := I.cell x c e
  obtain ⟨m, ⟨o', es, ep, ho', hd', _⟩, _⟩ := I.loc
  rw [z, ho'] at ho; cases ho; rw [hd'] at hd; cases hd
theorem Inv.funs (I : Inv X pins σ H s) : s.heap.FunFrames X.base X.outer := by
  have all : ∀ (l : List Env), (∀ b ∈ frs l, b ∈ X.fs) → X.s_0.heap.FunFrames X.base l → s.heap.FunFrames X.base l := by
    intro l
    induction l with
    | nil => intro _ _; trivial
    | cons env r ih =>
      intro hs hl
      obtain ⟨hk, ⟨L, o, hf, hn, ho, hd⟩, hr⟩ := hl
      have hL : L ∈ X.fs := hs L (by unfold frs; rw [List.filterMap_cons, hf]; exact List.mem_cons_self)
      obtain ⟨sl, e⟩ := I.base.slot L o ho (I.ok.frf L hL) hL fun z => I.ok.exfs L z hL
      exact ⟨hk, ⟨L, _, hf, hn, e, hd⟩, ih (fun b hb => hs b (by unfold frs; rw [List.filterMap_cons, hf]; exact List.mem_cons_of_mem _ hb)) hr⟩
  exact all X.outer (fun _ hb => hb) I.ok.funs

/-- the frames that run, for a call -/
theorem Inv.stack (I : Inv X pins σ H s) : s.heap.FunFrames X.base X.stack := by
  rcases I.ok.stk with e | ⟨e, hf⟩
  · rw [e]; exact I.funs
  · rw [e]
    obtain ⟨m, hn, _⟩ := I.loc
    refine .cons (by rw [I.ok.kind]; decide) hf hn ?_ I.funs
    exact Heap.get?_none_of_le (Nat.le_trans I.ok.bsz I.ok.above)
theorem Inv.stkSub (I : Inv X pins σ H s) : ∀ b ∈ frs X.stack, b ∈ X.env.locals :: X.fs := fun b hb => by
  rcases I.ok.stk with e | ⟨e, hf⟩
  · rw [e] at hb; exact List.mem_cons_of_mem _ hb
  · rw [e] at hb
    unfold frs at hb
    rw [List.filterMap_cons, hf] at hb
    exact hb
theorem Inv.stkFree (I : Inv X pins σ H s) : ∀ b ∈ frs X.stack, H b = none := fun b hb => by
  rcases List.mem_cons.mp (I.stkSub b hb) with e | hb
  · rw [e]; exact I.free
  · obtain ⟨_, o, ho, _⟩ := I.ok.funs.mem hb
    exact I.base.free b o ho (I.ok.frf b hb) fun z => I.ok.exfs b z hb

/-- THE STEP: the untracked objects but the frame and the records at ch are kept (the callers' frames up to slots), the frame's map is kept, the new abstract heap is held -/
theorem Inv.step {g' : Array GenState} {t' : Nat} {d' : Drawn} {ch : List Addr} (I : Inv X pins σ H s)
    (hch : ∀ b ∈ ch, (b ∈ X.ex ∨ X.s_0.heap.objs.size ≤ b) ∧ b ≠ X.env.locals ∧ (∀ x c, X.env.cells.lookup x = some c → c ≠ b) ∧ ∀ p ∈ X.pn ++ pins, p.1 ≠ b)
    (keep : ∀ b o, b ≠ X.env.locals → b ∉ X.fs → b ∉ ch → s.heap.get? b = some o → H b = none → h'.get? b = some o)
    (slot : ∀ b o, b ≠ X.env.locals → b ∈ X.fs → b ∉ ch → s.heap.get? b = some o → H b = none → ∃ sl, h'.get? b = some { o with slots := sl }) (free : ∀ b o, b ∉ ch → s.heap.get? b = some o → H b = none → H' b = none)
    (there : ∀ b o, b ∉ ch → s.heap.get? b = some o → ∃ o', h'.get? b = some o')
    (tups : ∀ b xs, H b = some (.tup xs) → H' b = some (.tup xs)) (frzs : ∀ b o u, H b = some (.frz o u) → H' b = some (.frz o u)) (tbls : ∀ b ps, H b = some (.tbl ps) → ∃ more, H' b = some (.tbl (ps ++ more)))
    (ns : ∀ m, s.heap.Ns X.env.locals m → h'.Ns X.env.locals m) (hok : HOk X.prog X.w H' h') (hg : AllBare g') :
    Inv X pins σ H' { s with heap := h', gens := g', drawn := d', toks := t' } := by
  have neL : ∀ b o, X.s_0.heap.get? b = some o → b ≠ X.env.locals := fun b o e => Nat.ne_of_lt (Nat.lt_of_lt_of_le (Heap.lt_size e) I.ok.above)
  have neC : ∀ b o, X.s_0.heap.get? b = some o → b ∉ X.ex → b ∉ ch := fun b o e hx hb => by
    rcases (hch b hb).1 with z | z
    · exact hx z
    · exact absurd (Nat.lt_of_lt_of_le (Heap.lt_size e) z) (Nat.lt_irrefl _)
  have cellK : ∀ x c, X.env.cells.lookup x = some c → ∀ v, s.heap.IsCell c v → h'.IsCell c v := fun x c e v ⟨o, ho, hd⟩ => by
    have nch : c ∉ ch := fun z => (hch c z).2.2.1 x c e rfl
    by_cases hc : c ∈ X.fs
    · obtain ⟨sl, q⟩ := slot c o (I.cne x c e) hc nch ho (I.freeC x c e)
      exact ⟨_, q, hd⟩
    · exact ⟨o, keep c o (I.cne x c e) hc nch ho (I.freeC x c e), hd⟩
  refine ⟨I.ok, I.os, hg, ⟨fun b o e n hb hx => ?_, fun b o e n hb hx => ?_, fun b o e n hx => ?_, fun b o e hx => ?_, fun b xs e => tups b xs (I.base.tups b xs e), fun b o xs e => frzs b o xs (I.base.frzs b o xs e), fun b ps e => ?_⟩, ?_, fun x c e => ?_, ?_, fun x c e => ?_, fun p hp => ?_, hok, I.len⟩
  · exact keep b o (neL b o e) hb (neC b o e hx) (I.base.keep b o e n hb hx) (I.base.free b o e n hx)
  · obtain ⟨sl, e1⟩ := I.base.slot b o e n hb hx
    obtain ⟨sl', e2⟩ := slot b _ (neL b o e) hb (neC b o e hx) e1 (I.base.free b o e n hx)
    exact ⟨sl', e2⟩
  · obtain ⟨o', e1⟩ := I.base.there b o e hx
    exact free b o' (neC b o e hx) e1 (I.base.free b o e n hx)
  · obtain ⟨o', e1⟩ := I.base.there b o e hx
    exact there b o' (neC b o e hx) e1
  · obtain ⟨m1, e1⟩ := I.base.tbls b ps e
    obtain ⟨m2, e2⟩ := tbls b _ e1
    exact ⟨m1 ++ m2, by rw [e2, Array.append_assoc]⟩
  · obtain ⟨m, hn, hl⟩ := I.loc
    refine ⟨m, ns m hn, fun i x v e1 e2 e3 => ?_⟩
    obtain ⟨u, r, l⟩ := hl i x v e1 e2 e3
    refine ⟨u, r, ?_⟩
    rcases l with l | ⟨k, c, e, z⟩
    · exact .inl l
    · exact .inr ⟨k, c, e, cellK x c e _ z⟩
  · obtain ⟨v, z⟩ := I.cell x c e
    exact ⟨v, cellK x c e v z⟩
  · obtain ⟨m, ⟨o, _, _, ho, _⟩, _⟩ := I.loc
    exact free _ o (fun z => (hch _ z).2.1 rfl) ho I.free
  · obtain ⟨v, o, ho, hd⟩ := I.cell x c e
    exact free c o (fun z => (hch c z).2.2.1 x c e rfl) ho (I.freeC x c e)
  · obtain ⟨e, n, ne, nf, d⟩ := I.pin p hp
    have nch : p.1 ∉ ch := fun z => (hch p.1 z).2.2.2 p hp rfl
    exact ⟨keep p.1 p.2 ne nf nch e n, free p.1 p.2 nch e n, ne, nf, d⟩
/-- .. where the frame's own object is kept too -/
theorem Inv.un {t' : Nat} (I : Inv X pins σ H s) (u : Un X.fs [] H H' s.heap h') (hok : HOk X.prog X.w H' h') : Inv X pins σ H' { s with heap := h', toks := t' } := by
  obtain ⟨m, ⟨o, es, ep, ho, r⟩, _⟩ := id I.loc
  obtain ⟨sl, hL⟩ := u.any ho I.free (by simp)
  exact I.step (g' := s.gens) (d' := s.drawn) (ch := []) (fun _ z => nomatch z) (fun b o _ hb _ e n => u.keep b o e n hb (by simp)) (fun b o _ hb _ e n => u.slot b o e n hb (by simp)) (fun b o _ e n => u.free b o e n (by simp)) (fun b o _ e => u.there b o e (by simp)) u.tups u.frzs u.tbls (fun m' hm => by
    obtain ⟨o', es', ep', ho', r'⟩ := hm
    rw [ho] at ho'; cases ho'
    exact ⟨_, es', ep', hL, r'⟩) hok I.bare
/-- behind a call (or a comprehension's block): the slots of this frame may have changed too, the records at ch may have turned -/
theorem Inv.call {g' : Array GenState} {t' : Nat} {d' : Drawn} {ch : List Addr} (I : Inv X pins σ H s) (u : Un (frs X.stack) ch H H' s.heap h') (hok : HOk X.prog X.w H' h') (hg : AllBare g')
    (hch : ∀ b ∈ ch, (b ∈ X.ex ∨ X.s_0.heap.objs.size ≤ b) ∧ b ≠ X.env.locals ∧ (∀ x c, X.env.cells.lookup x = some c → c ≠ b) ∧ ∀ p ∈ X.pn ++ pins, p.1 ≠ b) :
    Inv X pins σ H' { s with heap := h', gens := g', drawn := d', toks := t' } := by
  obtain ⟨m, ⟨o, es, ep, ho, r⟩, _⟩ := id I.loc
  obtain ⟨sl, hL⟩ := u.any ho I.free fun z => (hch _ z).2.1 rfl
  exact I.step (ch := ch) hch (fun b o hL hb hc e n => u.keep b o e n (fun z => (List.mem_cons.mp (I.stkSub b z)).elim hL hb) hc) (fun b o _ _ hc e n => u.any e n hc) (fun b o hc e n => u.free b o e n hc) (fun b o hc e => u.there b o e hc) u.tups u.frzs u.tbls (fun m' hm => by
    obtain ⟨o', es', ep', ho', r'⟩ := hm
    rw [ho] at ho'; cases ho'
    exact ⟨_, es', ep', hL, r'⟩) hok hg
/-- an untracked record of ours (an iterator) has turned -/
theorem Inv.turned {t' : Nat} {it : Addr} (I : Inv X pins σ H s) (k : ∀ b o, b ≠ it → s.heap.get? b = some o → h'.get? b = some o) (hn : H it = none) (hL : it ≠ X.env.locals)
    (h1 : it ∈ X.ex ∨ X.s_0.heap.objs.size ≤ it) (h2 : ∀ x c, X.env.cells.lookup x = some c → c ≠ it) (h3 : ∀ p ∈ X.pn ++ pins, p.1 ≠ it) : Inv X pins σ H { s with heap := h', toks := t' } := by
  have nit : ∀ b u, H b = some u → b ≠ it := fun b u e z => by rw [z, hn] at e; cases e
  refine I.step (g' := s.gens) (d' := s.drawn) (ch := [it]) (fun b hb => ?_) (fun b o _ _ hc e _ => k b o (fun z => hc (by simp [z])) e) (fun b o _ _ hc e _ => ⟨o.slots, k b o (fun z => hc (by simp [z])) e⟩) (fun _ _ _ _ n => n)
    (fun b o hc e => ⟨o, k b o (fun z => hc (by simp [z])) e⟩) (fun _ _ e => e) (fun _ _ _ e => e) (fun b ps e => ⟨#[], by rw [e]; simp⟩) (fun m hm => ?_) (fun b u e => ?_) I.bare
  · have e : b = it := by simpa using hb
    subst e
    exact ⟨h1, hL, h2, h3⟩
  · obtain ⟨o, es, ep, ho, r⟩ := hm
    exact ⟨o, es, ep, k _ o (Ne.symm hL) ho, r⟩
  · refine (I.hok b u e).stay (fun c v hc q => k c v ?_ q) (fun _ q => q) fun _ _ q => q
    rcases hc with z | z
    · rw [z]; exact nit b u e
    · exact nit c _ z
theorem Inv.tok (I : Inv X pins σ H s) (t : Nat) : Inv X pins σ H { s with toks := t } := I.un (h' := s.heap) (t' := t) Un.refl I.hok
/-- all objects kept -/
theorem Inv.kept {t' : Nat} (I : Inv X pins σ H s) (k : ∀ b u, s.heap.get? b = some u → h'.get? b = some u) : Inv X pins σ H { s with heap := h', toks := t' } := I.un (Un.kept k) (I.hok.kept k)
/-- a new object laid and tracked -/
theorem Inv.laid {a : Addr} {o : HO} {t' : Nat} (I : Inv X pins σ H s) (k : ∀ b u, s.heap.get? b = some u → h'.get? b = some u) (hp : s.heap.objs.size ≤ a) (new : ObjOk X.prog X.w (upd H a o) h' a o) :
    Inv X pins σ (upd H a o) { s with heap := h', toks := t' } := I.un (Un.laid k hp (I.hok.fresh hp)) (I.hok.laid k hp new)
/-- an object written -/
theorem Inv.write {x e : Addr} {o : HO} {t' : Nat} (I : Inv X pins σ H s) (mu : Mut (H x)) (he : e = x ∨ H e = some (.own x)) (k : ∀ b u, b ≠ e → s.heap.get? b = some u → h'.get? b = some u) (heo : ∃ u, h'.get? e = some u)
    (new : ObjOk X.prog X.w (upd H x o) h' x o) : Inv X pins σ (upd H x o) { s with heap := h', toks := t' } := I.un (Un.write mu he k heo) (I.hok.write mu he k heo new)
/-- forgetting slots, pins -/
theorem Inv.weak {σ' : List (Option V)} (I : Inv X pins σ H s) (hl : σ'.length = σ.length) (w : ∀ (i : Nat) v, σ'[i]? = some (some v) → σ[i]? = some (some v)) : Inv X pins σ' H s :=
  ⟨I.ok, I.os, I.bare, I.base, let ⟨m, hn, hl'⟩ := I.loc; ⟨m, hn, fun i x v e1 e2 e3 => hl' i x v e1 (w i v e2) e3⟩, I.cell, I.free, I.freeC, I.pin, I.hok, hl.trans I.len⟩
theorem Inv.pins_of {pins' : List (Addr × Obj)} (I : Inv X pins σ H s) (h : ∀ p ∈ pins', s.heap.get? p.1 = some p.2 ∧ H p.1 = none ∧ p.1 ≠ X.env.locals ∧ p.1 ∉ X.fs ∧ ∀ v, p.2.data ≠ .cell v) : Inv X pins' σ H s :=
  ⟨I.ok, I.os, I.bare, I.base, I.loc, I.cell, I.free, I.freeC, fun p hp => (List.mem_append.mp hp).elim (fun z => I.pin p (List.mem_append_left _ z)) (h p), I.hok, I.len⟩

theorem nodup_ix {N : List Str} (hN : N.Nodup) {i j : Nat} {x : Str} (a : N[i]? = some x) (b : N[j]? = some x) : i = j := by
  obtain ⟨h1, e1⟩ := List.getElem?_eq_some_iff.mp a
  obtain ⟨h2, e2⟩ := List.getElem?_eq_some_iff.mp b
  exact (List.getElem_inj hN).mp (e1.trans e2.symm)

/-- a name is stored; what changed -/
theorem store_ok2 {M : Model} {A : Around} {E : Value → Shared → Prop} {i : Nat} {x : Str} {v : V} {u : Value} {Q : Unit → Shared → Prop} (I : Inv X pins σ H s) (hN : X.N.Nodup) (hi : X.N[i]? = some x) (hx : Loc X.env.scope x) (r : RelV v u)
    (h : ∀ s', Inv X pins (σ.set i (some v)) H s' → (∃ a, Heap.SameBut a s.heap s'.heap ∧ (a = X.env.locals ∨ X.env.cells.lookup x = some a)) → Q () s') (hf : X.fn x = true ∨ X.env.scope.names.lookup x = some .local := by first | exact .inl rfl | exact .inr rfl | assumption) : wpAny M A (storeName X.env x u) Q E s := by
  obtain ⟨m, hn, hl⟩ := id I.loc
  have hcls : (X.env.scope.kind == .class || (X.env.scope.kind == .module && X.env.locals != X.env.globals)) = false := by rw [I.ok.kind]; rfl
  have hiσ : i < σ.length := by rw [I.len]; exact (List.getElem?_eq_some_iff.mp hi).1
  have cne := I.cne
  have tracked : ∀ {a : Addr} {h' : Heap}, (∃ o, s.heap.get? a = some o ∧ H a = none) → Heap.SameBut a s.heap h' → HOk X.prog X.w H h' := fun {a h'} ha hs b ob e => by
    obtain ⟨_, _, hfree⟩ := ha
    refine (I.hok b ob e).stay (fun c w' hc q => (hs.2 c ?_).trans q) (fun _ q => q) fun _ _ q => q
    rintro rfl
    rcases hc with rfl | hc
    · rw [hfree] at e; cases e
    · rw [hfree] at hc; cases hc
  rcases hx with hk | hk
  · refine wpAny_storeName_local hk hn (fun h' hn' hs => ?_) hcls
    obtain ⟨oL, _, _, hoL, _⟩ := id hn
    refine h _ ⟨I.ok, I.os, I.bare, ⟨fun b o e n hb hx => ?_, fun b o e n hb hx => ?_, I.base.free, fun b o e hx => ?_, I.base.tups, I.base.frzs, I.base.tbls⟩, ⟨_, hn', fun j y v' e1 e2 e3 => ?_⟩, fun y c e => ?_, I.free, I.freeC, fun p hp => ?_, tracked ⟨oL, hoL, I.free⟩ hs, by simpa using I.len⟩ ⟨_, hs, .inl rfl⟩
    · exact (hs.2 b (Nat.ne_of_lt (Nat.lt_of_lt_of_le (Heap.lt_size e) I.ok.above))).trans (I.base.keep b o e n hb hx)
    · obtain ⟨sl, e1⟩ := I.base.slot b o e n hb hx
      exact ⟨sl, (hs.2 b (Nat.ne_of_lt (Nat.lt_of_lt_of_le (Heap.lt_size e) I.ok.above))).trans e1⟩
    · obtain ⟨o', e1⟩ := I.base.there b o e hx
      exact ⟨o', (hs.2 b (Nat.ne_of_lt (Nat.lt_of_lt_of_le (Heap.lt_size e) I.ok.above))).trans e1⟩
    · by_cases hj : j = i
      · subst hj
        rw [hi] at e1; cases e1
        rw [List.getElem?_set_self hiσ] at e2
        cases e2
        exact ⟨u, r, .inl ⟨hk, by simp⟩⟩
      · rw [List.getElem?_set_ne (Ne.symm hj)] at e2
        obtain ⟨u', r', q⟩ := hl j y v' e1 e2 e3
        refine ⟨u', r', ?_⟩
        rcases q with ⟨k, e⟩ | ⟨k, c, e, z⟩
        · refine .inl ⟨k, ?_⟩
          have : y ≠ x := fun e => hj (nodup_ix hN e1 (e ▸ hi))
          simp [this, e]
        · exact .inr ⟨k, c, e, z.sameBut hs (cne y c e)⟩
    · obtain ⟨w', z⟩ := I.cell y c e
      exact ⟨w', z.sameBut hs (cne y c e)⟩
    · obtain ⟨e, n, ne, nf, d⟩ := I.pin p hp
      exact ⟨(hs.2 p.1 ne).trans e, n, ne, nf, d⟩
  · have hfn : X.fn x = true := by
      rcases hf with z | z
      · exact z
      · rw [z] at hk; cases hk
    obtain ⟨c, hc⟩ := I.ok.has x (.inl hk)
    obtain ⟨w', z⟩ := I.cell x c hc
    refine wpAny_storeName_cell I.ok.kind hk hc z (fun h' hc' hs => ?_)
    obtain ⟨oc, hoc, hocd⟩ := id z
    refine h { s with heap := h' } ⟨I.ok, I.os, I.bare, ⟨fun b o e n hb hx => ?_, fun b o e n hb hx => ?_, I.base.free, fun b o e hx => ?_, I.base.tups, I.base.frzs, I.base.tbls⟩, ⟨m, hn.sameBut hs (Ne.symm (cne x c hc)), fun j y v' e1 e2 e3 => ?_⟩, fun y c' e => ?_, I.free, I.freeC, fun p hp => ?_, tracked ⟨oc, hoc, I.freeC x c hc⟩ hs, by simpa using I.len⟩ ⟨c, hs, .inr hc⟩
    · exact (hs.2 b (Nat.ne_of_lt (Nat.lt_of_lt_of_le (Heap.lt_size e) (I.ok.cab x c hfn hc)))).trans (I.base.keep b o e n hb hx)
    · obtain ⟨sl, e1⟩ := I.base.slot b o e n hb hx
      exact ⟨sl, (hs.2 b (Nat.ne_of_lt (Nat.lt_of_lt_of_le (Heap.lt_size e) (I.ok.cab x c hfn hc)))).trans e1⟩
    · obtain ⟨o', e1⟩ := I.base.there b o e hx
      exact ⟨o', (hs.2 b (Nat.ne_of_lt (Nat.lt_of_lt_of_le (Heap.lt_size e) (I.ok.cab x c hfn hc)))).trans e1⟩
    · by_cases hj : j = i
      · subst hj
        rw [hi] at e1; cases e1
        rw [List.getElem?_set_self hiσ] at e2
        cases e2
        exact ⟨u, r, .inr ⟨.inl hk, c, hc, hc'⟩⟩
      · rw [List.getElem?_set_ne (Ne.symm hj)] at e2
        obtain ⟨u', r', q⟩ := hl j y v' e1 e2 e3
        refine ⟨u', r', ?_⟩
        rcases q with q | ⟨k, c', e, z'⟩
        · exact .inl q
        · refine .inr ⟨k, c', e, z'.sameBut hs ?_⟩
          rintro rfl
          exact hj (nodup_ix hN e1 (I.ok.inj _ _ _ e hc ▸ hi))
    · by_cases hcc : c' = c
      · subst hcc; exact ⟨_, hc'⟩
      · obtain ⟨w2, z2⟩ := I.cell y c' e
        exact ⟨w2, z2.sameBut hs hcc⟩
    · obtain ⟨e, n, ne, nf, d⟩ := I.pin p hp
      refine ⟨(hs.2 p.1 ?_).trans e, n, ne, nf, d⟩
      intro q
      rw [q, hoc] at e
      have q' : oc = p.2 := Option.some.inj e
      exact d w' (by rw [← q']; exact hocd)
theorem store_ok {M : Model} {A : Around} {E : Value → Shared → Prop} {i : Nat} {x : Str} {v : V} {u : Value} {Q : Unit → Shared → Prop} (I : Inv X pins σ H s) (hN : X.N.Nodup) (hi : X.N[i]? = some x) (hx : Loc X.env.scope x) (r : RelV v u)
    (h : ∀ s', Inv X pins (σ.set i (some v)) H s' → Q () s') (hf : X.fn x = true ∨ X.env.scope.names.lookup x = some .local := by first | exact .inl rfl | exact .inr rfl | assumption) : wpAny M A (storeName X.env x u) Q E s :=
  store_ok2 I hN hi hx r (fun s' I' _ => h s' I') hf
/-- behind a call or a block, the state as it is -/
theorem Inv.call' {s' : Shared} {ch : List Addr} (I : Inv X pins σ H s) (ho : s'.os = s.os) (u : Un (frs X.stack) ch H H' s.heap s'.heap) (hok : HOk X.prog X.w H' s'.heap) (hg : AllBare s'.gens)
    (hch : ∀ b ∈ ch, (b ∈ X.ex ∨ X.s_0.heap.objs.size ≤ b) ∧ b ≠ X.env.locals ∧ (∀ x c, X.env.cells.lookup x = some c → c ≠ b) ∧ ∀ p ∈ X.pn ++ pins, p.1 ≠ b) : Inv X pins σ H' s' := by
  obtain ⟨h', g', d', t', o'⟩ := s'
  have e : o' = s.os := ho
  subst e
  exact I.call (g' := g') (t' := t') (d' := d') u hok hg hch
end

/-! ### the judgements -/
/-- an exception: its class, its own dict's address (where it has one), the abstract heap behind it -/
abbrev XK := Value → Option Addr → Hp → Prop
abbrev St := List (Option V)
abbrev VK := V → Hp → Prop
/-- an expression's reading; a test's; an argument list's -/
abbrev TE := St → Hp → VK → Prop
abbrev TT := St → Hp → (Bool → Hp → Prop) → Prop
abbrev TA := St → Hp → (List V → Hp → Prop) → Prop
/-- what is wanted behind a statement -/
structure Ends where
  nx : St → Hp → Prop
  rt : VK
  bk : St → Hp → Prop := fun _ _ => False
  ct : St → Hp → Prop := fun _ _ => False
abbrev TS := Ends → St → Hp → Prop

def EP (X : Cx) (pins : List (Addr × Obj)) (σ : St) (Q : VK) (u : Value) (s' : Shared) : Prop := ∃ v H', Inv X pins σ H' s' ∧ RelV v u ∧ Q v H'
def TP (X : Cx) (pins : List (Addr × Obj)) (σ : St) (Q : Bool → Hp → Prop) (b : Bool) (s' : Shared) : Prop := ∃ H', Inv X pins σ H' s' ∧ Q b H'
def AP (X : Cx) (pins : List (Addr × Obj)) (σ : St) (Q : List V → Hp → Prop) (us : List Value) (s' : Shared) : Prop := ∃ vs H', Inv X pins σ H' s' ∧ Vals vs us ∧ Q vs H'
def SP (X : Cx) (pins : List (Addr × Obj)) (D : Ends) (f : Flow) (s' : Shared) : Prop :=
  match f with
  | .next => ∃ σ' H', Inv X pins σ' H' s' ∧ D.nx σ' H'
  | .brk => ∃ σ' H', Inv X pins σ' H' s' ∧ D.bk σ' H'
  | .cont => ∃ σ' H', Inv X pins σ' H' s' ∧ D.ct σ' H'
  | .ret u => ∃ v σ' H', Inv X pins σ' H' s' ∧ RelV v u ∧ D.rt v H'

def PE (X : Cx) (e : Expr) (t : TE) : Prop :=
  ∀ (pins : List (Addr × Obj)) (s : Shared) (σ : St) (H : Hp) (Q : VK), Inv X pins σ H s → t σ H Q → wpAny (model X.prog X.w) X.A (eval e X.env) (EP X pins σ Q) X.xe s
def PT (X : Cx) (e : Expr) (t : TT) : Prop :=
  ∀ (pins : List (Addr × Obj)) (s : Shared) (σ : St) (H : Hp) (Q : Bool → Hp → Prop), Inv X pins σ H s → t σ H Q → wpAny (model X.prog X.w) X.A (isTrue e X.env (eval e X.env)) (TP X pins σ Q) X.xe s
/-- a test whatever its 'whole' is (and, or) -/
def PW (X : Cx) (e : Expr) (t : TT) : Prop :=
  ∀ (whole : Sem Value) (pins : List (Addr × Obj)) (s : Shared) (σ : St) (H : Hp) (Q : Bool → Hp → Prop), Inv X pins σ H s → t σ H Q → wpAny (model X.prog X.w) X.A (isTrue e X.env whole) (TP X pins σ Q) X.xe s
theorem PW.pt {X : Cx} {e : Expr} {t : TT} (h : PW X e t) : PT X e t := h _
/-- an argument list (no star), from the left -/
def PA (X : Cx) (es : List Expr) (t : TA) : Prop :=
  ∀ (pos : Pos) (pins : List (Addr × Obj)) (s : Shared) (σ : St) (H : Hp) (Q : List V → Hp → Prop), Inv X pins σ H s → t σ H Q → wpAny (model X.prog X.w) X.A (spliced (backTo pos (starEach es X.env))) (AP X pins σ Q) X.xe s
def PS (X : Cx) (st : Stmt) (t : TS) : Prop :=
  ∀ (pins : List (Addr × Obj)) (s : Shared) (σ : St) (H : Hp) (D : Ends), Inv X pins σ H s → t D σ H → wpAny (model X.prog X.w) X.A (exec st X.env) (SP X pins D) X.xe s
def PSs (X : Cx) (st : List Stmt) (t : TS) : Prop :=
  ∀ (pins : List (Addr × Obj)) (s : Shared) (σ : St) (H : Hp) (D : Ends), Inv X pins σ H s → t D σ H → wpAny (model X.prog X.w) X.A (execs st X.env) (SP X pins D) X.xe s
/-- weaken the end -/
theorem thn {α : Type} {t : Sem α} {Q Q' : α → Shared → Prop} {M : Model} {A : Around} {E : Value → Shared → Prop} {s : Shared} (h : wpAny M A t Q E s) (hQ : ∀ a s, Q a s → Q' a s) : wpAny M A t Q' E s := wpAny_mono h hQ fun _ _ x => x
end L2

namespace L2
open PySem PySem.Spec PyProof.Rows
section
variable {X : Cx}


/-! ### names and constants -/
def tVar (i : Nat) : TE := fun σ H Q => ∃ v, σ[i]? = some (some v) ∧ Q v H
def tC (v : V) : TE := fun _ H Q => Q v H
theorem pe_var {i : Nat} {x : Str} {pos : Pos} (hN : X.N[i]? = some x) (hv : Vis X.env.scope x) (hd : (x == ("__debug__" : Str)) = false := by decide) (hcd : (x == ("__classdict__" : Str)) = false := by decide) : PE X (.Name x pos) (tVar i) := by
  intro pins s σ H Q I h
  obtain ⟨v, e, h⟩ := h
  obtain ⟨m, hn, hl⟩ := I.loc
  obtain ⟨u, r, l⟩ := hl i x v hN e hv
  have fin : EP X pins σ Q u s := ⟨v, H, I, r, h⟩
  rcases l with ⟨hk, hm⟩ | ⟨hk, c, hc, hcell⟩
  · exact wpAny_Name (wpAny_loadName_local I.ok.kind hk hn hm fin) hd
  · rcases hk with hk | hk
    · exact wpAny_Name (wpAny_loadName_cell I.ok.kind hk hc hcell fin) hd
    · exact wpAny_Name (wpAny_loadName_free I.ok.kind hk hc hcell fin hcd) hd
theorem pe_int {i j pos} : PE X (.Constant (.int i) j pos) (tC (.int i)) := fun _ _ _ H _ I h => wpAny_Constant_int ⟨.int i, H, I.tok _, ⟨_, rfl⟩, h⟩
theorem pe_non {j pos} : PE X (.Constant .none j pos) (tC .non) := fun _ _ _ H _ I h => Constant_none ⟨.non, H, I, rfl, h⟩

/-- a global name of the def -/
def Gl (X : Cx) (x : Str) : Prop := X.env.kindOf x = some .globalImplicit
theorem ld_glob {E : Value → Shared → Prop} {pins : List (Addr × Obj)} {s : Shared} {σ : St} {H : Hp} {x : Str} {u : Value} {pos : Pos} {Q : Value → Shared → Prop} (I : Inv X pins σ H s) (hg : Gl X x) (hm : X.mg x = some u) (h : Q u s)
    (hd : (x == ("__debug__" : Str)) = false := by decide) : wpAny (model X.prog X.w) X.A (eval (.Name x pos) X.env) Q E s :=
  Calls.Name_function_global I.ok.kind hg (Calls.loadGlobal_global (by rw [I.ok.glob]; exact I.mod.glob.keeps I.bk) hm h) hd
theorem ld_blt {E : Value → Shared → Prop} {pins : List (Addr × Obj)} {s : Shared} {σ : St} {H : Hp} {x : Str} {u : Value} {pos : Pos} {Q : Value → Shared → Prop} (I : Inv X pins σ H s) (hg : Gl X x) (hm : X.mg x = none) (hv : bootBuiltins x = some u) (h : Q u s)
    (hn : x ≠ "__name__" := by decide) (hd : (x == ("__debug__" : Str)) = false := by decide) : wpAny (model X.prog X.w) X.A (eval (.Name x pos) X.env) Q E s := by
  obtain ⟨mb, h1, h2⟩ := I.mod.blt
  exact Calls.Name_function_global I.ok.kind hg (Calls.loadGlobal_builtin (by rw [I.ok.glob]; exact I.mod.glob.keeps I.bk) hm (by rw [I.ok.blt]; exact h1.keeps I.bk) ((h2 x hn).trans hv) h) hd
/-- a module's constant, a class, a function, as a value -/
theorem pe_glob {x : Str} {v : V} {u : Value} {pos : Pos} (hg : Gl X x) (hm : X.mg x = some u) (r : RelV v u) (hd : (x == ("__debug__" : Str)) = false := by decide) : PE X (.Name x pos) (tC v) :=
  fun _ _ _ H _ I h => ld_glob I hg hm ⟨v, H, I, r, h⟩ hd

/-! ### arithmetic -/
/-- two ints -/
def t2I (ta tb : TE) (k : Int → Int → Hp → Prop) : St → Hp → Prop := fun σ H => ta σ H fun x H1 => tb σ H1 fun y H2 => ∃ i j, x = .int i ∧ y = .int j ∧ k i j H2
def tAdd (ta tb : TE) : TE := fun σ H Q => t2I ta tb (fun i j H2 => Q (.int (i + j)) H2) σ H
def tSub (ta tb : TE) : TE := fun σ H Q => t2I ta tb (fun i j H2 => Q (.int (i - j)) H2) σ H
/-- the left factor below 2^64 -/
def tMul (ta tb : TE) : TE := fun σ H Q => t2I ta tb (fun i j H2 => (-(2 ^ 64) < i ∧ i < 2 ^ 64) ∧ Q (.int (i * j)) H2) σ H
variable {a b : Expr} {ta tb : TE} {pos : Pos}

/-! ### comparisons -/
def PC (X : Cx) (op : CmpOp) (a b : Expr) (t : TE) : Prop :=
  ∀ (pins : List (Addr × Obj)) (s : Shared) (σ : St) (H : Hp) (Q : VK), Inv X pins σ H s → t σ H Q →
    wpAny (model X.prog X.w) X.A (eval a X.env) (fun v s₁ => wpAny (model X.prog X.w) X.A (eval b X.env) (fun u s₂ => wpAny (model X.prog X.w) X.A (compareOp op v u) (EP X pins σ Q) X.xe s₂) X.xe s₁) X.xe s
def tCmp (p : Int → Int → Bool) (ta tb : TE) : TE := fun σ H Q => t2I ta tb (fun i j H2 => Q (.bl (p i j)) H2) σ H
abbrev tLt : TE → TE → TE := tCmp fun i j => decide (i < j)
abbrev tLe : TE → TE → TE := tCmp fun i j => decide (i ≤ j)
abbrev tGt : TE → TE → TE := tCmp fun i j => decide (j < i)
abbrev tGe : TE → TE → TE := tCmp fun i j => decide (j ≤ i)
abbrev tEqI : TE → TE → TE := tCmp fun i j => decide (i = j)
abbrev tNeI : TE → TE → TE := tCmp fun i j => !decide (i = j)
/-- is None -/
def tIsN (ta : TE) : TE := fun σ H Q => ta σ H fun x H1 => Q (.bl (decide (x = .non))) H1
def tNotN (ta : TE) : TE := fun σ H Q => ta σ H fun x H1 => Q (.bl (!decide (x = .non))) H1
/-- a comparison as a value, as a test -/
def tB (t : TE) : TT := fun σ H Q => t σ H fun x H1 => ∃ c, x = .bl c ∧ Q c H1
/-- an expression whose value is a bool, as a test -/
theorem pt_val {e : Expr} {t : TE} (h : PE X e t) (he : ∀ whole, isTrue e X.env whole = (do let v ← whole; standAt e.pos; holding [v] (truthy v)) := by intro _; rfl) : PT X e (tB t) := by
  intro pins s σ H Q I hw
  refine isTrue_plain (thn (h pins s σ H _ I hw) fun v s1 ⟨x, H1, I1, r1, q1⟩ => ?_) (he _)
  obtain ⟨d, rfl, q⟩ := q1
  cases r1
  exact wpAny_truthy_bool ⟨H1, I1, q⟩

/-! ### and, or, not -/
variable {tA tB' : TT} {rest : List Expr}
def tAnd (t u : TT) : TT := fun σ H Q => t σ H fun c H1 => if c = true then u σ H1 Q else Q false H1
def tOr (t u : TT) : TT := fun σ H Q => t σ H fun c H1 => if c = true then Q true H1 else u σ H1 Q
def tNot (t : TT) : TT := fun σ H Q => t σ H fun c H1 => Q (!c) H1
theorem pw_or1 (ha : PT X a tA) : PW X (.BoolOp .Or [a] pos) tA := by
  intro wh pins s σ H Q I h
  refine isTrue_or (thn (ha pins s σ H Q I h) fun c s1 e => ?_)
  cases c with
  | false => exact isTrue_or_nil e
  | true => exact e
theorem pw_or (ha : PT X a tA) (hb : PW X (.BoolOp .Or (b :: rest) pos) tB') : PW X (.BoolOp .Or (a :: b :: rest) pos) (tOr tA tB') := by
  intro wh pins s σ H Q I h
  refine isTrue_or (thn (ha pins s σ H _ I h) fun c s1 ⟨H1, I1, q1⟩ => ?_)
  cases c with
  | true => exact ⟨H1, I1, q1⟩
  | false => exact hb wh pins s1 σ H1 Q I1 q1
/-- .. as values (bools) -/
def tAndV (ta tb : TE) : TE := fun σ H Q => ta σ H fun x H1 => ∃ c, x = .bl c ∧ if c = true then tb σ H1 Q else Q (.bl false) H1
def tOrV (ta tb : TE) : TE := fun σ H Q => ta σ H fun x H1 => ∃ c, x = .bl c ∧ if c = true then Q (.bl true) H1 else tb σ H1 Q
def tNotV (ta : TE) : TE := fun σ H Q => ta σ H fun x H1 => ∃ c, x = .bl c ∧ Q (.bl (!c)) H1
/-- a if t else b -/
def tIf (t : TT) (ta tb : TE) : TE := fun σ H Q => t σ H fun c H1 => if c = true then ta σ H1 Q else tb σ H1 Q
end
end L2

namespace L2
open PySem PySem.Spec PyProof.Rows

/-! ### a list, a tuple that is read: tracked, frozen, or an object of the module -/
def SqL (K : PySem.W.Frag) (H : Hp) (a : Addr) (xs : List V) : Prop :=
  Rd H a (.lst xs) ∨
    ∃ (o : Obj) (its : Array Value) (n : Nat), K.lookup a = some o ∧ o.cls = .type "list" ∧ o.dict = none ∧ o.data = .seq its n ∧ its.size ≤ sizeLine ∧ Vals xs its.toList
def SqT (K : PySem.W.Frag) (H : Hp) (a : Addr) (xs : List V) : Prop :=
  Rd H a (.tup xs) ∨
    ∃ (o : Obj) (its : Array Value) (n : Nat), K.lookup a = some o ∧ o.cls = .type "tuple" ∧ o.data = .seq its n ∧ its.size ≤ sizeLine ∧ Vals xs its.toList
def absV : Value → Option V
  | .none => some .non
  | .bool b => some (.bl b)
  | .int i _ => some (.int i)
  | .str x _ => some (.str x)
  | .bytes b _ => some (.byt b)
  | .float b _ => some (.flt b)
  | .ref a => some (.ref a)
  | .type n => some (.ty n)
  | _ => none
theorem RelV.abs {x : V} {u : Value} (r : RelV x u) : absV u = some x := by
  cases x with
  | non => cases r; rfl
  | bl _ => cases r; rfl
  | int _ => obtain ⟨t, rfl⟩ := r; rfl
  | str _ => obtain ⟨t, rfl⟩ := r; rfl
  | byt _ => obtain ⟨t, rfl⟩ := r; rfl
  | flt _ => obtain ⟨t, rfl⟩ := r; rfl
  | ref _ => cases r; rfl
  | ty _ => cases r; rfl
theorem RelV.inj {x y : V} {u : Value} (r : RelV x u) (q : RelV y u) : x = y := Option.some.inj (r.abs.symm.trans q.abs)
theorem Vals.inj : ∀ {xs ys : List V} {us : List Value}, Vals xs us → Vals ys us → xs = ys
  | _, _, _, .nil, .nil => rfl
  | _, _, _, .cons r t, .cons r' t' => by rw [r.inj r', Vals.inj t t']
section
variable {X : Cx} {pins : List (Addr × Obj)} {σ : St} {H : Hp} {s : Shared} {a : Addr} {xs ys : List V}
theorem SqL.of {K : PySem.W.Frag} (h : H a = some (.lst xs)) : SqL K H a xs := .inl (.inl h)
theorem Inv.list (I : Inv X pins σ H s) (h : SqL X.K H a xs) : ∃ its : List Value, Vals xs its ∧ PlainL s.heap a its.toArray ∧ xs.length ≤ sizeLine := by
  rcases h with h | ⟨o, its, n, hk, hc, hd, hs, hz, r⟩
  · obtain ⟨z, its, n, r, e⟩ := h.ok I.hok
    exact ⟨its, r, ⟨_, n, e, rfl, rfl, rfl⟩, z⟩
  · refine ⟨its.toList, r, ⟨o, n, I.kIn a o hk, hc, hd, by simpa using hs⟩, ?_⟩
    have e := r.length
    simp only [Array.length_toList] at e
    omega
theorem Inv.tuple (I : Inv X pins σ H s) (h : SqT X.K H a xs) : ∃ its : List Value, Vals xs its ∧ IsTup s.heap a its.toArray ∧ xs.length ≤ sizeLine := by
  rcases h with h | ⟨o, its, n, hk, hc, hs, hz, r⟩
  · obtain ⟨z, its, r, p⟩ := h.ok I.hok
    exact ⟨its, r, p, z⟩
  · refine ⟨its.toList, r, ⟨o, I.kIn a o hk, hc, n, by simpa using hs⟩, ?_⟩
    have e := r.length
    simp only [Array.length_toList] at e
    omega
theorem Inv.list_inj (I : Inv X pins σ H s) (h : SqL X.K H a xs) (h' : SqL X.K H a ys) : xs = ys := by
  obtain ⟨its, r, ⟨o, n, e, _, _, d⟩, _⟩ := I.list h
  obtain ⟨its', r', ⟨o', n', e', _, _, d'⟩, _⟩ := I.list h'
  rw [e] at e'; cases e'
  rw [d] at d'
  injection d' with d1 _
  have : its = its' := by simpa using congrArg Array.toList d1
  subst this
  exact r.inj r'
end

/-! ### another wish about exceptions -/
abbrev Cx.wish (X : Cx) (E : Value → Shared → Prop) : Cx := { X with xe := E }
/-- no exception leaves -/
abbrev Cx.nox (X : Cx) : Cx := X.wish fun _ _ => False
theorem Cx.Ok.wish {X : Cx} (ok : X.Ok) (E : Value → Shared → Prop) : (X.wish E).Ok :=
  ⟨ok.mod, ok.kind, ok.glob, ok.blt, ok.above, ok.inj, ok.has, ok.cab, ok.hd, ok.frames, ok.stk, ok.exf, ok.bs, ok.bsz, ok.noex, ok.exfs, ok.funs, ok.frf⟩
theorem Cx.Ok.unwish {X : Cx} {E : Value → Shared → Prop} (ok : (X.wish E).Ok) : X.Ok :=
  ⟨ok.mod, ok.kind, ok.glob, ok.blt, ok.above, ok.inj, ok.has, ok.cab, ok.hd, ok.frames, ok.stk, ok.exf, ok.bs, ok.bsz, ok.noex, ok.exfs, ok.funs, ok.frf⟩
section
variable {X : Cx} {pins : List (Addr × Obj)} {σ : St} {H : Hp} {s : Shared} {E : Value → Shared → Prop}
theorem Inv.wish (I : Inv X pins σ H s) (E : Value → Shared → Prop) : Inv (X.wish E) pins σ H s := ⟨I.ok.wish E, I.os, I.bare, I.base, I.loc, I.cell, I.free, I.freeC, I.pin, I.hok, I.len⟩
theorem Inv.unwish (I : Inv (X.wish E) pins σ H s) : Inv X pins σ H s := ⟨I.ok.unwish, I.os, I.bare, I.base, I.loc, I.cell, I.free, I.freeC, I.pin, I.hok, I.len⟩
theorem SP.unwish {D : Ends} {f : Flow} {s' : Shared} (h : SP (X.wish E) pins D f s') : SP X pins D f s' := by
  cases f with
  | next => obtain ⟨σ', H', I, q⟩ := h; exact ⟨σ', H', I.unwish, q⟩
  | brk => obtain ⟨σ', H', I, q⟩ := h; exact ⟨σ', H', I.unwish, q⟩
  | cont => obtain ⟨σ', H', I, q⟩ := h; exact ⟨σ', H', I.unwish, q⟩
  | ret u => obtain ⟨v, σ', H', I, r, q⟩ := h; exact ⟨v, σ', H', I.unwish, r, q⟩
theorem PSs.nox {st : List Stmt} {t : TS} (h : PSs X.nox st t) : PSs X st t := fun pins s σ H D I hw =>
  wpAny_mono (h pins s σ H D (I.wish _) hw) (fun _ _ q => q.unwish) fun _ _ z => False.elim z
end

/-! ### blocks and small statements -/
section
variable {X : Cx} {st : Stmt} {rest : List Stmt} {t u : TS} {e : Expr} {te : TE} {pos : Pos}
def tNext : TS := fun D σ H => D.nx σ H
def tSeq (t u : TS) : TS := fun D σ H => t { D with nx := u D } σ H
theorem pss_nil : PSs X [] tNext := fun _ _ σ H _ I h => wpAny_execs_nil ⟨σ, H, I, h⟩
theorem pss_cons (h1 : PS X st t) (h2 : PSs X rest u) : PSs X (st :: rest) (tSeq t u) := by
  intro pins s σ H D I h
  refine wpAny_execs_cons (thn (h1 pins s σ H { D with nx := u D } I h) fun f s1 q => ?_)
  cases f with
  | next =>
    obtain ⟨σ', H', I', q⟩ := q
    exact h2 pins s1 σ' H' D I' q
  | ret v => exact q
  | brk => exact q
  | cont => exact q
theorem pss_one (h1 : PS X st t) : PSs X [st] t := by
  intro pins s σ H D I h
  refine wpAny_execs_cons (thn (h1 pins s σ H D I h) fun f s1 q => ?_)
  cases f with
  | next => exact wpAny_execs_nil q
  | ret v => exact q
  | brk => exact q
  | cont => exact q
def tBreak : TS := fun D σ H => D.bk σ H
def tCont : TS := fun D σ H => D.ct σ H
theorem ps_break : PS X (.Break pos) tBreak := fun _ _ σ H _ I h => wpAny_Break ⟨σ, H, I, h⟩
/-- in a def's body nothing is shown -/
theorem Inv.quiet {pins : List (Addr × Obj)} {σ : St} {H : Hp} {s : Shared} (I : Inv X pins σ H s) : interactive X.env = false := by simp [interactive, I.ok.kind]
/-- an expression whose value is dropped -/
def tDrop (te : TE) : TS := fun D σ H => te σ H fun _ H1 => D.nx σ H1
theorem ps_expr (he : PE X e te) (hs : swapsWith e none pos.line X.env = pure false := by rfl) : PS X (.Expr e pos) (tDrop te) := by
  intro pins s σ H D I h
  exact wpAny_Expr_any (thn (he pins s σ H _ I h) fun v s1 ⟨x, H1, I1, r1, q1⟩ => ⟨σ, H1, I1, q1⟩) I.quiet hs
def tRet (te : TE) : TS := fun D σ H => te σ H D.rt
theorem ps_ret (he : PE X e te) : PS X (.Return (some e) pos) (tRet te) := by
  intro pins s σ H D I h
  exact wpAny_Return_some (thn (he pins s σ H _ I h) fun v s1 ⟨x, H1, I1, r1, q1⟩ => ⟨x, σ, H1, I1, r1, q1⟩)
def tRetN : TS := fun D _ H => D.rt .non H
def tIfS (c : TT) (t u : TS) : TS := fun D σ H => c σ H fun b H1 => if b = true then t D σ H1 else u D σ H1
theorem ps_if {c : Expr} {a b : List Stmt} {tc : TT} (hc : PT X c tc) (ha : PSs X a t) (hb : PSs X b u) : PS X (.If c a b pos) (tIfS tc t u) := by
  intro pins s σ H D I h
  refine wpAny_If (thn (hc pins s σ H _ I h) fun d s1 ⟨H1, I1, q1⟩ => ?_)
  cases d with
  | true => exact ha pins s1 σ H1 D I1 q1
  | false => exact hb pins s1 σ H1 D I1 q1
/-- code that the proof never comes to -/
def tNever : TS := fun _ _ _ => False
theorem ps_never : PS X st tNever := fun _ _ _ _ _ _ h => h.elim
end

/-! ### targets -/
abbrev TG := V → St → Hp → (St → Hp → Prop) → Prop
abbrev TGs := List V → St → Hp → (St → Hp → Prop) → Prop
def PG (X : Cx) (target : Expr) (t : TG) : Prop :=
  ∀ (pins : List (Addr × Obj)) (s : Shared) (σ : St) (H : Hp) (v : V) (u : Value) (Q : St → Hp → Prop), Inv X pins σ H s → RelV v u → t v σ H Q →
    wpAny (model X.prog X.w) X.A (assign target X.env u) (fun _ s' => ∃ σ' H', Inv X pins σ' H' s' ∧ Q σ' H') X.xe s
/-- several targets, one after another -/
def PGs (X : Cx) (ts : List Expr) (t : TGs) : Prop :=
  ∀ (pins : List (Addr × Obj)) (s : Shared) (σ : St) (H : Hp) (vs : List V) (us : List Value) (Q : St → Hp → Prop), Inv X pins σ H s → Vals vs us → t vs σ H Q →
    wpAny (model X.prog X.w) X.A (assignInOrder ((assignEach ts X.env).map (·.2)) us) (fun _ s' => ∃ σ' H', Inv X pins σ' H' s' ∧ Q σ' H') X.xe s
/-- o[i] = v, by values -/
abbrev TSet := V → V → V → Hp → (Hp → Prop) → Prop
def PSet (X : Cx) (t : TSet) : Prop :=
  ∀ (pins : List (Addr × Obj)) (s : Shared) (σ : St) (H : Hp) (o i v : V) (ov iv u : Value) (Q : Hp → Prop), Inv X pins σ H s → RelV o ov → RelV i iv → RelV v u → t o i v H Q →
    wpAny (model X.prog X.w) X.A (setItem ov iv u) (fun _ s' => ∃ H', Inv X pins σ H' s' ∧ Q H') X.xe s
/-- a op= b, by values -/
abbrev TIp := V → V → Hp → VK → Prop
def PIp (X : Cx) (op : Operator) (t : TIp) : Prop :=
  ∀ (pins : List (Addr × Obj)) (s : Shared) (σ : St) (H : Hp) (x y : V) (v u : Value) (Q : VK), Inv X pins σ H s → RelV x v → RelV y u → t x y H Q →
    wpAny (model X.prog X.w) X.A (inplaceOp op v u) (EP X pins σ Q) X.xe s
section
variable {X : Cx} {pos : Pos}
def gName (i : Nat) : TG := fun v σ H Q => Q (σ.set i (some v)) H
theorem pg_name {i : Nat} {x : Str} (hN : X.N.Nodup) (hi : X.N[i]? = some x) (hx : Loc X.env.scope x) (hf : X.fn x = true ∨ X.env.scope.names.lookup x = some .local := by first | exact .inl rfl | exact .inr rfl | assumption) : PG X (.Name x pos) (gName i) := by
  intro pins s σ H v u Q I r h
  exact wpAny_assign_Name (store_ok I hN hi hx r (fun s' I' => ⟨_, H, I', h⟩) hf)
def gNil : TGs := fun vs σ H Q => vs = [] ∧ Q σ H
def gCons (t : TG) (u : TGs) : TGs := fun vs σ H Q => ∃ v r, vs = v :: r ∧ t v σ H fun σ' H' => u r σ' H' Q
/-- (a, b, ..) = a tuple of that length -/
def gTup (K : PySem.W.Frag) (n : Nat) (t : TGs) : TG := fun v σ H Q => ∃ a xs, v = .ref a ∧ SqT K H a xs ∧ xs.length = n ∧ t xs σ H Q
/-- o[i] = .. -/
def gSub (to ti : TE) (t : TSet) : TG := fun v σ H Q => to σ H fun o H1 => ti σ H1 fun i H2 => t o i v H2 fun H3 => Q σ H3
theorem pg_sub {o i : Expr} {to ti : TE} {t : TSet} (ho : PE X o to) (hi : PE X i ti) (hs : PSet X t)
    (ha : ∀ v, assign (.Subscript o i pos) X.env v = (do
      let ov ← holding [v] (eval o X.env)
      let iv ← holding [v, ov] (eval i X.env)
      standAt pos
      holding [v, ov, iv] (setItem ov iv v)
      release [v, ov, iv] []) := by intro _; rfl) : PG X (.Subscript o i pos) (gSub to ti t) := by
  intro pins s σ H v u Q I r h
  rw [ha]
  refine wpAny_bind (wpAny_holding (thn (ho pins s σ H _ I h) fun ov s1 ⟨x, H1, I1, r1, q1⟩ => ?_))
  refine wpAny_bind (wpAny_holding (thn (hi pins s1 σ H1 _ I1 q1) fun iv s2 ⟨y, H2, I2, r2, q2⟩ => ?_))
  refine wpAny_bind (wpAny_standAt (wpAny_bind (wpAny_holding (thn (hs pins s2 σ H2 x y v ov iv u _ I2 r1 r2 r q2) fun _ s3 ⟨H3, I3, q3⟩ => ?_))))
  exact wpAny_release ⟨σ, H3, I3, q3⟩
/-- target = value -/
def tAsg (te : TE) (g : TG) : TS := fun D σ H => te σ H fun x H1 => g x σ H1 D.nx
theorem ps_asg {tg e : Expr} {te : TE} {g : TG} (he : PE X e te) (hg : PG X tg g) (hs : swapsWithSole [tg] e pos.line X.env = pure false := by rfl) (hw : swappedStores [tg] e X.env = pure none := by rfl)
    (h1 : (assignEach [tg] X.env).map (·.2) = [assign tg X.env] := by rfl) : PS X (.Assign [tg] e pos) (tAsg te g) := by
  intro pins s σ H D I h
  refine wpAny_Assign_stores (thn (he pins s σ H _ I h) fun v s1 ⟨x, H1, I1, r1, q1⟩ => ?_) hs hw
  rw [h1]
  exact thn (hg pins s1 σ H1 x v _ I1 r1 q1) fun _ s2 q => q
/-- name = value -/
theorem ps_set {i : Nat} {x : Str} {e : Expr} {te : TE} {pos' : Pos} (hN : X.N.Nodup) (hi : X.N[i]? = some x) (hx : Loc X.env.scope x) (he : PE X e te) (hs : swapsWith e (some (.Name x pos')) pos.line X.env = pure false := by rfl) (hf : X.fn x = true ∨ X.env.scope.names.lookup x = some .local := by first | exact .inl rfl | exact .inr rfl | assumption) :
    PS X (.Assign [.Name x pos'] e pos) (tAsg te (gName i)) := by
  intro pins s σ H D I h
  refine wpAny_Assign_Name (thn (he pins s σ H _ I h) fun v s1 ⟨y, H1, I1, r1, q1⟩ => ?_) hs
  exact store_ok I1 hN hi hx r1 (fun s2 I2 => ⟨_, H1, I2, q1⟩) hf
/-- a, b = x, y with plain local names: stored from the right; the pair itself is not tracked (the opening rows as in PyProof/Rows/TupAssign.lean:23) -/
def tPar (i j : Nat) (ta : TA) : TS := fun D σ H => ta σ H fun vs H1 => ∃ v w, vs = [v, w] ∧ D.nx ((σ.set i (some v)).set j (some w)) H1
/-- name op= e -/
def tAug (i : Nat) (te : TE) (ti : TIp) : TS := fun D σ H => ∃ x, σ[i]? = some (some x) ∧ te σ H fun y H1 => ti x y H1 fun z H2 => D.nx (σ.set i (some z)) H2
/-- o[i] op= e -/
def tAugS (to ti te : TE) (tget : V → V → Hp → VK → Prop) (tip : TIp) (tset : TSet) : TS := fun D σ H => to σ H fun o H1 => ti σ H1 fun i H2 => tget o i H2 fun x H3 => te σ H3 fun y H4 => tip x y H4 fun z H5 => tset o i z H5 fun H6 => D.nx σ H6
/-- o[i], by values -/
def PGet (X : Cx) (t : V → V → Hp → VK → Prop) : Prop :=
  ∀ (pins : List (Addr × Obj)) (s : Shared) (σ : St) (H : Hp) (o i : V) (ov iv : Value) (Q : VK), Inv X pins σ H s → RelV o ov → RelV i iv → t o i H Q →
    wpAny (model X.prog X.w) X.A (getItem ov iv) (EP X pins σ Q) X.xe s
/-- ints -/
def ipI (f : Int → Int → Int) : TIp := fun x y H Q => ∃ i j, x = .int i ∧ y = .int j ∧ Q (.int (f i j)) H
end

/-! ### while -/
section
variable {X : Cx} {pos : Pos}
/-- the invariant W with its measure -/
def tWhile (c : TT) (tb : TS) : TS := fun D σ H => ∃ W : Nat → St → Hp → Prop, (∃ m, W m σ H) ∧ ∀ m σ H, W m σ H →
  c σ H fun b H1 => if b = true then ∃ N : St → Hp → Prop, (∀ σ' H', N σ' H' → ∃ m', m' < m ∧ W m' σ' H') ∧ tb { D with nx := N, ct := N, bk := D.nx } σ H1 else D.nx σ H1
theorem ps_while {c : Expr} {body : List Stmt} {tc : TT} {tb : TS} (hp : PassesOwn (model X.prog X.w) X.A X.env X.xe) (hc : PT X c tc) (hb : PSs X body tb) : PS X (.While c body [] pos) (tWhile tc tb) := by
  intro pins s σ H D I h
  obtain ⟨W, ⟨m0, w0⟩, turn⟩ := h
  refine wpAny_While (codeAny_whileLoop (fun n s' => ∃ σ' H', Inv X pins σ' H' s' ∧ W n σ' H') ?_ m0 ⟨σ, H, I, w0⟩)
  rintro n s1 ⟨σ1, H1, I1, w1⟩
  refine wpAny_passesOwn hp (thn (hc pins s1 σ1 H1 _ I1 (turn n σ1 H1 w1)) fun b s2 ⟨H2, I2, q2⟩ => ?_)
  cases b with
  | true =>
    obtain ⟨N, hN, q2⟩ := q2
    rw [if_pos rfl]
    refine wpAny_passesOwn hp (thn (hb pins s2 σ1 H2 _ I2 q2) fun f s3 q3 => ?_)
    cases f with
    | next =>
      obtain ⟨σ3, H3, I3, n3⟩ := q3
      obtain ⟨m', hm, w3⟩ := hN σ3 H3 n3
      exact ⟨m', hm, σ3, H3, I3, w3⟩
    | cont =>
      obtain ⟨σ3, H3, I3, n3⟩ := q3
      obtain ⟨m', hm, w3⟩ := hN σ3 H3 n3
      exact ⟨m', hm, σ3, H3, I3, w3⟩
    | brk => exact q3
    | ret v => exact q3
  | false =>
    rw [if_neg Bool.false_ne_true]
    exact wpAny_execs_nil ⟨σ1, H2, I2, q2⟩
end

/-! ### what a loop or a comprehension walks -/
/-- at turn i: it yields x (the heap may grow), or it stops -/
structure It where
  go : Nat → Hp → Prop
  yld : Nat → Hp → V → Hp → Prop
  stop : Nat → Hp → Prop
/-- the iterator's own objects may turn: they are not the frame's, not pinned, younger than the entry (or a comprehension's own) -/
def FpOk (X : Cx) (pins : List (Addr × Obj)) (H : Hp) (b : Addr) : Prop :=
  H b = none ∧ b ≠ X.env.locals ∧ b ∉ X.fs ∧ (b ∈ X.ex ∨ X.s_0.heap.objs.size ≤ b) ∧ (∀ x c, X.env.cells.lookup x = some c → c ≠ b) ∧ ∀ p ∈ X.pn ++ pins, p.1 ≠ b
theorem Inv.fpOk {X : Cx} {pins : List (Addr × Obj)} {σ : St} {H H' : Hp} {s : Shared} {b : Addr} (I : Inv X pins σ H s) (hb : s.heap.objs.size ≤ b) (hn : H' b = none) : FpOk X pins H' b := by
  refine ⟨hn, Nat.ne_of_gt (Nat.lt_of_lt_of_le I.lt hb), I.nofs hb, .inr (Nat.le_trans I.sz hb), fun x c e z => ?_, fun p hp z => ?_⟩
  · obtain ⟨v, q⟩ := I.cell x c e
    exact absurd (Nat.lt_of_lt_of_le q.lt (by rw [z]; exact hb)) (Nat.lt_irrefl _)
  · exact absurd (Nat.lt_of_lt_of_le (Heap.lt_size (I.pin p hp).1) (by rw [z]; exact hb)) (Nat.lt_irrefl _)
structure Turn (P : Program) (w : World) (K : PySem.W.Frag) (tg : Expr) (J : It) (fp : List Addr) (it : Addr) (tn : Nat → Heap → Prop) : Prop where
  mem : it ∈ fp
  obj : ∀ i h, tn i h → ∀ b ∈ fp, ∃ o, h.get? b = some o ∧ ∀ v, o.data ≠ .cell v
  keep : ∀ i h h', tn i h → (∀ b ∈ fp, ∀ o, h.get? b = some o → h'.get? b = some o) → tn i h'
  item : ∀ (X : Cx), X.prog = P → X.w = w → X.K = K → X.calm = true → ∀ (i : Nat) (pins : List (Addr × Obj)) (s : Shared) (σ : St) (H : Hp) (E : Value → Shared → Prop), Inv X pins σ H s → (∀ b ∈ fp, FpOk X pins H b) → tn i s.heap → J.go i H →
    wpAny (model P w) X.A (pyNext (.ref it)) (fun r s1 => ∃ u, r = some u ∧
      wpAny (model P w) X.A (letOwnedTupleGo tg (.ref it) u) (fun _ s2 => ∃ x H', Inv X pins σ H' s2 ∧ RelV x u ∧ J.yld i H x H' ∧ tn (i + 1) s2.heap ∧ ∀ b ∈ fp, H' b = none) E s1) E s
  done : ∀ (X : Cx), X.prog = P → X.w = w → X.K = K → X.calm = true → ∀ (i : Nat) (pins : List (Addr × Obj)) (s : Shared) (σ : St) (H : Hp) (E : Value → Shared → Prop), Inv X pins σ H s → (∀ b ∈ fp, FpOk X pins H b) → tn i s.heap → J.stop i H →
    wpAny (model P w) X.A (pyNext (.ref it)) (fun r s1 => r = none ∧ Inv X pins σ H s1) E s
  self : ∀ (A : Around) (i : Nat) (s : Shared) (Q : Value → Shared → Prop) (E : Value → Shared → Prop), tn i s.heap → Q (.ref it) s → wpAny (model P w) A (pyIter (.ref it)) Q E s
abbrev TI := St → Hp → (It → Hp → Prop) → Prop
/-- an iterator has come -/
def PIE (X : Cx) (pins : List (Addr × Obj)) (σ : St) (tg : Expr) (R : It → Hp → Prop) (itv : Value) (s2 : Shared) : Prop :=
  ∃ (it : Addr) (fp : List Addr) (tn : Nat → Heap → Prop) (J : It) (H' : Hp), itv = .ref it ∧ Inv X pins σ H' s2 ∧ Turn X.prog X.w X.K tg J fp it tn ∧ tn 0 s2.heap ∧ (∀ b ∈ fp, FpOk X pins H' b) ∧ R J H'
def PI (X : Cx) (tg iter : Expr) (wi : TI) : Prop :=
  ∀ (pins : List (Addr × Obj)) (s : Shared) (σ : St) (H : Hp) (R : It → Hp → Prop), Inv X pins σ H s → wi σ H R →
    wpAny (model X.prog X.w) X.A (eval iter X.env) (fun v s1 => wpAny (model X.prog X.w) X.A (pyIter v) (PIE X pins σ tg R) X.xe s1) X.xe s

/-- the step ahead of the store is nothing for an iterator that keeps no tuple -/
theorem go_of {M : Model} {A : Around} {E : Value → Shared → Prop} {s : Shared} {tg : Expr} {it : Addr} {u : Value} {o : Obj} {n : String} {vs : Array Value} {Q : Unit → Shared → Prop} (ho : s.heap.get? it = some o) (hc : o.cls = .type n) (hd : o.data = .fields vs)
    (hn : ["enumerate", "zip", "dict_itemiterator", "dict_reverseitemiterator", "odict_iterator", "itertools.zip_longest", "itertools.pairwise"].contains n = false) (hQ : Q () s) : wpAny M A (letOwnedTupleGo tg (.ref it) u) Q E s := by
  unfold letOwnedTupleGo
  cases tg <;> first
    | exact wpAny_pure hQ
    | (cases u <;> first
        | exact wpAny_pure hQ
        | (refine wpAny_bind (wpAny_load ho ?_)
           rw [hc, hd]
           show wpAny M A (if (["enumerate", "zip", "dict_itemiterator", "dict_reverseitemiterator", "odict_iterator", "itertools.zip_longest", "itertools.pairwise"].contains n && vs[0]? == some (rawInt _)) = true then _ else _) Q E s
           rw [if_neg (by intro h; rw [hn, Bool.false_and] at h; cases h)]
           exact wpAny_pure hQ))

/-- the list at a, as it stands at each turn (a loop may append to it) -/
def Itl (K : PySem.W.Frag) (a : Addr) : It :=
  ⟨fun i H => ∃ xs x, SqL K H a xs ∧ xs[i]? = some x, fun i H x H' => H' = H ∧ ∀ xs, SqL K H a xs → xs[i]? = some x, fun i H => ∃ xs, SqL K H a xs ∧ xs.length ≤ i⟩
def Itt (K : PySem.W.Frag) (a : Addr) : It :=
  ⟨fun i H => ∃ xs x, SqT K H a xs ∧ xs[i]? = some x, fun i H x H' => H' = H ∧ ∀ xs, SqT K H a xs → xs[i]? = some x, fun i H => ∃ xs, SqT K H a xs ∧ xs.length ≤ i⟩
/-- lo, lo + 1, .. (n of them) -/
def Itr (lo : Int) (n : Nat) : It := ⟨fun i _ => i < n, fun i H x H' => H' = H ∧ x = .int (lo + i), fun i _ => n ≤ i⟩
theorem turn_list {P : Program} {w : World} {K : PySem.W.Frag} {tg : Expr} (a it : Addr) : Turn P w K tg (Itl K a) [it] it (fun i h => h.IsListIter it a i) where
  mem := by simp
  obj := fun i h st b hb => by
    have e : b = it := by simpa using hb
    subst e
    obtain ⟨o, e, c, d⟩ := st
    exact ⟨o, e, fun v z => by rw [d] at z; cases z⟩
  keep := fun i h h' st k => st.at fun o e => k it (by simp) o e
  item := by
    intro X hP hw hK hc i pins s σ H E I hf st hg
    subst hP hw hK
    obtain ⟨xs, x, hq, hx⟩ := hg
    obtain ⟨its, rv, p, hz⟩ := I.list hq
    obtain ⟨u, hu, ru⟩ := rv.get hx
    obtain ⟨f0, f1, f2, f3, f4, f5⟩ := hf it (by simp)
    refine wpAny_pyNext_list_item st p.isList (x := u) (by simpa using hu) fun h' st' sb => ?_
    have I1 : Inv X pins σ H { s with heap := h' } := I.turned (t' := s.toks) (fun b o hb e => (sb.2 b hb).trans e) f0 f1 f3 f4 f5
    obtain ⟨o, e, c, d⟩ := id st'
    exact ⟨u, rfl, go_of (s := { s with heap := h' }) e c d (by decide) ⟨x, H, I1, ru, ⟨rfl, fun ys hy => by rw [I.list_inj hy hq]; exact hx⟩, st', fun b hb => (hf b hb).1⟩⟩
  done := by
    intro X hP hw hK hc i pins s σ H E I hf st hg
    subst hP hw hK
    obtain ⟨xs, hq, hx⟩ := hg
    obtain ⟨its, rv, p, hz⟩ := I.list hq
    obtain ⟨f0, f1, f2, f3, f4, f5⟩ := hf it (by simp)
    have hl := rv.length
    exact wpAny_pyNext_list_end (I.ok.hd hc) st p.isList (by simp; omega) fun h' eb => ⟨rfl, I.turned (t' := s.toks) (fun b o hb e => eb b o hb e) f0 f1 f3 f4 f5⟩
  self := fun _ _ _ _ _ st h => wpAny_pyIter_listiter st h
theorem turn_range {P : Program} {w : World} {K : PySem.W.Frag} {tg : Expr} (it : Addr) (lo : Int) (n : Nat) : Turn P w K tg (Itr lo n) [it] it (fun i h => IsRangeIter h it (lo + (i : Nat) * 1) ((n : Int) - (i : Nat)) 1) where
  mem := by simp
  obj := fun i h st b hb => by
    have e : b = it := by simpa using hb
    subst e
    exact ⟨_, st, fun v z => by
      have z' : Data.fields _ = Data.cell v := z
      cases z'⟩
  keep := fun i h h' st k => k it (by simp) _ st
  item := by
    intro X hP hw hK hc i pins s σ H E I hf st hg
    subst hP hw hK
    obtain ⟨f0, f1, f2, f3, f4, f5⟩ := hf it (by simp)
    have W := Walks.range (prog := X.prog) (w := X.w) (I.ok.hd hc) it lo 1 n
    refine W.item i s _ _ hg st fun v h' tk hv st' kk => ?_
    obtain ⟨t, rfl⟩ := hv
    have I1 : Inv X pins σ H { s with heap := h', toks := tk } := I.turned (fun b o hb e => kk b o (by simpa using hb) e) f0 f1 f3 f4 f5
    refine ⟨_, rfl, go_of (s := { s with heap := h', toks := tk }) (n := "range_iterator") st' rfl rfl (by decide) ⟨.int (lo + i), H, I1, ⟨t, ?_⟩, ⟨rfl, rfl⟩, st', fun b hb => (hf b hb).1⟩⟩
    rw [Int.mul_one]
  done := by
    intro X hP hw hK hc i pins s σ H E I hf st hg
    subst hP hw hK
    obtain ⟨f0, f1, f2, f3, f4, f5⟩ := hf it (by simp)
    exact wpAny_pyNext_range_end (I.ok.hd hc) st (by have : n ≤ i := hg; omega) fun h' eb => ⟨rfl, I.turned (t' := s.toks) (fun b o hb e => eb b o hb e) f0 f1 f3 f4 f5⟩
  self := fun _ _ _ _ _ st h => wpAny_pyIter_rangeiter st h
end L2

namespace L2
open PySem PySem.Spec PyProof.Rows
section
variable {X : Cx} {tg : Expr}
def iList (K : PySem.W.Frag) (tl : TE) : TI := fun σ H R => tl σ H fun x H1 => ∃ a, x = .ref a ∧ (∃ xs, SqL K H1 a xs) ∧ R (Itl K a) H1
def iTup (K : PySem.W.Frag) (tl : TE) : TI := fun σ H R => tl σ H fun x H1 => ∃ a, x = .ref a ∧ (∃ xs, SqT K H1 a xs) ∧ R (Itt K a) H1
theorem pi_list {l : Expr} {tl : TE} (hl : PE X l tl) : PI X tg l (iList X.K tl) := by
  intro pins s σ H R I h
  refine thn (hl pins s σ H _ I h) fun v s1 ⟨x, H1, I1, r1, q1⟩ => ?_
  obtain ⟨a, e, ⟨xs, hq⟩, q⟩ := q1
  subst e
  cases r1
  obtain ⟨its, rv, p, hz⟩ := I1.list hq
  refine wpAny_pyIter_list p.isList ?_
  refine ⟨s1.heap.objs.size, [s1.heap.objs.size], _, _, H1, rfl, I1.kept (t' := s1.toks) fun b o e => Heap.get?_push_of_some _ e, turn_list a _, ⟨_, Heap.get?_push_size _ rfl, rfl, rfl⟩, fun b hb => ?_, q⟩
  have e : b = s1.heap.objs.size := by simpa using hb
  subst e
  exact I1.fpOk (Nat.le_refl _) (I1.hok.fresh (Nat.le_refl _))
/-- a range object just made, walked -/
theorem range_it {pins : List (Addr × Obj)} {σ : St} {H : Hp} {s : Shared} {R : It → Hp → Prop} {E : Value → Shared → Prop} {lo hi : Int} {t u v : Tok} {tk : Nat} (I : Inv X pins σ H s) (h1 : -(2 ^ 62) ≤ lo) (h2 : lo < 2 ^ 62) (h3 : -(2 ^ 62) ≤ hi) (h4 : hi < 2 ^ 62)
    (q : R (Itr lo (hi - lo).toNat) H) : wpAny (model X.prog X.w) X.A (pyIter (.ref s.heap.objs.size)) (PIE X pins σ tg R) E { s with heap := s.heap.push { cls := .type "range", data := .fields #[.int lo t, .int hi u, .int 1 v] }, toks := tk } := by
  refine wpAny_pyIter_range (IsRange.new ..) (small_one h1 h2 h3 h4) ?_
  have I1 : Inv X pins σ H { s with heap := s.heap.push { cls := .type "range", data := .fields #[.int lo t, .int hi u, .int 1 v] }, toks := tk } := I.kept fun b o e => Heap.get?_push_of_some _ e
  refine ⟨(s.heap.push { cls := .type "range", data := .fields #[.int lo t, .int hi u, .int 1 v] }).objs.size, [(s.heap.push { cls := .type "range", data := .fields #[.int lo t, .int hi u, .int 1 v] }).objs.size], _, _, H, rfl,
    I1.kept (t' := tk) fun b o e => Heap.get?_push_of_some _ e, turn_range _ lo (hi - lo).toNat, ?_, fun b hb => ?_, q⟩
  · have e1 : lo + ((0 : Nat) : Int) * 1 = lo := by simp
    have e2 : (((hi - lo).toNat : Nat) : Int) - ((0 : Nat) : Int) = Builtin.Range.rangeSize lo hi 1 := by rw [rangeSize_one]; split <;> omega
    show IsRangeIter _ _ (lo + ((0 : Nat) : Int) * 1) ((((hi - lo).toNat : Nat) : Int) - ((0 : Nat) : Int)) 1
    rw [e1, e2]
    exact Heap.get?_push_size _ rfl
  · have e : b = (s.heap.push { cls := .type "range", data := .fields #[.int lo t, .int hi u, .int 1 v] }).objs.size := by simpa using hb
    subst e
    exact I1.fpOk (Nat.le_refl _) (I1.hok.fresh (Nat.le_refl _))
def iRng1 (ta : TA) : TI := fun σ H R => ta σ H fun vs H1 => ∃ j : Int, vs = [.int j] ∧ -(2 ^ 62) ≤ j ∧ j < 2 ^ 62 ∧ R (Itr 0 j.toNat) H1
def iRng2 (ta : TA) : TI := fun σ H R => ta σ H fun vs H1 => ∃ i j : Int, vs = [.int i, .int j] ∧ (-(2 ^ 62) ≤ i ∧ i < 2 ^ 62 ∧ -(2 ^ 62) ≤ j ∧ j < 2 ^ 62) ∧ R (Itr i (j - i).toNat) H1
theorem pi_range1 {a : Expr} {ta : TA} {p pos : Pos} (hg : Gl X "range") (hm : X.mg "range" = none) (ha : PA X [a] ta) (hs : starEach [a] X.env = [(false, eval a X.env)] := by rfl) : PI X tg (.Call (.Name "range" p) [a] [] pos) (iRng1 ta) := by
  intro pins s σ H R I h
  refine Call_ (ld_blt I hg hm boot_range (PyProof.Rows.callWith_type1 (thn (ha pos pins s σ H _ I h) fun us s1 ⟨vs, H1, I1, r1, q1⟩ => ?_) hs rfl))
  obtain ⟨j, e, q1, q2, q⟩ := q1
  subst e
  cases r1 with
  | cons r rr =>
    cases rr
    obtain ⟨t, rfl⟩ := r
    exact call_range_1 (range_it I1 (by omega) (by omega) q1 q2 (by simpa using q))

/-! ### for -/
/-- W: the invariant by the turn and a measure; N: what the body is to reach -/
def tFor (wi : TI) (g : TG) (tb : TS) : TS := fun D σ H => wi σ H fun J H1 => ∃ W : Nat → Nat → St → Hp → Prop, (∃ m, W 0 m σ H1) ∧ ∀ i m σ H, W i m σ H →
  (J.stop i H ∧ D.nx σ H) ∨ (J.go i H ∧ ∃ N : St → Hp → Prop, (∀ σ' H', N σ' H' → ∃ m', m' < m ∧ W (i + 1) m' σ' H') ∧ ∀ x H', J.yld i H x H' → g x σ H' fun σ2 H2 => tb { D with nx := N, ct := N, bk := D.nx } σ2 H2)
/-- the records at fp as they stand -/
def pinsAt (fp : List Addr) (h : Heap) : List (Addr × Obj) := fp.filterMap fun b => (h.get? b).map fun o => (b, o)
theorem mem_pinsAt {fp : List Addr} {h : Heap} {b : Addr} {o : Obj} (hb : b ∈ fp) (e : h.get? b = some o) : (b, o) ∈ pinsAt fp h := List.mem_filterMap.mpr ⟨b, hb, by rw [e]; rfl⟩
theorem of_pinsAt {fp : List Addr} {h : Heap} {p : Addr × Obj} (hp : p ∈ pinsAt fp h) : p.1 ∈ fp ∧ h.get? p.1 = some p.2 := by
  obtain ⟨b, hb, e⟩ := List.mem_filterMap.mp hp
  cases q : h.get? b with
  | none => rw [q] at e; cases e
  | some o =>
    rw [q] at e
    have e' : (b, o) = p := Option.some.inj e
    subst e'
    exact ⟨hb, q⟩
theorem Inv.pinned {pins : List (Addr × Obj)} {σ : St} {H : Hp} {s : Shared} {fp : List Addr} (I : Inv X pins σ H s) (hf : ∀ b ∈ fp, FpOk X pins H b) (ho : ∀ b ∈ fp, ∃ o, s.heap.get? b = some o ∧ ∀ v, o.data ≠ .cell v) : Inv X (pins ++ pinsAt fp s.heap) σ H s :=
  I.pins_of fun p hp => (List.mem_append.mp hp).elim (fun z => I.pin p (List.mem_append_right _ z)) fun z => by
    obtain ⟨hb, e⟩ := of_pinsAt z
    obtain ⟨f0, f1, f2, _⟩ := hf p.1 hb
    obtain ⟨o, e', d⟩ := ho p.1 hb
    rw [e] at e'; cases e'
    exact ⟨e, f0, f1, f2, d⟩
theorem Inv.unpinned {pins pl : List (Addr × Obj)} {σ : St} {H : Hp} {s : Shared} (I : Inv X (pins ++ pl) σ H s) : Inv X pins σ H s := I.pins_of fun p hp => I.pin p (List.mem_append_right _ (List.mem_append_left _ hp))
theorem ps_for {iter : Expr} {body : List Stmt} {wi : TI} {g : TG} {tb : TS} {pos : Pos} (hp : PassesOwn (model X.prog X.w) X.A X.env X.xe) (hc : X.calm = true) (hi : PI X tg iter wi) (hg : PG X tg g) (hb : PSs X body tb)
    (hs : ∀ x, foldedSetIterable iter X.env x = pure x := by intro _; rfl) : PS X (.For tg iter body [] pos) (tFor wi g tb) := by
  intro pins s σ H D I h
  refine wpAny_For (thn (hi pins s σ H _ I h) fun v s1 h1 => thn h1 fun itv s2 h2 => ?_) hs
  obtain ⟨it, fp, tn, J, H2, e, I2, T, st2, f2, W, ⟨m0, w0⟩, turn⟩ := h2
  subst e
  -- what stays true of the iterator's objects through the loop
  have stat : ∀ {H' : Hp}, (∀ b ∈ fp, H' b = none) → ∀ b ∈ fp, FpOk X pins H' b := fun hn b hb => ⟨hn b hb, (f2 b hb).2⟩
  refine codeAny_forLoop_any (fun n s' => ∃ i σ' H', Inv X pins σ' H' s' ∧ tn i s'.heap ∧ (∀ b ∈ fp, H' b = none) ∧ W i n σ' H') ?_ m0 ⟨0, σ, H2, I2, st2, fun b hb => (f2 b hb).1, w0⟩
  rintro n s3 ⟨i, σ3, H3, I3, st3, fr3, w3⟩
  rcases turn i n σ3 H3 w3 with ⟨stop, qn⟩ | ⟨go, N, hN, step⟩
  · refine wpAny_passesOwn hp (thn (T.done X rfl rfl rfl hc i pins s3 σ3 H3 X.xe I3 (stat fr3) st3 stop) fun r s4 ⟨hr, I4⟩ => ?_)
    subst hr
    exact wpAny_execs_nil ⟨σ3, H3, I4, qn⟩
  · refine wpAny_passesOwn hp (thn (T.item X rfl rfl rfl hc i pins s3 σ3 H3 X.xe I3 (stat fr3) st3 go) fun r s4 ⟨u, hr, h4⟩ => ?_)
    subst hr
    refine wpAny_passesOwn hp (thn h4 fun _ s5 ⟨x, H5, I5, r5, y5, st5, fr5⟩ => ?_)
    have I5' := I5.pinned (stat fr5) (T.obj _ _ st5)
    refine wpAny_passesOwn hp (thn (hg _ s5 σ3 H5 x u _ I5' r5 (step x H5 y5)) fun _ s6 ⟨σ6, H6, I6, q6⟩ => ?_)
    refine wpAny_passesOwn hp (thn (hb _ s6 σ6 H6 _ I6 q6) fun f s7 q7 => ?_)
    have again : ∀ {σ7 : St} {H7 : Hp}, Inv X (pins ++ pinsAt fp s5.heap) σ7 H7 s7 → N σ7 H7 → ∃ m, m < n ∧ ∃ i σ' H', Inv X pins σ' H' s7 ∧ tn i s7.heap ∧ (∀ b ∈ fp, H' b = none) ∧ W i m σ' H' := fun {σ7 H7} I7 n7 => by
      obtain ⟨m', hm, w7⟩ := hN σ7 H7 n7
      refine ⟨m', hm, i + 1, σ7, H7, I7.unpinned, T.keep _ _ _ st5 fun b hb o e => (I7.pin (b, o) (List.mem_append_right _ (List.mem_append_right _ (mem_pinsAt hb e)))).1, fun b hb => ?_, w7⟩
      obtain ⟨o, e, d⟩ := T.obj _ _ st5 b hb
      exact (I7.pin (b, o) (List.mem_append_right _ (List.mem_append_right _ (mem_pinsAt hb e)))).2.1
    cases f with
    | next => obtain ⟨σ7, H7, I7, n7⟩ := q7; exact again I7 n7
    | cont => obtain ⟨σ7, H7, I7, n7⟩ := q7; exact again I7 n7
    | brk => obtain ⟨σ7, H7, I7, q7⟩ := q7; exact ⟨σ7, H7, I7.unpinned, q7⟩
    | ret v => obtain ⟨x7, σ7, H7, I7, r7, q7⟩ := q7; exact ⟨x7, σ7, H7, I7.unpinned, r7, q7⟩
end

/-! ### the forms one uses -/
/-- over a list that the body leaves as it is -/
theorem for_list {K : PySem.W.Frag} {a : Addr} {xs : List V} {g : TG} {tb : TS} {D : Ends} {σ : St} {H : Hp} (Pv : Nat → St → Hp → Prop) (h0 : Pv 0 σ H) (hl : ∀ i σ H, i ≤ xs.length → Pv i σ H → SqL K H a xs)
    (hs : ∀ i x σ H, xs[i]? = some x → Pv i σ H → g x σ H fun σ2 H2 => tb { D with nx := Pv (i + 1), ct := Pv (i + 1), bk := D.nx } σ2 H2) (hd : ∀ σ H, Pv xs.length σ H → D.nx σ H) :
    ∃ W : Nat → Nat → St → Hp → Prop, (∃ m, W 0 m σ H) ∧ ∀ i m σ H, W i m σ H →
      ((Itl K a).stop i H ∧ D.nx σ H) ∨ ((Itl K a).go i H ∧ ∃ N : St → Hp → Prop, (∀ σ' H', N σ' H' → ∃ m', m' < m ∧ W (i + 1) m' σ' H') ∧ ∀ x H', (Itl K a).yld i H x H' → g x σ H' fun σ2 H2 => tb { D with nx := N, ct := N, bk := D.nx } σ2 H2) := by
  refine ⟨fun i m σ H => m = xs.length - i ∧ i ≤ xs.length ∧ Pv i σ H, ⟨xs.length, by simp, Nat.zero_le _, h0⟩, ?_⟩
  rintro i m σ H ⟨rfl, hi, p⟩
  have q := hl i σ H hi p
  by_cases hlt : i < xs.length
  · refine .inr ⟨⟨xs, xs[i], q, by simp [hlt]⟩, Pv (i + 1), fun σ' H' p' => ⟨xs.length - (i + 1), by omega, rfl, hlt, p'⟩, fun x H' y => ?_⟩
    obtain ⟨e, y⟩ := y
    subst e
    exact hs i x σ _ (y xs q) p
  · have e : i = xs.length := by omega
    subst e
    exact .inl ⟨⟨xs, q, Nat.le_refl _⟩, hd σ H p⟩
theorem for_range {lo : Int} {n : Nat} {g : TG} {tb : TS} {D : Ends} {σ : St} {H : Hp} (Pv : Nat → St → Hp → Prop) (h0 : Pv 0 σ H)
    (hs : ∀ i σ H, i < n → Pv i σ H → g (.int (lo + i)) σ H fun σ2 H2 => tb { D with nx := Pv (i + 1), ct := Pv (i + 1), bk := D.nx } σ2 H2) (hd : ∀ σ H, Pv n σ H → D.nx σ H) :
    ∃ W : Nat → Nat → St → Hp → Prop, (∃ m, W 0 m σ H) ∧ ∀ i m σ H, W i m σ H →
      ((Itr lo n).stop i H ∧ D.nx σ H) ∨ ((Itr lo n).go i H ∧ ∃ N : St → Hp → Prop, (∀ σ' H', N σ' H' → ∃ m', m' < m ∧ W (i + 1) m' σ' H') ∧ ∀ x H', (Itr lo n).yld i H x H' → g x σ H' fun σ2 H2 => tb { D with nx := N, ct := N, bk := D.nx } σ2 H2) := by
  refine ⟨fun i m σ H => m = n - i ∧ i ≤ n ∧ Pv i σ H, ⟨n, by simp, Nat.zero_le _, h0⟩, ?_⟩
  rintro i m σ H ⟨rfl, hi, p⟩
  by_cases hlt : i < n
  · refine .inr ⟨hlt, Pv (i + 1), fun σ' H' p' => ⟨n - (i + 1), by omega, rfl, hlt, p'⟩, fun x H' y => ?_⟩
    obtain ⟨e, y⟩ := y
    subst e y
    exact hs i σ _ hlt p
  · have e : i = n := by omega
    subst e
    exact .inl ⟨Nat.le_refl _, hd σ H p⟩
/-- while, by a word and a measure of the state -/
theorem while_by {c : TT} {tb : TS} {D : Ends} {σ : St} {H : Hp} (Pv : St → Hp → Prop) (μ : St → Hp → Nat) (h0 : Pv σ H)
    (hs : ∀ σ H, Pv σ H → c σ H fun b H1 => if b = true then tb { D with nx := fun σ' H' => Pv σ' H' ∧ μ σ' H' < μ σ H, ct := fun σ' H' => Pv σ' H' ∧ μ σ' H' < μ σ H, bk := D.nx } σ H1 else D.nx σ H1)
    (mono : ∀ σ H Q Q', (∀ b H1, Q b H1 → Q' b H1) → c σ H Q → c σ H Q') : tWhile c tb D σ H := by
  refine ⟨fun m σ H => m = μ σ H ∧ Pv σ H, ⟨_, rfl, h0⟩, ?_⟩
  rintro m σ H ⟨rfl, p⟩
  refine mono σ H _ _ (fun b H1 q => ?_) (hs σ H p)
  cases b with
  | true => exact ⟨_, fun σ' H' ⟨p', l⟩ => ⟨_, l, rfl, p'⟩, q⟩
  | false => exact q
end L2

namespace L2
open PySem PySem.Spec PyProof.Rows

abbrev R2 := V → V → Hp → VK → Prop
/-- a two-place operation on values: f is binaryOp op, inplaceOp op or compareOp op -/
def OpR (X : Cx) (f : Value → Value → Sem Value) (r : R2) : Prop :=
  ∀ (pins : List (Addr × Obj)) (s : Shared) (σ : St) (H : Hp) (x y : V) (v u : Value) (Q : VK), Inv X pins σ H s → RelV x v → RelV y u → r x y H Q →
    wpAny (model X.prog X.w) X.A (f v u) (EP X pins σ Q) X.xe s
/-- a one-place operation -/
def UnR (X : Cx) (f : Value → Sem Value) (r : V → Hp → VK → Prop) : Prop :=
  ∀ (pins : List (Addr × Obj)) (s : Shared) (σ : St) (H : Hp) (x : V) (v : Value) (Q : VK), Inv X pins σ H s → RelV x v → r x H Q →
    wpAny (model X.prog X.w) X.A (f v) (EP X pins σ Q) X.xe s
/-- a call of a value that is known (a builtin, a type) with values -/
def CallR (X : Cx) (f : Value) (r : List V → Hp → VK → Prop) : Prop :=
  ∀ (pins : List (Addr × Obj)) (s : Shared) (σ : St) (H : Hp) (xs : List V) (us : List Value) (Q : VK), Inv X pins σ H s → Vals xs us → r xs H Q →
    wpAny (model X.prog X.w) X.A (call f us) (EP X pins σ Q) X.xe s
/-- a value's truth -/
def TruR (X : Cx) (r : V → Hp → (Bool → Hp → Prop) → Prop) : Prop :=
  ∀ (pins : List (Addr × Obj)) (s : Shared) (σ : St) (H : Hp) (x : V) (v : Value) (Q : Bool → Hp → Prop), Inv X pins σ H s → RelV x v → r x H Q →
    wpAny (model X.prog X.w) X.A (truthy v) (TP X pins σ Q) X.xe s

def tOp (r : R2) (ta tb : TE) : TE := fun σ H Q => ta σ H fun x H1 => tb σ H1 fun y H2 => r x y H2 Q
def tUn (r : V → Hp → VK → Prop) (ta : TE) : TE := fun σ H Q => ta σ H fun x H1 => r x H1 Q
/-- ints in, under C, and a value out -/
def rI (C : Int → Int → Prop) (g : Int → Int → V) : R2 := fun x y H Q => ∃ i j, x = .int i ∧ y = .int j ∧ C i j ∧ Q (g i j) H
def rI0 (g : Int → Int → V) : R2 := fun x y H Q => ∃ i j, x = .int i ∧ y = .int j ∧ Q (g i j) H
def rU (g : Int → V) : V → Hp → VK → Prop := fun x H Q => ∃ i, x = .int i ∧ Q (g i) H

section
variable {X : Cx} {a b c : Expr} {ta tb tc : TE} {pos : Pos}

theorem binT (ha : PE X a ta) (hb : PE X b tb) {pins : List (Addr × Obj)} {s : Shared} {σ : St} {H : Hp} {R : V → V → Hp → Prop} (I : Inv X pins σ H s)
    (h : ta σ H fun x H1 => tb σ H1 fun y H2 => R x y H2) {Q : Value → Shared → Prop} {f : Value → Value → Sem Value}
    (hf : ∀ v u s2 x y H2, Inv X pins σ H2 s2 → RelV x v → RelV y u → R x y H2 → wpAny (model X.prog X.w) X.A (f v u) Q X.xe s2) :
    wpAny (model X.prog X.w) X.A (eval a X.env) (fun v s₁ => wpAny (model X.prog X.w) X.A (eval b X.env) (fun u s₂ => wpAny (model X.prog X.w) X.A (f v u) Q X.xe s₂) X.xe s₁) X.xe s := by
  refine thn (ha pins s σ H _ I h) fun v s1 ⟨x, H1, I1, r1, q1⟩ => ?_
  refine thn (hb pins s1 σ H1 _ I1 q1) fun u s2 ⟨y, H2, I2, r2, q2⟩ => ?_
  exact hf v u s2 x y H2 I2 r1 r2 q2

theorem pe_op {op : Operator} {r : R2} (ho : OpR X (binaryOp op) r) (ha : PE X a ta) (hb : PE X b tb) : PE X (.BinOp a op b pos) (tOp r ta tb) := by
  intro pins s σ H Q I h
  exact wpAny_BinOp (binT ha hb I h fun v u s2 x y H2 I2 rx ry q => ho pins s2 σ H2 x y v u Q I2 rx ry q)
theorem pe_un {op : UnaryOp} {r : V → Hp → VK → Prop} (ho : UnR X (unaryOp op) r) (ha : PE X a ta) : PE X (.UnaryOp op a pos) (tUn r ta) := by
  intro pins s σ H Q I h
  exact UnaryOp_ (thn (ha pins s σ H _ I h) fun v s1 ⟨x, H1, I1, r1, q1⟩ => ho pins s1 σ H1 x v Q I1 r1 q1)

/-! ### ints -/
theorem opI {f : Value → Value → Sem Value} {C : Int → Int → Prop} {g : Int → Int → Int}
    (rule : ∀ (i j : Int) (t u : Tok) (s : Shared) (Q : Value → Shared → Prop) (E : Value → Shared → Prop), C i j → Q (.int (g i j) s.toks) { s with toks := s.toks + 1 } → wpAny (model X.prog X.w) X.A (f (.int i t) (.int j u)) Q E s) :
    OpR X f (rI C fun i j => .int (g i j)) := by
  intro pins s σ H x y v u Q I rx ry h
  obtain ⟨i, j, rfl, rfl, hc, q⟩ := h
  obtain ⟨t, rfl⟩ := rx
  obtain ⟨t', rfl⟩ := ry
  exact rule i j t t' s _ _ hc ⟨.int (g i j), H, I.tok _, ⟨_, rfl⟩, q⟩
theorem opI0 {f : Value → Value → Sem Value} {g : Int → Int → Int}
    (rule : ∀ (i j : Int) (t u : Tok) (s : Shared) (Q : Value → Shared → Prop) (E : Value → Shared → Prop), Q (.int (g i j) s.toks) { s with toks := s.toks + 1 } → wpAny (model X.prog X.w) X.A (f (.int i t) (.int j u)) Q E s) :
    OpR X f (rI0 fun i j => .int (g i j)) := by
  intro pins s σ H x y v u Q I rx ry h
  obtain ⟨i, j, rfl, rfl, q⟩ := h
  obtain ⟨t, rfl⟩ := rx
  obtain ⟨t', rfl⟩ := ry
  exact rule i j t t' s _ _ ⟨.int (g i j), H, I.tok _, ⟨_, rfl⟩, q⟩
theorem opB0 {f : Value → Value → Sem Value} {g : Int → Int → Bool}
    (rule : ∀ (i j : Int) (t u : Tok) (s : Shared) (Q : Value → Shared → Prop) (E : Value → Shared → Prop), Q (.bool (g i j)) s → wpAny (model X.prog X.w) X.A (f (.int i t) (.int j u)) Q E s) :
    OpR X f (rI0 fun i j => .bl (g i j)) := by
  intro pins s σ H x y v u Q I rx ry h
  obtain ⟨i, j, rfl, rfl, q⟩ := h
  obtain ⟨t, rfl⟩ := rx
  obtain ⟨t', rfl⟩ := ry
  exact rule i j t t' s _ _ ⟨.bl (g i j), H, I, rfl, q⟩

def CDiv (i j : Int) : Prop := 0 < j ∧ j < 1073741824
def CDivN (i j : Int) : Prop := j ≠ 0 ∧ j.natAbs < 1073741824
def CPow (i j : Int) : Prop := 0 ≤ j ∧ j ≤ 1000000 ∧ i.natAbs < 2 ^ 64
def CMul (i j : Int) : Prop := (-(2 ^ 64) < i ∧ i < 2 ^ 64) ∨ (-(2 ^ 64) < j ∧ j < 2 ^ 64)
theorem CMul.ok {i j : Int} (h : CMul i j) : IntMulOk i j := by
  rcases h with ⟨h1, h2⟩ | ⟨h1, h2⟩
  · exact .of_left (intBits_le_64 h1 h2)
  · exact .of_right (intBits_le_64 h1 h2)

theorem op_add : OpR X (binaryOp .Add) (rI0 fun i j => .int (i + j)) := opI0 fun _ _ _ _ _ _ _ q => add_int q
theorem op_sub : OpR X (binaryOp .Sub) (rI0 fun i j => .int (i - j)) := opI0 fun _ _ _ _ _ _ _ q => sub_int q
theorem op_mul : OpR X (binaryOp .Mult) (rI CMul fun i j => .int (i * j)) := opI fun _ _ _ _ _ _ _ hc q => mul_int q hc.ok
/-- // by a positive divisor -/
theorem op_fdiv : OpR X (binaryOp .FloorDiv) (rI CDiv fun i j => .int (i / j)) := opI fun i j _ _ _ _ _ hc q => by
  have h1 : (0 : Int) < j := hc.1
  have h2 : j < 1073741824 := hc.2
  exact floordiv_int (by omega) (by rw [Int.fdiv_eq_ediv_of_nonneg i (by omega)]; exact q) (.inl (PyProof.noPylong_small (by omega)))


theorem unI {f : Value → Sem Value} {g : Int → Int}
    (rule : ∀ (i : Int) (t : Tok) (s : Shared) (Q : Value → Shared → Prop) (E : Value → Shared → Prop), Q (.int (g i) s.toks) { s with toks := s.toks + 1 } → wpAny (model X.prog X.w) X.A (f (.int i t)) Q E s) :
    UnR X f (rU fun i => .int (g i)) := by
  intro pins s σ H x v Q I rx h
  obtain ⟨i, rfl, q⟩ := h
  obtain ⟨t, rfl⟩ := rx
  exact rule i t s _ _ ⟨.int (g i), H, I.tok _, ⟨_, rfl⟩, q⟩
theorem un_neg : UnR X (unaryOp .USub) (rU fun i => .int (-i)) := unI fun _ _ _ _ _ q => neg_int q

/-! ### bools among ints: n += (a < b) -/
end

/-! ### comparisons -/
/-- the scalars that == tells apart as data does -/
def scal : V → V → Bool
  | .non, .non => true | .non, .int _ => true | .int _, .non => true | .non, .bl _ => true | .bl _, .non => true | .non, .str _ => true | .str _, .non => true
  | .int _, .int _ => true | .bl _, .bl _ => true | .str _, .str _ => true | .byt _, .byt _ => true
  | .int _, .str _ => true | .str _, .int _ => true | .bl _, .str _ => true | .str _, .bl _ => true
  | _, _ => false
def rEq : R2 := fun x y H Q => scal x y = true ∧ Q (.bl (decide (x = y))) H
def rNe : R2 := fun x y H Q => scal x y = true ∧ Q (.bl (!decide (x = y))) H

theorem dec_int {i j : Int} : decide (V.int i = V.int j) = (i == j) := by
  rw [Bool.eq_iff_iff]
  simp
theorem dec_bl {i j : Bool} : decide (V.bl i = V.bl j) = (i == j) := by
  rw [Bool.eq_iff_iff]
  simp
theorem dec_str {i j : Str} : decide (V.str i = V.str j) = (i == j) := by
  rw [Bool.eq_iff_iff]
  simp
theorem dec_byt {i j : Array UInt8} : decide (V.byt i = V.byt j) = (i.toList == j.toList) := by
  rw [Bool.eq_iff_iff]
  cases i
  cases j
  simp

section
variable {X : Cx} {a b c : Expr} {ta tb tc : TE} {pos : Pos}
theorem fin_bl {pins : List (Addr × Obj)} {σ : St} {H : Hp} {s : Shared} {Q : VK} {k k' : Bool} (I : Inv X pins σ H s) (q : Q (.bl k) H) (e : k = k') : EP X pins σ Q (.bool k') s := by
  subst e
  exact ⟨.bl k, H, I, rfl, q⟩
theorem op_eq : OpR X (compareOp .Eq) rEq := by
  intro pins s σ H x y v u Q I rx ry h
  obtain ⟨hs, q⟩ := h
  cases x with
  | non =>
    cases rx
    cases y with
    | non => cases ry; exact PySem.EqNone.eq_none_none (fin_bl I q (by simp))
    | bl j => cases ry; exact PySem.EqNone.eq_none_bool (fin_bl I q (by simp))
    | int j => obtain ⟨t', rfl⟩ := ry; exact PySem.EqNone.eq_none_int (fin_bl I q (by simp))
    | str j => obtain ⟨t', rfl⟩ := ry; exact PySem.EqNone.eq_none_str (fin_bl I q (by simp))
    | _ => exact absurd (show false = true from hs) Bool.false_ne_true
  | bl i =>
    cases rx
    cases y with
    | non => cases ry; exact PySem.EqNone.eq_bool_none (fin_bl I q (by simp))
    | bl j => cases ry; exact eq_bool (fin_bl I q dec_bl)
    | str j => obtain ⟨t', rfl⟩ := ry; exact PySem.EqMixed.eq_bool_str (fin_bl I q (by simp))
    | _ => exact absurd (show false = true from hs) Bool.false_ne_true
  | int i =>
    obtain ⟨t, rfl⟩ := rx
    cases y with
    | non => cases ry; exact PySem.EqNone.eq_int_none (fin_bl I q (by simp))
    | int j => obtain ⟨t', rfl⟩ := ry; exact eq_int (fin_bl I q dec_int)
    | str j => obtain ⟨t', rfl⟩ := ry; exact PySem.EqMixed.eq_int_str (fin_bl I q (by simp))
    | _ => exact absurd (show false = true from hs) Bool.false_ne_true
  | str i =>
    obtain ⟨t, rfl⟩ := rx
    cases y with
    | non => cases ry; exact PySem.EqNone.eq_str_none (fin_bl I q (by simp))
    | bl j => cases ry; exact PySem.EqMixed.eq_str_bool (fin_bl I q (by simp))
    | int j => obtain ⟨t', rfl⟩ := ry; exact PySem.EqMixed.eq_str_int (fin_bl I q (by simp))
    | str j => obtain ⟨t', rfl⟩ := ry; exact eq_str (fin_bl I q dec_str)
    | _ => exact absurd (show false = true from hs) Bool.false_ne_true
  | byt i =>
    obtain ⟨t, rfl⟩ := rx
    cases y with
    | byt j => obtain ⟨t', rfl⟩ := ry; exact PySem.W.eq_bytes (fin_bl I q dec_byt)
    | _ => exact absurd (show false = true from hs) Bool.false_ne_true
  | _ => cases y <;> exact absurd (show false = true from hs) Bool.false_ne_true
theorem op_ne : OpR X (compareOp .NotEq) rNe := by
  intro pins s σ H x y v u Q I rx ry h
  obtain ⟨hs, q⟩ := h
  cases x with
  | non =>
    cases rx
    cases y with
    | non => cases ry; exact PySem.EqNone.ne_none_none (fin_bl I q (by simp))
    | bl j => cases ry; exact PySem.EqNone.ne_none_bool (fin_bl I q (by simp))
    | int j => obtain ⟨t', rfl⟩ := ry; exact PySem.EqNone.ne_none_int (fin_bl I q (by simp))
    | str j => obtain ⟨t', rfl⟩ := ry; exact PySem.EqNone.ne_none_str (fin_bl I q (by simp))
    | _ => exact absurd (show false = true from hs) Bool.false_ne_true
  | bl i =>
    cases rx
    cases y with
    | non => cases ry; exact PySem.EqNone.ne_bool_none (fin_bl I q (by simp))
    | bl j => cases ry; exact ne_bool (fin_bl I q (congrArg not dec_bl))
    | str j => obtain ⟨t', rfl⟩ := ry; exact PySem.EqMixed.ne_bool_str (fin_bl I q (by simp))
    | _ => exact absurd (show false = true from hs) Bool.false_ne_true
  | int i =>
    obtain ⟨t, rfl⟩ := rx
    cases y with
    | non => cases ry; exact PySem.EqNone.ne_int_none (fin_bl I q (by simp))
    | int j => obtain ⟨t', rfl⟩ := ry; exact ne_int (fin_bl I q (congrArg not dec_int))
    | str j => obtain ⟨t', rfl⟩ := ry; exact PySem.EqMixed.ne_int_str (fin_bl I q (by simp))
    | _ => exact absurd (show false = true from hs) Bool.false_ne_true
  | str i =>
    obtain ⟨t, rfl⟩ := rx
    cases y with
    | non => cases ry; exact PySem.EqNone.ne_str_none (fin_bl I q (by simp))
    | bl j => cases ry; exact PySem.EqMixed.ne_str_bool (fin_bl I q (by simp))
    | int j => obtain ⟨t', rfl⟩ := ry; exact PySem.EqMixed.ne_str_int (fin_bl I q (by simp))
    | str j => obtain ⟨t', rfl⟩ := ry; exact ne_str (fin_bl I q (congrArg not dec_str))
    | _ => exact absurd (show false = true from hs) Bool.false_ne_true
  | byt i =>
    obtain ⟨t, rfl⟩ := rx
    cases y with
    | byt j => obtain ⟨t', rfl⟩ := ry; exact PySem.W.ne_bytes (fin_bl I q (congrArg not dec_byt))
    | _ => exact absurd (show false = true from hs) Bool.false_ne_true
  | _ => cases y <;> exact absurd (show false = true from hs) Bool.false_ne_true

theorem op_lt : OpR X (compareOp .Lt) (rI0 fun i j => .bl (decide (i < j))) := opB0 fun _ _ _ _ _ _ _ q => lt_int q
theorem op_gt : OpR X (compareOp .Gt) (rI0 fun i j => .bl (decide (j < i))) := opB0 fun _ _ _ _ _ _ _ q => gt_int q
theorem op_ge : OpR X (compareOp .GtE) (rI0 fun i j => .bl (decide (j ≤ i))) := opB0 fun _ _ _ _ _ _ _ q => ge_int q

/-- is None, is not None: the right side a value none -/
theorem op_isN : OpR X (compareOp .Is) (fun x y H Q => y = .non ∧ Q (.bl (decide (x = .non))) H) := by
  intro pins s σ H x y v u Q I rx ry h
  obtain ⟨rfl, q⟩ := h
  cases ry
  refine is_none_gen (fin_bl I q ?_)
  cases x <;> first
    | (cases rx; rfl)
    | (obtain ⟨t, rfl⟩ := rx; rfl)
theorem op_notN : OpR X (compareOp .IsNot) (fun x y H Q => y = .non ∧ Q (.bl (!decide (x = .non))) H) := by
  intro pins s σ H x y v u Q I rx ry h
  obtain ⟨rfl, q⟩ := h
  cases ry
  refine isnot_none_gen (fin_bl I q ?_)
  cases x <;> first
    | (cases rx; rfl)
    | (obtain ⟨t, rfl⟩ := rx; rfl)

/-- is, is not of two objects that are tracked lists or instances -/
def isObj : HO → Bool
  | .lst _ => true
  | .ins _ _ _ => true
  | _ => false


theorem nomark (b : Expr) {op : CmpOp} (h : op ≠ .In := by decide) (h2 : op ≠ .NotIn := by decide) : behindInMarks op b = false := by
  have e1 : (op == CmpOp.In) = false := by cases op <;> first | rfl | exact absurd rfl h
  have e2 : (op == CmpOp.NotIn) = false := by cases op <;> first | rfl | exact absurd rfl h2
  cases b <;> simp [behindInMarks, e1, e2]
/-- a comparison as a value; hm: nomark b, or (for in, not in) by with_unfolding_all rfl -/
theorem pe_cmpR {op : CmpOp} {r : R2} (ho : OpR X (compareOp op) r) (ha : PE X a ta) (hb : PE X b tb) (hm : behindInMarks op b = false) : PE X (.Compare a [op] [b] pos) (tOp r ta tb) := by
  intro pins s σ H Q I h
  exact wpAny_Compare1 (binT ha hb I h fun v u s2 x y H2 I2 rx ry q => ho pins s2 σ H2 x y v u Q I2 rx ry q) hm
/-- a reading of a value as a test -/
def tTest (t : TE) : TT := fun σ H Q => t σ H fun x H' => ∃ k, x = .bl k ∧ Q k H'
theorem pt_cmpR {op : CmpOp} {r : R2} (ho : OpR X (compareOp op) r) (ha : PE X a ta) (hb : PE X b tb) (hm : behindInMarks op b = false) : PT X (.Compare a [op] [b] pos) (tTest (tOp r ta tb)) := by
  intro pins s σ H Q I h
  refine wpAny_isTrue_Compare1 (thn (ha pins s σ H _ I h) fun v s1 ⟨x, H1, I1, r1, q1⟩ => thn (hb pins s1 σ H1 _ I1 q1) fun u s2 ⟨y, H2, I2, r2, q2⟩ =>
    thn (ho pins s2 σ H2 x y v u _ I2 r1 r2 q2) fun c s3 ⟨z, H3, I3, r3, k, e, q3⟩ => ?_) hm
  subst e
  cases r3
  exact wpAny_truthy_bool ⟨H3, I3, q3⟩
/-- a op1 b op2 c -/
def tChain (r r' : R2) (ta tb tc : TE) : TE := fun σ H Q => ta σ H fun x H1 => tb σ H1 fun y H2 => r x y H2 fun z H3 => ∃ k, z = .bl k ∧
  (if k = true then tc σ H3 fun w' H4 => r' y w' H4 Q else Q (.bl false) H3)

/-! ### truth -/
/-- a value's truth by the abstract heap -/
def TruV (K : PySem.W.Frag) (x : V) (H : Hp) (k : Bool) : Prop :=
  match x with
  | .non => k = false
  | .bl b => k = b
  | .int i => k = (i != 0)
  | .str y => y.length ≤ sizeLine ∧ k = ((y.length : Int) != 0)
  | .byt y => y.size ≤ sizeLine ∧ k = ((y.size : Int) != 0)
  | .ref p => (∃ xs, SqL K H p xs ∧ k = !xs.isEmpty) ∨ (∃ xs, SqT K H p xs ∧ k = !xs.isEmpty) ∨ ∃ kvs, H p = some (.dK kvs) ∧ k = !kvs.isEmpty
  | _ => False
theorem line63 : (sizeLine : Nat) < 2 ^ 63 := by rw [sizeLine_eq]; decide

/-! ### strs and bytes -/

def PlainIxT (b : Expr) : Prop := ∀ o i, subscripted b false o i = operate [o, i] (getItem o i)

/-! ### scalar builtins, by CallR -/
theorem vals1 {x : V} {us : List Value} (r : Vals [x] us) : ∃ u, us = [u] ∧ RelV x u := by
  cases r with
  | cons r1 r2 => cases r2; exact ⟨_, rfl, r1⟩
theorem vals2 {x y : V} {us : List Value} (r : Vals [x, y] us) : ∃ u w', us = [u, w'] ∧ RelV x u ∧ RelV y w' := by
  cases r with
  | cons r1 r2 =>
    cases r2 with
    | cons r3 r4 => cases r4; exact ⟨_, _, rfl, r1, r3⟩
theorem call_max2 (hc : X.calm = true) : CallR X (.builtin "max") (fun xs H Q => ∃ i j, xs = [.int i, .int j] ∧ Q (.int (if j > i then j else i)) H) := by
  intro pins s σ H xs us Q I r h
  obtain ⟨i, j, rfl, q⟩ := h
  obtain ⟨u, w', rfl, ⟨t, rfl⟩, ⟨t', rfl⟩⟩ := vals2 r
  refine max_two_ints (I.ok.hd hc) fun h' tk k => ⟨_, H, I.kept k, ?_, q⟩
  by_cases hj : j > i
  · rw [if_pos hj, if_pos hj]; exact ⟨_, rfl⟩
  · rw [if_neg hj, if_neg hj]; exact ⟨_, rfl⟩
theorem call_min2 (hc : X.calm = true) : CallR X (.builtin "min") (fun xs H Q => ∃ i j, xs = [.int i, .int j] ∧ Q (.int (if j < i then j else i)) H) := by
  intro pins s σ H xs us Q I r h
  obtain ⟨i, j, rfl, q⟩ := h
  obtain ⟨u, w', rfl, ⟨t, rfl⟩, ⟨t', rfl⟩⟩ := vals2 r
  refine min_two_ints (I.ok.hd hc) fun h' tk k => ⟨_, H, I.kept k, ?_, q⟩
  by_cases hj : j < i
  · rw [if_pos hj, if_pos hj]; exact ⟨_, rfl⟩
  · rw [if_neg hj, if_neg hj]; exact ⟨_, rfl⟩
/-- len of a str, a bytes, a list, a tuple -/
def LenV (K : PySem.W.Frag) (x : V) (H : Hp) (n : Nat) : Prop :=
  match x with
  | .str y => y.length ≤ sizeLine ∧ n = y.length
  | .byt y => y.size ≤ sizeLine ∧ n = y.size
  | .ref p => (∃ xs, SqL K H p xs ∧ n = xs.length) ∨ ∃ xs, SqT K H p xs ∧ n = xs.length
  | _ => False
end
end L2

namespace L2
open PySem PySem.Spec PyProof.Rows

/-! ### an instance, its attributes a map -/
structure ObjM (h : Heap) (x dx C : Addr) (mA : Str → Option Value) : Prop where
  obj : h.get? x = some (PySem.W.instObj C dx)
  ns : h.Ns1 dx mA
  ne : dx ≠ x

theorem lookIn_ns {h : Heap} {dx : Addr} {mA : Str → Option Value} (n : h.Ns1 dx mA) : ∃ od, h.get? dx = some od ∧ ∀ name, PySem.W.lookIn name od = some (mA name) := by
  obtain ⟨o, es, ep, ho, hd, hk, _, hm⟩ := n
  refine ⟨o, ho, fun name => ?_⟩
  have e := hm name
  unfold nsFind findBy at e
  rw [← Array.find?_toList] at e
  unfold PySem.W.lookIn
  rw [hd]
  dsimp only
  split
  · rename_i y q
    rw [q] at e
    exact congrArg some e
  · rename_i q
    rw [q] at e
    have a : es.toList.any (·.refKey) = false := by
      rw [List.any_eq_false]
      intro y hy
      obtain ⟨z, t, hkey⟩ := hk y (Array.mem_toList_iff.mp hy)
      simp [DictEntry.refKey, hkey]
    have a' : ¬ es.toList.any (·.refKey) = true := by rw [a]; exact Bool.false_ne_true
    rw [if_neg a']
    exact congrArg some e

theorem ObjM.look {h : Heap} {x dx C : Addr} {mA : Str → Option Value} (I : ObjM h x dx C mA) : ∃ od, PySem.W.InstAt h x (PySem.W.instObj C dx) C (some od) ∧ ∀ name, PySem.W.lookIn name od = some (mA name) :=
  let ⟨od, ho, hl⟩ := lookIn_ns I.ns
  ⟨od, ⟨I.obj, rfl, rfl, ho⟩, hl⟩

section
variable {prog : Program} {w : World} {A : Around} {E : Value → Shared → Prop} {s : Shared} {K : PySem.W.Frag} {x dx C f : Addr} {mA : Str → Option Value} {name : Str} {v : Value}

theorem get_map {expr : Bool} {Q : Value → Shared → Prop} (X : K.In s.heap) (I : ObjM s.heap x dx C mA) (hg : PySem.W.plainGet K C name = true) (hh : PySem.W.hasDictIn K C = true)
    (ha : PySem.W.findIn K (.ref C) name = some none) (hv : mA name = some v) (hv' : PySem.W.handedIn v = true) (h : Q v { s with toks := s.toks + 1 }) :
    wpAny (model prog w) A (getAttr (.ref x) name expr) Q E s := by
  obtain ⟨od, J, hl⟩ := I.look
  exact PySem.W.get_value X J (PySem.W.plainGet_of hg).1 (PySem.W.findObj_own hh ha rfl (by rw [hl, hv])) hv' h



theorem set_map {ns : List Str} {Q : Unit → Shared → Prop} (X : K.In s.heap) (I : ObjM s.heap x dx C mA)
    (hs : PySem.W.findIn K (.ref C) "__setattr__" = some (some (.builtin "object.__setattr__"))) (hp : PySem.W.plainOver K C = true) (ht : PySem.W.takerIn K C name = some none) (hh : PySem.W.hasDictIn K C = true)
    (hw : PySem.Within mA ns) (hsz : ns.length ≤ sizeLine)
    (h : ∀ h', ObjM h' x dx C (fun y => if y = name then some v else mA y) → Heap.SameBut dx s.heap h' → Q () { s with heap := h', toks := s.toks + 2 }) :
    wpAny (model prog w) A (setAttr (.ref x) name v) Q E s := by
  obtain ⟨od, J, hl⟩ := I.look
  refine PySem.W.set_plain X J hs (PySem.W.osa_open (s := { s with toks := s.toks + 1 }) (r := none) X J hp ht fun b => ?_)
  obtain ⟨cd, hc, hd'⟩ := PySem.W.any_some hh
  have hx : s.heap.get? x = some ⟨.ref C, some dx, .plain, #[]⟩ := I.obj
  refine wpAny_bind (wpAny_pure (wpAny_bind (wpAny_bind (wpAny_loadPart hx (wpAny_bind (PySem.W.Looks.here (s := { s with toks := s.toks + 1 }) (PySem.W.looks_clsIn X hc) ?_))))))
  rw [hd']
  refine wpAny_pure (a := some dx) (wpAny_bind (wpAny_pure (wpAny_bind ?_)))
  refine wpAny_nsSet1 (s := { s with toks := s.toks + 1 }) I.ns fun h' hn2 hs2 => ?_
  obtain ⟨oD, esD, epD, hoD, hdD, hcD⟩ := hn2.count (PySem.Within.cons name v hw)
  refine wpAny_bind (wpAny_lookBehind hoD (by rw [hdD]; exact pastItsLine_dict (Nat.le_trans hcD (by rw [List.length_cons]; omega))) ?_)
  exact wpAny_pure (h _ ⟨(hs2.2 _ (Ne.symm I.ne)).trans I.obj, hn2, I.ne⟩ hs2)

/-- C(..): the dict at the heap's end, the instance behind it; then its __init__ -/
theorem make_map {R : Result → Shared → Prop} {vs : List Value} {kw : List (Str × Value)} (X : K.In s.heap) (hm : PySem.W.makesIn K C = true)
    (hi : PySem.W.findIn K (.ref C) "__init__" = some (some (.ref f))) (hf : PySem.W.typeIn K (.ref f) = some (.type "function"))
    (h : codeAny (model prog w) (A.under (.builtin "type.__call__" ⟨.ref C :: vs, kw⟩)) (.call (.ref f) ⟨.ref (s.heap.objs.size + 1) :: vs, kw⟩) (PySem.W.InitBack (s.heap.objs.size + 1) R)
      { s with heap := (s.heap.push PySem.W.emptyDict).push (PySem.W.instObj C s.heap.objs.size) }) :
    codeAny (model prog w) A (.call (.ref C) ⟨vs, kw⟩) R s := by
  obtain ⟨hh, g, d, t, os⟩ := s
  exact PySem.W.make_core (PySem.W.makes_of X hm) (PySem.W.looks_findIn X hi) (fun self => PySem.W.bind_fn X self hf) (.inl rfl) h
end

/-! ### the attributes as a list of pairs -/
def putF (f : Str) (v : V) : List (Str × V) → List (Str × V)
  | [] => [(f, v)]
  | (g, x) :: r => if g = f then (g, v) :: r else (g, x) :: putF f v r
theorem lookup_putF (f g : Str) (v : V) : ∀ fs : List (Str × V), (putF f v fs).lookup g = if g = f then some v else fs.lookup g
  | [] => by
    show List.lookup g [(f, v)] = _
    by_cases h : g = f
    · have hb : (g == f) = true := beq_iff_eq.mpr h
      simp only [List.lookup, hb, if_pos h]
    · have hb : (g == f) = false := beq_eq_false_iff_ne.mpr h
      simp only [List.lookup, hb, if_neg h]
  | (k, x) :: r => by
    have ih := lookup_putF f g v r
    rw [show putF f v ((k, x) :: r) = (if k = f then (k, v) :: r else (k, x) :: putF f v r) from rfl]
    by_cases hk : k = f
    · rw [if_pos hk]
      by_cases h : g = k
      · have hb : (g == k) = true := beq_iff_eq.mpr h
        simp only [List.lookup, hb, if_pos (h.trans hk)]
      · have hb : (g == k) = false := beq_eq_false_iff_ne.mpr h
        simp only [List.lookup, hb, if_neg (fun e : g = f => h (e.trans hk.symm))]
    · rw [if_neg hk]
      by_cases h : g = k
      · have hb : (g == k) = true := beq_iff_eq.mpr h
        simp only [List.lookup, hb, if_neg (fun e : g = f => hk (h.symm.trans e))]
      · have hb : (g == k) = false := beq_eq_false_iff_ne.mpr h
        simp only [List.lookup, hb]
        exact ih
theorem keys_putF (f : Str) (v : V) : ∀ fs : List (Str × V), f ∈ (putF f v fs).map (·.1) ∧ ∀ g, g ∈ fs.map (·.1) → g ∈ (putF f v fs).map (·.1)
  | [] => ⟨by simp [putF], fun g h => by simp at h⟩
  | (k, x) :: r => by
    obtain ⟨i1, i2⟩ := keys_putF f v r
    rw [show putF f v ((k, x) :: r) = (if k = f then (k, v) :: r else (k, x) :: putF f v r) from rfl]
    by_cases hk : k = f
    · rw [if_pos hk]
      subst hk
      exact ⟨by simp, fun g h => by simpa using h⟩
    · rw [if_neg hk]
      refine ⟨?_, fun g h => ?_⟩
      · rw [List.map_cons]
        exact List.mem_cons_of_mem _ i1
      · rw [List.map_cons] at h ⊢
        rcases List.mem_cons.mp h with e | e
        · exact List.mem_cons.mpr (.inl e)
        · exact List.mem_cons_of_mem _ (i2 g e)
theorem length_putF (f : Str) (v : V) : ∀ fs : List (Str × V), (putF f v fs).length ≤ fs.length + 1
  | [] => by simp [putF]
  | (k, x) :: r => by
    have ih := length_putF f v r
    rw [show putF f v ((k, x) :: r) = (if k = f then (k, v) :: r else (k, x) :: putF f v r) from rfl]
    by_cases hk : k = f
    · rw [if_pos hk, List.length_cons, List.length_cons]; omega
    · rw [if_neg hk, List.length_cons, List.length_cons]; omega

theorem RelO.some_of {v : V} {o : Option Value} (r : RelO (some v) o) : ∃ u, o = some u ∧ RelV v u := by
  cases o with
  | none => exact (show False from r).elim
  | some u => exact ⟨u, rfl, r⟩
theorem handed_of {v : V} {u : Value} (r : RelV v u) : PySem.W.handedIn u = true := by
  cases v with
  | non => cases (show u = Value.none from r); rfl
  | bl b => cases (show u = Value.bool b from r); rfl
  | int i => obtain ⟨t, e⟩ := (show ∃ t, u = Value.int i t from r); cases e; rfl
  | str x => obtain ⟨t, e⟩ := (show ∃ t, u = Value.str x t from r); cases e; rfl
  | byt b => obtain ⟨t, e⟩ := (show ∃ t, u = Value.bytes b t from r); cases e; rfl
  | flt b => obtain ⟨t, e⟩ := (show ∃ t, u = Value.float b t from r); cases e; rfl
  | ref a => cases (show u = Value.ref a from r); rfl
  | ty n => cases (show u = Value.type n from r); rfl

section
variable {P : Program} {w : World} {H H' : Hp} {h h' : Heap} {a C dx : Addr} {fs fs' : List (Str × V)}
theorem ins_get (hok : HOk P w H h) (e : H a = some (.ins C dx fs)) : ∃ mA, ObjM h a dx C mA ∧ (∀ f, RelO (fs.lookup f) (mA f)) ∧ PySem.Within mA (fs.map (·.1)) ∧ fs.length ≤ 1000 ∧ H dx = some (.own a) := by
  obtain ⟨d, z, ne, ob, mA, n, r, q⟩ := (show ObjOk P w H h a (.ins C dx fs) from hok a _ e)
  exact ⟨mA, ⟨ob, n, ne⟩, r, q, z, d⟩
end

/-! ### what of the text a class must have -/
structure Cls (K : PySem.W.Frag) (C : Addr) : Prop where
  pg : PySem.W.plainGet K C Str.empty = true
  hd : PySem.W.hasDictIn K C = true
  po : PySem.W.plainOver K C = true
  sa : PySem.W.findIn K (.ref C) "__setattr__" = some (some (.builtin "object.__setattr__"))
theorem Cls.get {K : PySem.W.Frag} {C : Addr} (c : Cls K C) (f : Str) : PySem.W.plainGet K C f = true := c.pg
/-- no class of it has the name -/
def NoAttr (K : PySem.W.Frag) (C : Addr) (f : Str) : Prop := PySem.W.findIn K (.ref C) f = some none
theorem NoAttr.taker {K : PySem.W.Frag} {C : Addr} {f : Str} (n : NoAttr K C f) : PySem.W.takerIn K C f = some none := by
  unfold PySem.W.takerIn
  rw [show PySem.W.findIn K (.ref C) f = some none from n]
  rfl
/-- a constant of the class -/
structure Con (K : PySem.W.Frag) (C : Addr) (f : Str) (v : V) (u : Value) : Prop where
  at_ : PySem.W.findIn K (.ref C) f = some (some u)
  rel : RelV v u
  get : PySem.W.specialIn K u "__get__" = some none
  cp : PySem.W.copiedNames.contains f = false
/-- a method: a plain def of the class or of one above it -/
structure Meth (K : PySem.W.Frag) (C : Addr) (m : Str) (f : Addr) : Prop where
  at_ : PySem.W.findIn K (.ref C) m = some (some (.ref f))
  fn : PySem.W.isFn K (.ref f) = true
  kp : PySem.W.keepIn K (.ref f) = true

section
variable {X : Cx} {pins : List (Addr × Obj)} {σ : St} {H : Hp} {s : Shared} {a C dx : Addr} {fs : List (Str × V)} {f : Str} {v : V} {A : Around} {E : Value → Shared → Prop}

theorem getattr_ok {b : Bool} {Q : Value → Shared → Prop} (I : Inv X pins σ H s) (e : H a = some (.ins C dx fs)) (c : Cls X.K C) (n : NoAttr X.K C f) (l : fs.lookup f = some v)
    (h : ∀ u s', Inv X pins σ H s' → RelV v u → Q u s') : wpAny (model X.prog X.w) A (getAttr (.ref a) f b) Q E s := by
  obtain ⟨mA, O, r, _, _, _⟩ := ins_get I.hok e
  obtain ⟨u, hu, ru⟩ := RelO.some_of (v := v) (o := mA f) (by rw [← l]; exact r f)
  exact get_map I.kIn O (c.get f) c.hd n hu (handed_of ru) (h u _ (I.tok _) ru)



theorem setattr_ok {y : V} {u : Value} {Q : Unit → Shared → Prop} (I : Inv X pins σ H s) (e : H a = some (.ins C dx fs)) (c : Cls X.K C) (n : NoAttr X.K C f) (hl : fs.length < 1000) (ry : RelV y u)
    (h : ∀ s', Inv X pins σ (upd H a (.ins C dx (putF f y fs))) s' → Q () s') : wpAny (model X.prog X.w) A (setAttr (.ref a) f u) Q E s := by
  obtain ⟨mA, O, r, wi, _, ho⟩ := ins_get I.hok e
  have hz : (fs.map (·.1)).length ≤ sizeLine := by rw [List.length_map, sizeLine_eq]; omega
  refine set_map I.kIn O c.sa c.po n.taker c.hd wi hz fun h' O' sb => h _ ?_
  have hd : ∃ o, h'.get? dx = some o := let ⟨o, _, _, e', _⟩ := O'.ns; ⟨o, e'⟩
  refine I.write (x := a) (e := dx) (by rw [e]; exact True.intro) (.inr ho) (fun b q hb z => (sb.2 b hb).trans z) hd ?_
  refine ⟨by rw [upd_ne O.ne]; exact ho, ?_, O.ne, O'.obj, _, O'.ns, fun g => ?_, fun g hg => ?_⟩
  · have := length_putF f y fs; omega
  · show RelO ((putF f y fs).lookup g) (if g = f then some u else mA g)
    rw [lookup_putF]
    by_cases q : g = f
    · rw [if_pos q, if_pos q]; exact ry
    · rw [if_neg q, if_neg q]; exact r g
  · by_cases q : g = f
    · rw [q]; exact (keys_putF f y fs).1
    · refine (keys_putF f y fs).2 g (wi g fun z => hg ?_)
      show (if g = f then some u else mA g) = none
      rw [if_neg q]; exact z

/-- a new instance, tracked, without attributes -/
theorem Inv.made (I : Inv X pins σ H s) : Inv X pins σ (upd (upd H s.heap.objs.size (.own (s.heap.objs.size + 1))) (s.heap.objs.size + 1) (.ins C s.heap.objs.size []))
    { s with heap := (s.heap.push PySem.W.emptyDict).push (PySem.W.instObj C s.heap.objs.size) } := by
  have e1 : (s.heap.push PySem.W.emptyDict).get? s.heap.objs.size = some PySem.W.emptyDict := Heap.get?_push_size s.heap rfl
  have e2 : ((s.heap.push PySem.W.emptyDict).push (PySem.W.instObj C s.heap.objs.size)).get? (s.heap.objs.size + 1) = some (PySem.W.instObj C s.heap.objs.size) := by
    have := Heap.get?_push_size (s.heap.push PySem.W.emptyDict) (o := PySem.W.instObj C s.heap.objs.size) rfl
    rwa [Heap.size_push] at this
  have e3 : (s.heap.push PySem.W.emptyDict).Ns s.heap.objs.size (fun _ => none) := ⟨PySem.W.emptyDict, #[], _, e1, rfl, (fun e he => absurd he (by simp)), fun _ => rfl⟩
  have I1 := I.laid (a := s.heap.objs.size) (o := .own (s.heap.objs.size + 1)) (h' := s.heap.push PySem.W.emptyDict) (t' := s.toks) (fun b u q => Heap.get?_push_of_some _ q) (Nat.le_refl _) ⟨_, e1⟩
  refine I1.laid (a := s.heap.objs.size + 1) (o := .ins C s.heap.objs.size []) (t' := s.toks) (fun b u q => Heap.get?_push_of_some _ q) (Nat.le_of_eq (Heap.size_push _ _)) ?_
  have ne : s.heap.objs.size ≠ s.heap.objs.size + 1 := Nat.ne_of_lt (Nat.lt_succ_self _)
  refine ⟨by rw [upd_ne ne, upd_same], Nat.zero_le _, ne, e2, fun _ => none, (Heap.Ns1.of_empty e3).at fun o q => Heap.get?_push_of_some _ q, fun _ => True.intro, fun y hy => absurd rfl hy⟩

/-- e.f where nothing but the object is asked: through attributeBase (super) and the last hold -/
theorem attr_of {prog : Program} {w : World} {env : Env} {e : Expr} {f : Str} {pos : Pos} {s : Shared} {Q : Value → Shared → Prop} (hb : attributeBase e f env (eval e env) = eval e env)
    (h : wpAny (model prog w) A (eval e env) (fun o s₁ => wpAny (model prog w) A (getAttr o f true) Q E s₁) E s) : wpAny (model prog w) A (eval (.Attribute e f pos) env) Q E s :=
  Attribute_any_ h (by rw [arm_eval_Attribute, hb])
end

/-! ### readings and rules -/
/-- e.f, an attribute of the instance -/
def tFld (K : PySem.W.Frag) (ta : TE) (f : Str) : TE := fun σ H Q => ta σ H fun x H1 => ∃ a C dx fs v, x = .ref a ∧ H1 a = some (.ins C dx fs) ∧ Cls K C ∧ NoAttr K C f ∧ fs.lookup f = some v ∧ Q v H1
/-- e.f, a constant of the class -/
def tCon (K : PySem.W.Frag) (ta : TE) (f : Str) : TE := fun σ H Q => ta σ H fun x H1 => ∃ a C dx fs v u, x = .ref a ∧ H1 a = some (.ins C dx fs) ∧ Cls K C ∧ Con K C f v u ∧ fs.lookup f = none ∧ Q v H1
/-- e.f = value -/
def sFld (K : PySem.W.Frag) (ta tv : TE) (f : Str) : TS := fun D σ H => tv σ H fun y H1 => ta σ H1 fun x H2 => ∃ a C dx fs, x = .ref a ∧ H2 a = some (.ins C dx fs) ∧ Cls K C ∧ NoAttr K C f ∧ fs.length < 1000 ∧
  D.nx σ (upd H2 a (.ins C dx (putF f y fs)))
/-- an augmented operator on two values -/
def InOp (X : Cx) (op : Operator) (rd : V → V → Hp → VK → Prop) : Prop :=
  ∀ (pins : List (Addr × Obj)) (s : Shared) (σ : St) (H : Hp) (x y : V) (u v : Value) (Q : VK), Inv X pins σ H s → RelV x u → RelV y v → rd x y H Q → wpAny (model X.prog X.w) X.A (inplaceOp op u v) (EP X pins σ Q) X.xe s
/-- e.f op= value -/
def sFldAug (K : PySem.W.Frag) (ta tv : TE) (rd : V → V → Hp → VK → Prop) (f : Str) : TS := fun D σ H => ta σ H fun x H1 => ∃ a C dx fs v, x = .ref a ∧ H1 a = some (.ins C dx fs) ∧ Cls K C ∧ NoAttr K C f ∧ fs.lookup f = some v ∧
  tv σ H1 fun y H2 => rd v y H2 fun z H3 => ∃ dx' fs', H3 a = some (.ins C dx' fs') ∧ fs'.length < 1000 ∧ D.nx σ (upd H3 a (.ins C dx' (putF f z fs')))

section
variable {X : Cx} {o e value : Expr} {f : Str} {pos pos' tpos : Pos} {ta tv : TE}
theorem pe_fld (he : PE X e ta) (hb : attributeBase e f X.env (eval e X.env) = eval e X.env) : PE X (.Attribute e f pos) (tFld X.K ta f) := by
  intro pins s σ H Q I h
  refine attr_of hb (thn (he pins s σ H _ I h) fun u s1 ⟨x, H1, I1, rx, a, C, dx, fs, v, ex, ea, c, n, l, q⟩ => ?_)
  subst ex
  obtain rfl : u = Value.ref a := rx
  exact getattr_ok I1 ea c n l fun u' s2 I2 ru => ⟨v, H1, I2, ru, q⟩
theorem ps_fld (ha : PE X o ta) (hv : PE X value tv) (hs : swapsWith value (some (.Attribute o f pos')) pos.line X.env = pure false) : PS X (.Assign [.Attribute o f pos'] value pos) (sFld X.K ta tv f) := by
  intro pins s σ H D I h
  refine plainObj_wpAny_Assign_Attribute (thn (hv pins s σ H _ I h) fun u s1 ⟨y, H1, I1, ry, q⟩ => thn (ha pins s1 σ H1 _ I1 q) fun ov s2 ⟨x, H2, I2, rx, a, C, dx, fs, ex, ea, c, n, l, q2⟩ => ?_) hs
  subst ex
  obtain rfl : ov = Value.ref a := rx
  exact setattr_ok I2 ea c n l ry fun s3 I3 => ⟨σ, _, I3, q2⟩
def rAdd : V → V → Hp → VK → Prop := fun x y H Q => ∃ i j, x = .int i ∧ y = .int j ∧ Q (.int (i + j)) H
def rSub : V → V → Hp → VK → Prop := fun x y H Q => ∃ i j, x = .int i ∧ y = .int j ∧ Q (.int (i - j)) H

end

/-! ### isinstance -/
section
variable {X : Cx} {pins : List (Addr × Obj)} {σ : St} {H : Hp} {s : Shared} {A : Around} {E : Value → Shared → Prop} {Q : Value → Shared → Prop} {c : Value} {b : Bool}
/-- the type of a value, as the fragment's deciders take it; for an instance its class -/
inductive TyOf (K : PySem.W.Frag) (H : Hp) : V → Value → Prop where
  | non : TyOf K H .non (.type "NoneType")
  | bl (x : Bool) : TyOf K H (.bl x) (.type "bool")
  | int (i : Int) : TyOf K H (.int i) (.type "int")
  | str (x : Str) : TyOf K H (.str x) (.type "str")
  | flt (x : UInt64) : TyOf K H (.flt x) (.type "float")
  | lst {a : Addr} {xs : List V} (e : H a = some (.lst xs)) : TyOf K H (.ref a) (.type "list")
  | frz {a : Addr} {o : Obj} {xs : List V} (e : H a = some (.frz o (.lst xs))) : TyOf K H (.ref a) (.type "list")
  | tup {a : Addr} {xs : List V} (e : H a = some (.tup xs)) : TyOf K H (.ref a) (.type "tuple")
  | dK {a : Addr} {kvs : List (Key × V)} (e : H a = some (.dK kvs)) : TyOf K H (.ref a) (.type "dict")
  | dT {a : Addr} {kvs : List (List Key × V)} (e : H a = some (.dT kvs)) : TyOf K H (.ref a) (.type "dict")
  | ins {a C dx : Addr} {fs : List (Str × V)} (e : H a = some (.ins C dx fs)) (cl : Cls K C) (ha : PySem.W.findIn K (.ref C) "__class__" = some (some (.builtin "object.__class__")))
      (hn : PySem.W.specialIn K (.builtin "object.__class__") "__get__" = some (some (.builtin "getset_descriptor.__get__"))) (htk : PySem.W.takesIn K (.builtin "object.__class__") = some true)
      (hm : PySem.W.mroIn K C (.type "object") = some true) : TyOf K H (.ref a) (.ref C)
end
end L2

namespace L2
open PySem PySem.Spec PyProof.Rows

/-! ### room -/
structure Room (k : Nat) (A : Around) : Prop where
  hd : A.handled = none
  dp : A.depth + 3 * k + 5 < recursionLimit
  un : A.units + 16 * k + 200 < cLine
theorem Room.mono {j k : Nat} {A : Around} (r : Room k A) (h : j ≤ k) : Room j A := ⟨r.hd, by have := r.dp; omega, by have := r.un; omega⟩
theorem Room.deeper {k : Nat} {A : Around} (r : Room (k + 1) A) (env : Env) : Room k (A.deeper env) :=
  ⟨r.hd, by have := r.dp; show A.depth + 1 + 3 * k + 5 < _; omega, by have := r.un; show A.units + 3 + 16 * k + 200 < _; omega⟩
theorem make_depth {A : Around} {C : Addr} {us : List Value} {kw : List (Str × Value)} : (A.under (.builtin "type.__call__" ⟨.ref C :: us, kw⟩)).depth = A.depth + 1 := by
  first | rfl | simp [Around.under, Code.weight, Code.isCreation, Code.isGuard, Code.isCaller, Code.frames, Code.isFrame, guardIds]
theorem make_units {A : Around} {C : Addr} {us : List Value} {kw : List (Str × Value)} : (A.under (.builtin "type.__call__" ⟨.ref C :: us, kw⟩)).units = A.units + 1 := by
  first | rfl | simp [Around.under, Code.cUnits, Code.frames, Code.isFrame]
theorem Room.make {k : Nat} {A : Around} (r : Room (k + 1) A) (C : Addr) (us : List Value) (kw : List (Str × Value)) : Room k (A.under (.builtin "type.__call__" ⟨.ref C :: us, kw⟩)) :=
  ⟨r.hd, by have := r.dp; rw [make_depth]; omega, by have := r.un; rw [make_units]; omega⟩
theorem Room.depth {k : Nat} {A : Around} (r : Room k A) : A.depth < recursionLimit := by have := r.dp; omega

/-! ### argument lists and displays -/
def tNil : TA := fun _ H Q => Q [] H
def tCons (ta : TE) (tr : TA) : TA := fun σ H Q => ta σ H fun x H1 => tr σ H1 fun xs H2 => Q (x :: xs) H2
section
variable {X : Cx} {e : Expr} {es : List Expr} {te : TE} {t : TA} {pos : Pos}
theorem pa_nil : PA X [] tNil := fun _ _ _ _ H Q I h => Calls.spliced_nil ⟨[], H, I, .nil, h⟩
theorem pa_cons (ha : PE X e te) (hr : PA X es t) (hs : starEach (e :: es) X.env = (false, eval e X.env) :: starEach es X.env := by rfl) : PA X (e :: es) (tCons te t) := by
  intro pos pins s σ H Q I h
  rw [hs]
  show wpAny _ _ (spliced ((false, eval e X.env) :: backTo pos (starEach es X.env))) _ _ s
  refine Calls.spliced_cons (thn (ha pins s σ H _ I h) fun u s1 ⟨x, H1, I1, r1, q1⟩ => ?_)
  exact thn (hr pos pins s1 σ H1 _ I1 q1) fun us s2 ⟨xs, H2, I2, r2, q2⟩ => ⟨x :: xs, H2, I2, .cons r1 r2, q2⟩

/-- a tuple, a list of written items -/
def tTup (t : TA) : TE := fun σ H Q => t σ H fun xs H1 => xs.length ≤ sizeLine ∧ ∀ p, H1 p = none → Q (.ref p) (upd H1 p (.tup xs))
def tLst (t : TA) : TE := fun σ H Q => t σ H fun xs H1 => xs.length ≤ sizeLine ∧ ∀ p, H1 p = none → Q (.ref p) (upd H1 p (.lst xs))
theorem pe_lst (h : PA X es t) : PE X (.List es pos) (tLst t) := by
  intro pins s σ H Q I hq
  refine wpAny_List_spliced (thn (h pos pins s σ H _ I hq) fun us s1 ⟨xs, H1, I1, r, z, q⟩ => ⟨by rw [← r.length]; exact z, ?_⟩)
  have hf : H1 s1.heap.objs.size = none := I1.hok.fresh (Nat.le_refl _)
  refine ⟨.ref s1.heap.objs.size, upd H1 s1.heap.objs.size (.lst xs), I1.laid (t' := s1.toks) (fun b u e => Heap.get?_push_of_some _ e) (Nat.le_refl _) ?_, rfl, q _ hf⟩
  exact ⟨z, us, 0, r, Heap.get?_push_size _ rfl⟩
end

/-! ### what a def promises -/
/-- a def's promise: the bound arguments in the parameters' order, the heap, the wanted end, the wanted exception -/
abbrev Sp := List V → Hp → VK → XK → Prop
/-- how an exception lies behind a call (file 08 gives it): the callers' frames, abstract heap and state ahead of the call, the wish, the exception, the state -/
abbrev CXT := List Env → Hp → Shared → XK → Value → Shared → Prop

/-- the state at a call -/
structure Env0 (P : Program) (w : World) (K : PySem.W.Frag) (mg : Str → Option Value) (base : Heap) (A : Around) (outer : List Env) (s : Shared) (H : Hp) : Prop where
  frames : A.frames = some outer
  mod : Mod K mg base
  bs : ∀ b o, base.get? b = some o → s.heap.get? b = some o ∧ H b = none
  bsz : base.objs.size ≤ s.heap.objs.size
  funs : s.heap.FunFrames base outer
  frf : ∀ b ∈ frs outer, H b = none
  hok : HOk P w H s.heap
  bare : AllBare s.gens
/-- a call's end -/
def CE (outer : List Env) (P : Program) (w : World) (H : Hp) (s : Shared) (Q : VK) (u : Value) (s' : Shared) : Prop :=
  ∃ v H', s'.os = s.os ∧ AllBare s'.gens ∧ Un (frs outer) [] H H' s.heap s'.heap ∧ HOk P w H' s'.heap ∧ RelV v u ∧ Q v H'
def CR (CX : CXT) (outer : List Env) (P : Program) (w : World) (H : Hp) (s : Shared) (Q : VK) (E : XK) (r : Result) (s' : Shared) : Prop :=
  match r with
  | .ok (.ret u) => CE outer P w H s Q u s'
  | .ok _ => False
  | .error e => CX outer H s E e s'
structure FnOk (P : Program) (w : World) (K : PySem.W.Frag) (mg : Str → Option Value) (base : Heap) (CX : CXT) (k : Nat) (f : Addr) (fd : FuncData) (ps : List Str) (sp : Sp) : Prop where
  len : ∀ vs H Q E, sp vs H Q E → vs.length = ps.length
  run : ∀ (A : Around) (outer : List Env) (s : Shared) (H : Hp) (args : Args) (us : List Value) (vs : List V) (Q : VK) (E : XK), Room k A → Env0 P w K mg base A outer s H → BindsTo s fd args (ps.zip us) → Vals vs us → sp vs H Q E →
    codeAny (model P w) A (.call (.ref f) args) (CR CX outer P w H s Q E) s

theorem Env0.make {P : Program} {w : World} {K : PySem.W.Frag} {mg : Str → Option Value} {base : Heap} {A : Around} {outer : List Env} {s : Shared} {H : Hp} (e : Env0 P w K mg base A outer s H) (C : Addr) (us : List Value) (kw : List (Str × Value)) :
    Env0 P w K mg base (A.under (.builtin "type.__call__" ⟨.ref C :: us, kw⟩)) outer s H := ⟨by first | exact e.frames | (simpa [Around.under, Code.envs, Code.isFrame, pushEnvs] using e.frames), e.mod, e.bs, e.bsz, e.funs, e.frf, e.hok, e.bare⟩

section
variable {X : Cx} {pins : List (Addr × Obj)} {σ : St} {H : Hp} {s s' : Shared}
/-- from a body: what a callee wants -/
theorem Inv.env0 (I : Inv X pins σ H s) : Env0 X.prog X.w X.K X.mg X.base X.A X.stack s H :=
  ⟨I.ok.frames, I.ok.mod, I.bs, Nat.le_trans I.ok.bsz I.sz, I.stack, I.stkFree, I.hok, I.bare⟩
/-- behind a call -/
theorem Inv.after {Q : VK} {u : Value} (I : Inv X pins σ H s) (h : CE X.stack X.prog X.w H s Q u s') : EP X pins σ Q u s' := by
  obtain ⟨v, H', os, bare, un, hok, r, q⟩ := h
  obtain ⟨hh, g, d, t, os'⟩ := s'
  obtain rfl : os' = s.os := os
  exact ⟨v, H', I.call (h' := hh) (g' := g) (d' := d) (t' := t) (ch := []) un hok bare (fun b z => absurd z (by simp)), r, q⟩
end

/-! ### calls -/
/-- f(..): the written arguments, then the defaults dvs; E: what is wanted of an exception -/
def tCall (sp : Sp) (dvs : List V) (E : XK) (t : TA) : TE := fun σ H Q => t σ H fun vs H1 => sp (vs ++ dvs) H1 Q E
/-- o.m(..) of an instance of the class at C -/
def tMeth (C : Addr) (m : Str) (sp : Sp) (dvs : List V) (E : XK) (ta : TE) (t : TA) : TE := fun σ H Q => ta σ H fun x H1 => ∃ a dx fs, x = .ref a ∧ H1 a = some (.ins C dx fs) ∧ fs.lookup m = none ∧
  t σ H1 fun vs H2 => sp (x :: (vs ++ dvs)) H2 Q E
/-- C(..): a new instance and its dict, then __init__ -/
def tMake (C : Addr) (sp : Sp) (dvs : List V) (E : XK) (t : TA) : TE := fun σ H Q => t σ H fun vs H1 => ∀ x dx, H1 x = none → H1 dx = none → dx ≠ x →
  sp (.ref x :: (vs ++ dvs)) (upd (upd H1 dx (.own x)) x (.ins C dx [])) (fun v H2 => v = .non ∧ Q (.ref x) H2) E

/-- how the parameters are bound: us the positional arguments, kw the keywords' values by name, ds the defaults that fill up -/
def Binds (K : PySem.W.Frag) (fd : FuncData) (ps : List Str) (ds : List Value) : Prop :=
  ∀ (s : Shared) (us : List Value), K.In s.heap → (us ++ ds).length = ps.length → BindsTo s fd ⟨us, []⟩ (ps.zip (us ++ ds))
/-- every parameter is given -/
theorem Binds.all {K : PySem.W.Frag} {fd : FuncData} {ps : List Str} (h : ∀ us : List Value, us.length = ps.length → bindArgs fd ⟨us, []⟩ = pure (ps.zip us)) : Binds K fd ps [] := fun s us _ hl => by
  rw [List.append_nil] at hl ⊢
  exact .of_eq (h us hl)

/-- an exception of a callee reaches what this body wants of exceptions -/
def Passes (CX : CXT) (X : Cx) (E : XK) : Prop := ∀ (pins : List (Addr × Obj)) (σ : St) (H : Hp) (s : Shared) (e : Value) (s' : Shared), Inv X pins σ H s → CX X.stack H s E e s' → X.xe e s'

section
variable {X : Cx} {CX : CXT} {k : Nat} {f C : Addr} {fd : FuncData} {ps : List Str} {sp : Sp} {dvs : List V} {ds : List Value} {E : XK} {x m : Str} {p pos apos : Pos} {e o : Expr} {es : List Expr} {ta : TE} {t : TA}

/-- the callee runs -/
theorem run_fn {pins : List (Addr × Obj)} {σ : St} {H : Hp} {s : Shared} {Q : VK} {us : List Value} {vs : List V} (F : FnOk X.prog X.w X.K X.mg X.base CX k f fd ps sp) (hr : Room k X.A) (hb : Binds X.K fd ps ds) (hd : Vals dvs ds) (hx : Passes CX X E)
    (I : Inv X pins σ H s) (r : Vals vs us) (h : sp (vs ++ dvs) H Q E) : wpAny (model X.prog X.w) X.A (call (.ref f) us) (EP X pins σ Q) X.xe s := by
  have r2 : Vals (vs ++ dvs) (us ++ ds) := r.append hd
  have hl : (us ++ ds).length = ps.length := by rw [← r2.length]; exact F.len _ _ _ _ h
  refine wpAny_call (codeAny_mono (F.run X.A X.stack s H ⟨us, []⟩ (us ++ ds) (vs ++ dvs) Q E hr I.env0 (hb s us I.kIn hl) r2 h) fun r s' hq => ?_)
  cases r with
  | error e => exact hx pins σ H s e s' I hq
  | ok fl =>
    cases fl with
    | ret u => exact I.after hq
    | next => exact False.elim hq
    | brk => exact False.elim hq
    | cont => exact False.elim hq

theorem pe_call (F : FnOk X.prog X.w X.K X.mg X.base CX k f fd ps sp) (hr : Room k X.A) (hg : Gl X x) (hm : X.mg x = some (.ref f)) (hk : PySem.W.keepIn X.K (.ref f) = true) (hb : Binds X.K fd ps ds) (hd : Vals dvs ds) (hx : Passes CX X E)
    (ha : PA X (e :: es) t) (hdb : (x == ("__debug__" : Str)) = false := by decide) (he : starEach (e :: es) X.env = (false, eval e X.env) :: starEach es X.env := by rfl) (hpl : (backTo pos (starEach es X.env)).any (·.1) = false := by rfl) :
    PE X (.Call (.Name x p) (e :: es) [] pos) (tCall sp dvs E t) := by
  intro pins s σ H Q I h
  refine wpAny_Call_Name_kw (ld_glob I hg hm ?_ hdb)
  refine PySem.W.callWith_K (h₀ := X.base) I.ok.mod.kin hk (thn (ha pos pins s σ H _ I h) fun us s1 ⟨vs, H1, I1, r, q⟩ => ⟨I1.kIn, ?_⟩) he hpl
  exact run_fn F hr hb hd hx I1 r q


/-- what a class must have to be made -/
structure Mk (K : PySem.W.Frag) (C f : Addr) : Prop where
  makes : PySem.W.makesIn K C = true
  init : PySem.W.findIn K (.ref C) "__init__" = some (some (.ref f))
  fn : PySem.W.isFn K (.ref f) = true
  kp : PySem.W.keepIn K (.ref C) = true

theorem run_make {pins : List (Addr × Obj)} {σ : St} {H : Hp} {s : Shared} {Q : VK} {us : List Value} {vs : List V} (M : Mk X.K C f) (F : FnOk X.prog X.w X.K X.mg X.base CX k f fd ps sp) (hr : Room (k + 1) X.A) (hb : Binds X.K fd ps ds) (hd : Vals dvs ds)
    (hx : Passes CX X E) (I : Inv X pins σ H s) (r : Vals vs us)
    (h : ∀ x dx, H x = none → H dx = none → dx ≠ x → sp (.ref x :: (vs ++ dvs)) (upd (upd H dx (.own x)) x (.ins C dx [])) (fun v H2 => v = .non ∧ Q (.ref x) H2) E) :
    wpAny (model X.prog X.w) X.A (call (.ref C) us) (EP X pins σ Q) X.xe s := by
  have hq := h (s.heap.objs.size + 1) s.heap.objs.size (I.hok.fresh (Nat.le_succ _)) (I.hok.fresh (Nat.le_refl _)) (Nat.ne_of_lt (Nat.lt_succ_self _))
  have I2 := Inv.made (C := C) I
  have r2 : Vals (V.ref (s.heap.objs.size + 1) :: (vs ++ dvs)) (Value.ref (s.heap.objs.size + 1) :: (us ++ ds)) := .cons rfl (r.append hd)
  have hl : (Value.ref (s.heap.objs.size + 1) :: us ++ ds).length = ps.length := by
    have e := r2.length
    rw [F.len _ _ _ _ hq] at e
    exact e.symm
  refine wpAny_call (make_map (f := f) I.kIn M.makes M.init (beq_iff_eq.mp M.fn) (codeAny_mono (F.run _ X.stack _ _ ⟨Value.ref (s.heap.objs.size + 1) :: us, []⟩ (Value.ref (s.heap.objs.size + 1) :: (us ++ ds)) _ _ E (hr.make C us [])
    (I2.env0.make C us []) (hb _ (Value.ref (s.heap.objs.size + 1) :: us) I2.kIn hl) r2 hq) fun r s' hq' => ?_))
  cases r with
  | error e => exact hx pins σ _ _ e s' I2 hq'
  | ok fl =>
    cases fl with
    | ret u =>
      obtain ⟨v, H', I3, rv, ev, q3⟩ := I2.after hq'
      subst ev
      exact ⟨rv, ⟨V.ref (s.heap.objs.size + 1), H', I3, rfl, q3⟩⟩
    | next => exact False.elim hq'
    | brk => exact False.elim hq'
    | cont => exact False.elim hq'
theorem pe_make (M : Mk X.K C f) (F : FnOk X.prog X.w X.K X.mg X.base CX k f fd ps sp) (hr : Room (k + 1) X.A) (hg : Gl X x) (hm : X.mg x = some (.ref C)) (hb : Binds X.K fd ps ds) (hd : Vals dvs ds) (hx : Passes CX X E)
    (ha : PA X (e :: es) t) (hdb : (x == ("__debug__" : Str)) = false := by decide) (he : starEach (e :: es) X.env = (false, eval e X.env) :: starEach es X.env := by rfl) (hpl : (backTo pos (starEach es X.env)).any (·.1) = false := by rfl) :
    PE X (.Call (.Name x p) (e :: es) [] pos) (tMake C sp dvs E t) := by
  intro pins s σ H Q I h
  refine wpAny_Call_Name_kw (ld_glob I hg hm ?_ hdb)
  refine PySem.W.callWith_K (h₀ := X.base) I.ok.mod.kin M.kp (thn (ha pos pins s σ H _ I h) fun us s1 ⟨vs, H1, I1, r, q⟩ => ⟨I1.kIn, ?_⟩) he hpl
  exact run_make M F hr hb hd hx I1 r q
theorem pe_make0 (M : Mk X.K C f) (F : FnOk X.prog X.w X.K X.mg X.base CX k f fd ps sp) (hr : Room (k + 1) X.A) (hg : Gl X x) (hm : X.mg x = some (.ref C)) (hb : Binds X.K fd ps ds) (hd : Vals dvs ds) (hx : Passes CX X E)
    (hdb : (x == ("__debug__" : Str)) = false := by decide) : PE X (.Call (.Name x p) [] [] pos) (tMake C sp dvs E tNil) := by
  intro pins s σ H Q I h
  refine wpAny_Call_Name_kw (ld_glob I hg hm ?_ hdb)
  exact PySem.W.callWith_K0 I.kIn M.kp (run_make (us := []) M F hr hb hd hx I .nil h)
end

/-! ### keywords -/
/-- the values of the keywords, from the left -/
def PK (X : Cx) (kws : List Keyword) (t : TA) : Prop :=
  ∀ (pos : Pos) (pins : List (Addr × Obj)) (s : Shared) (σ : St) (H : Hp) (Q : List V → Hp → Prop), Inv X pins σ H s → t σ H Q → wpAny (model X.prog X.w) X.A (evalAll ((backToKw pos (keywordEach kws X.env)).map (·.2))) (AP X pins σ Q) X.xe s
section
variable {X : Cx} {CX : CXT} {k : Nat} {f C : Addr} {fd : FuncData} {ps ks : List Str} {sp : Sp} {E : XK} {x m : Str} {p pos apos kpos : Pos} {e o : Expr} {es : List Expr} {kws : List Keyword} {te ta : TE} {t tk : TA} {nm : Option Str}
theorem pk_nil : PK X [] tNil := fun _ _ _ _ H Q I h => wpAny_evalAll_nil ⟨[], H, I, .nil, h⟩
theorem pk_cons (ha : PE X e te) (hr : PK X kws t) : PK X (⟨nm, e, kpos⟩ :: kws) (tCons te t) := by
  intro pos pins s σ H Q I h
  show wpAny _ _ (evalAll ((do let v ← eval e X.env; standAt pos; pure v) :: (backToKw pos (keywordEach kws X.env)).map (·.2))) _ _ s
  refine wpAny_evalAll_cons (wpAny_bind (thn (ha pins s σ H _ I h) fun u s1 ⟨x, H1, I1, r1, q1⟩ => wpAny_bind (wpAny_standAt (wpAny_pure ?_))))
  exact thn (hr pos pins s1 σ H1 _ I1 q1) fun us s2 ⟨xs, H2, I2, r2, q2⟩ => ⟨x :: xs, H2, I2, .cons r1 r2, q2⟩

/-- how a call with keywords binds: g puts the positional values us and the keywords' values ws (names ks) in the parameters' order, defaults among them -/
structure KBinds (K : PySem.W.Frag) (fd : FuncData) (ps ks : List Str) (g : List Value → List Value → List Value) (gV : List V → List V → List V) : Prop where
  to : ∀ (s : Shared) (us ws : List Value), K.In s.heap → (g us ws).length = ps.length → BindsTo s fd ⟨us, ks.zip ws⟩ (ps.zip (g us ws))
  rel : ∀ {vs : List V} {us : List Value} {zs : List V} {ws : List Value}, Vals vs us → Vals zs ws → Vals (gV vs zs) (g us ws)
def tCallK (sp : Sp) (gV : List V → List V → List V) (E : XK) (t tk : TA) : TE := fun σ H Q => t σ H fun vs H1 => tk σ H1 fun zs H2 => sp (gV vs zs) H2 Q E
variable {g : List Value → List Value → List Value} {gV : List V → List V → List V}
end

/-! ### a def's body keeps its promise -/
/-- names: the parameters first -/
structure FnScope (N P : List Str) (sc : Scope) : Prop where
  kind : sc.kind = .function
  co : sc.isCoroutine = false
  gen : sc.isGenerator = false
  nd : N.Nodup
  pre : N.take P.length = P
  par : ∀ x ∈ P, sc.names.lookup x = some .local ∨ sc.names.lookup x = some .cell
  nofree : ∀ y ∈ sc.names, y.2 ≠ .free

theorem bindL_out {kindOf : Str → Option NameKind} {x : Str} : ∀ {binds : List (Str × Value)} {m : Str → Option Value}, (∀ v, (x, v) ∉ binds) → bindL kindOf binds m x = m x
  | [], _, _ => rfl
  | (n, v) :: r, m, h => by
    unfold bindL
    rw [bindL_out fun w hw => h w (List.mem_cons_of_mem _ hw)]
    split
    · have : x ≠ n := by rintro rfl; exact h v List.mem_cons_self
      simp [this]
    · rfl
theorem bindC_out {kindOf : Str → Option NameKind} {x : Str} : ∀ {binds : List (Str × Value)} {m : Str → Option Value}, (∀ v, (x, v) ∉ binds) → bindC kindOf binds m x = m x
  | [], _, _ => rfl
  | (n, v) :: r, m, h => by
    unfold bindC
    rw [bindC_out fun w hw => h w (List.mem_cons_of_mem _ hw)]
    split
    · rfl
    · have : x ≠ n := by rintro rfl; exact h v List.mem_cons_self
      simp [this]
theorem bindL_get {kindOf : Str → Option NameKind} {x : Str} {v : Value} : ∀ {P : List Str} {vs : List Value} {i : Nat} {m : Str → Option Value}, P.Nodup → P[i]? = some x → vs[i]? = some v → kindOf x = some .local →
    bindL kindOf (P.zip vs) m x = some v
  | [], _, _, _, _, h, _, _ => by simp at h
  | _ :: _, [], _, _, _, _, h, _ => by simp at h
  | p :: P, w :: vs, 0, m, nd, h1, h2, hk => by
    simp at h1 h2; subst h1; subst h2
    show bindL kindOf ((p, w) :: P.zip vs) m p = _
    unfold bindL
    rw [bindL_out fun v hv => (List.nodup_cons.mp nd).1 (List.of_mem_zip hv).1, if_pos hk]
    simp
  | p :: P, w :: vs, i + 1, m, nd, h1, h2, hk => by
    show bindL kindOf ((p, w) :: P.zip vs) m x = _
    unfold bindL
    exact bindL_get (i := i) (List.nodup_cons.mp nd).2 (by simpa using h1) (by simpa using h2) hk
theorem bindC_get {kindOf : Str → Option NameKind} {x : Str} {v : Value} : ∀ {P : List Str} {vs : List Value} {i : Nat} {m : Str → Option Value}, P.Nodup → P[i]? = some x → vs[i]? = some v → kindOf x ≠ some .local →
    bindC kindOf (P.zip vs) m x = some v
  | [], _, _, _, _, h, _, _ => by simp at h
  | _ :: _, [], _, _, _, _, h, _ => by simp at h
  | p :: P, w :: vs, 0, m, nd, h1, h2, hk => by
    simp at h1 h2; subst h1; subst h2
    show bindC kindOf ((p, w) :: P.zip vs) m p = _
    unfold bindC
    rw [bindC_out fun v hv => (List.nodup_cons.mp nd).1 (List.of_mem_zip hv).1, if_neg hk]
    simp
  | p :: P, w :: vs, i + 1, m, nd, h1, h2, hk => by
    show bindC kindOf ((p, w) :: P.zip vs) m x = _
    unfold bindC
    exact bindC_get (i := i) (List.nodup_cons.mp nd).2 (by simpa using h1) (by simpa using h2) hk

/-- the names' values at the entry -/
def start (N : List Str) (vs : List V) : St := vs.map some ++ List.replicate (N.length - vs.length) none

/-- the context of a def's body, at its entry; an exception leaves the frame, then lies as CX says -/
def cxOf (CX : CXT) (P : Program) (w : World) (K : PySem.W.Frag) (mg : Str → Option Value) (base : Heap) (N : List Str) (qual : Str) (scope : Scope) (f : Addr) (cd : Value) (A : Around) (outer : List Env) (s : Shared) (H : Hp) (E : XK) : Cx where
  prog := P
  w := w
  K := K
  mg := mg
  base := base
  A := A.deeper (envOfC qual scope s.heap.objs.size f cd)
  N := N
  s_0 := s
  H_0 := H
  env := envOfC qual scope s.heap.objs.size f cd
  outer := outer
  stack := envOfC qual scope s.heap.objs.size f cd :: outer
  ex := []
  calm := true
  fn := fun _ => true
  pn := []
  xe := fun e s' => wpAny (model P w) (A.deeper (envOfC qual scope s.heap.objs.size f cd)) (leaving (envOfC qual scope s.heap.objs.size f cd) e) (fun _ s'' => CX outer H s E e s'') (fun e' s'' => CX outer H s E e' s'') s'

theorem cell_has {sc : Scope} {n : Nat} {x : Str} (h : sc.names.lookup x = some .cell) : ∃ c, (cellsFrom n sc.names []).lookup x = some c := by
  have q := PySem.W.cellsFrom_some sc.names n [] (.inl h)
  exact Option.isSome_iff_exists.mp q

theorem inv_start {CX : CXT} {P : Program} {w : World} {K : PySem.W.Frag} {mg : Str → Option Value} {base : Heap} {N ps : List Str} {qual : Str} {scope : Scope} {f : Addr} {cd : Value} {A : Around} {outer : List Env} {s s1 : Shared} {H : Hp} {E : XK} {us : List Value} {vs : List V}
    (S : FnScope N ps scope) (hd : A.handled = none) (e0 : Env0 P w K mg base A outer s H) (hl : vs.length = ps.length) (r : Vals vs us)
    (x : InCallC s s.heap.objs.size (bindL (envOfC qual scope s.heap.objs.size f cd).kindOf (ps.zip us) fun _ => none) (cellsFrom (s.heap.objs.size + 1) scope.names []) (bindC (envOfC qual scope s.heap.objs.size f cd).kindOf (ps.zip us) fun _ => none) s1) :
    Inv (cxOf CX P w K mg base N qual scope f cd A outer s H E) [] (start N vs) H s1 := by
  have hpl : ps.length ≤ N.length := by have := congrArg List.length S.pre; rw [List.length_take] at this; omega
  obtain ⟨h1, tk, rfl, hk⟩ := x.done
  have noA : ∀ b : Addr, b ∉ (cxOf CX P w K mg base N qual scope f cd A outer s H E).ex := fun b z => absurd (show b ∈ ([] : List Addr) from z) (by simp)
  refine ⟨⟨e0.mod, S.kind, rfl, rfl, Nat.le_refl _, fun y z c h1 h2 => ?_, fun y hy => ?_, fun y c _ h => ?_, fun _ => hd, Around.frames_deeper e0.frames, .inr ⟨rfl, rfl⟩, fun b z => absurd z (noA b), e0.bs, e0.bsz, fun b _ _ => noA b, fun b z => absurd z (noA b), e0.funs, e0.frf⟩,
    rfl, e0.bare, Un.kept hk, ⟨_, x.toInCall.ns, fun i y v h1 h2 h3 => ?_⟩, fun y c h => ⟨_, x.cell y c h⟩, e0.hok.fresh (Nat.le_refl _), fun y c h => ?_, fun p hp => absurd (show p ∈ ([] : List (Addr × Obj)) from hp) (by simp), e0.hok.kept hk, ?_⟩
  · exact name_of_addr x.apart (PySem.mem_of_lookup h1) (PySem.mem_of_lookup h2)
  · have hy : scope.names.lookup y = some .cell ∨ scope.names.lookup y = some .free := hy
    rcases hy with hy | hy
    · exact cell_has hy
    · exact absurd rfl (S.nofree _ (PySem.mem_of_lookup hy))
  · exact Nat.le_of_lt (x.above y c (PySem.mem_of_lookup h))
  · have hi : i < vs.length := by
      unfold start at h2
      by_cases hi : i < vs.length
      · exact hi
      · rw [List.getElem?_append_right (by simpa using hi)] at h2
        rw [List.getElem?_replicate] at h2
        split at h2 <;> cases h2
    have ha : vs[i]? = some v := by
      unfold start at h2
      rw [List.getElem?_append_left (by simpa using hi), List.getElem?_map] at h2
      cases e : vs[i]? with
      | none => rw [e] at h2; cases h2
      | some a => rw [e] at h2; cases h2; rfl
    obtain ⟨u, hu, rv⟩ := r.get ha
    have hp : ps[i]? = some y := by
      rw [← S.pre, List.getElem?_take_of_lt (by omega)]; exact h1
    have ndP : ps.Nodup := by rw [← S.pre]; exact S.nd.sublist (List.take_sublist _ _)
    refine ⟨u, rv, ?_⟩
    rcases S.par y (List.mem_of_getElem? hp) with k | k
    · exact .inl ⟨k, bindL_get ndP hp hu k⟩
    · obtain ⟨c, e⟩ := cell_has (n := s.heap.objs.size + 1) k
      refine .inr ⟨.inl k, c, e, ?_⟩
      have q := x.cell y c e
      rw [bindC_get ndP hp hu (by show scope.names.lookup y ≠ _; rw [k]; decide)] at q
      exact q
  · exact e0.hok.fresh (Nat.le_of_lt (x.above y c (PySem.mem_of_lookup h)))
  · unfold start
    show _ = N.length
    rw [List.length_append, List.length_map, List.length_replicate]
    omega

/-- THE RULE: a def (or a method) of the text, by its body. The body's reading t is chosen for each entry; it is run at the parameters' values -/
theorem fn_of {CX : CXT} {P : Program} {w : World} {K : PySem.W.Frag} {mg : Str → Option Value} {base : Heap} {k : Nat} {f : Addr} {name qual : Str} {params : Arguments} {body : List Stmt} {scope : Scope} {dV kV doc pm cdv ct oc : Value} {an od : Option Addr}
    {osl : Array (Option Value)} {N ps : List Str} {sp : Sp} (lk : K.lookup f = some ⟨oc, od, .func (PySem.W.fnOf name qual params body scope dV kV doc pm an cdv ct), osl⟩) (hcd : PySem.W.codeIn K cdv qual = true) (S : FnScope N ps scope)
    (len : ∀ vs H Q E, sp vs H Q E → vs.length = ps.length)
    (hbody : ∀ (A : Around) (outer : List Env) (s : Shared) (H : Hp) (vs : List V) (Q : VK) (E : XK), Room k (A.deeper (envOfC qual scope s.heap.objs.size f cdv)) → sp vs H Q E →
      ∃ t, PSs (cxOf CX P w K mg base N qual scope f cdv A outer s H E) body t ∧ t { nx := fun _ H' => Q .non H', rt := Q } (start N vs) H) :
    FnOk P w K mg base CX (k + 1) f (PySem.W.fnOf name qual params body scope dV kV doc pm an cdv ct) ps sp := by
  refine ⟨len, fun A outer s H args us vs Q E hr e0 hb r hsp => ?_⟩
  have hl := len _ _ _ _ hsp
  have KX : K.In s.heap := e0.mod.kin.keeps fun b o e => (e0.bs b o e).1
  have lim : s.heap.NoLimit := e0.mod.nolimit.keeps fun b o e => (e0.bs b o e).1
  have hkind : ∀ y ∈ ps.zip us, scope.names.lookup y.1 = some .local ∨ (scope.names.lookup y.1 = some .cell ∧ ((cellsFrom (s.heap.objs.size + 1) scope.names []).lookup y.1).isSome = true) := fun ⟨n, v⟩ hy => by
    rcases S.par n (List.of_mem_zip hy).1 with q | q
    · exact .inl q
    · exact .inr ⟨q, PySem.W.cellsFrom_some _ _ _ (.inl q)⟩
  refine codeAny_call_function hr.depth (KX _ _ lk) rfl S.co S.gen rfl (PySem.W.codeRec_of KX hcd) (hb _ _ _ _ ?_)
  refine wpAny_newFunctionEnv_cells S.kind hkind fun env he s1 x => ?_
  subst he
  refine ⟨lim.keeps x.toInCall.keep, codeAny_func ?_⟩
  obtain ⟨t, ht, hq⟩ := hbody A outer s H vs Q E (hr.deeper _) hsp
  have I : Inv (cxOf CX P w K mg base N qual scope f cdv A outer s H E) [] (start N vs) H s1 := inv_start S hr.hd e0 hl r x
  refine wpAny_mono (ht [] s1 (start N vs) H _ I hq) (fun fl s' hs => ?_) fun e s' hs => hs
  have fin : ∀ {σ' : St} {H' : Hp} {v : V} {u : Value}, Inv (cxOf CX P w K mg base N qual scope f cdv A outer s H E) [] σ' H' s' → RelV v u → Q v H' → CE outer P w H s Q u s' :=
    fun {σ' H' v u} J rv q => ⟨v, H', J.os, J.bare, J.base, J.hok, rv, q⟩
  cases fl with
  | ret u =>
    obtain ⟨v, σ', H', J, rv, q⟩ := hs
    exact fin J rv q
  | next =>
    obtain ⟨σ', H', J, q⟩ := hs
    exact fin (v := V.non) (u := Value.none) J rfl q
  | brk =>
    obtain ⟨_, _, _, q⟩ := hs
    exact False.elim q
  | cont =>
    obtain ⟨_, _, _, q⟩ := hs
    exact False.elim q
end L2

namespace L2
open PySem PySem.Spec PyProof.Rows
section
variable {X : Cx} {x : Str} {p pos : Pos} {e : Expr} {es : List Expr} {t : TA} {id T : String} {r : List V → Hp → VK → Prop}

def tCB (r : List V → Hp → VK → Prop) (t : TA) : TE := fun σ H Q => t σ H fun vs H1 => r vs H1 Q
/-- f(e, ..), f a built-in function -/
theorem pe_callB (hc : CallR X (.builtin id) r) (hg : Gl X x) (hm : X.mg x = none) (hv : bootBuiltins x = some (.builtin id)) (ha : PA X (e :: es) t) (hn : x ≠ "__name__" := by decide) (hdb : (x == ("__debug__" : Str)) = false := by decide)
    (he : starEach (e :: es) X.env = (false, eval e X.env) :: starEach es X.env := by rfl) (hpl : (backTo pos (starEach es X.env)).any (·.1) = false := by rfl) : PE X (.Call (.Name x p) (e :: es) [] pos) (tCB r t) := by
  intro pins s σ H Q I h
  refine wpAny_Call_Name_kw (ld_blt I hg hm hv ?_ hn hdb)
  exact PyProof.Rows.callWith_builtin1 (thn (ha pos pins s σ H _ I h) fun us s1 ⟨vs, H1, I1, r1, q1⟩ => hc pins s1 σ H1 vs us Q I1 r1 q1) he hpl
/-- T(e, ..), T a built-in type -/
theorem pe_callTy (hc : CallR X (.type T) r) (hg : Gl X x) (hm : X.mg x = none) (hv : bootBuiltins x = some (.type T)) (ha : PA X (e :: es) t) (hn : x ≠ "__name__" := by decide) (hdb : (x == ("__debug__" : Str)) = false := by decide)
    (he : starEach (e :: es) X.env = (false, eval e X.env) :: starEach es X.env := by rfl) (hpl : (backTo pos (starEach es X.env)).any (·.1) = false := by rfl) : PE X (.Call (.Name x p) (e :: es) [] pos) (tCB r t) := by
  intro pins s σ H Q I h
  refine wpAny_Call_Name_kw (ld_blt I hg hm hv ?_ hn hdb)
  exact PyProof.Rows.callWith_type1 (thn (ha pos pins s σ H _ I h) fun us s1 ⟨vs, H1, I1, r1, q1⟩ => hc pins s1 σ H1 vs us Q I1 r1 q1) he hpl
end
end L2

namespace HT
open PySem PyProof.Rows

/-- t < u of tuples of ints -/
def lexLt : List Int → List Int → Bool
  | [], [] => false
  | [], _ :: _ => true
  | _ :: _, [] => false
  | x :: xs, y :: ys => if x = y then lexLt xs ys else decide (x < y)


section
open PySem.SeqAt
open PySem.AutoSeq1 (wpAny_loadPart')
open PySem.MeetsSeq PySem.MeetsSeq2 PySem.MeetsSeq3

end

section
variable {prog : Program} {w : World} {A : Around} {E : Value → Shared → Prop} {s : Shared}



/-! ### t[a:b], not the whole -/
/-- a slice's bound as a place among n (d where it is left out) -/
def sIx (n d : Nat) : Option Int → Nat
  | none => d
  | some v => if v < 0 then (v + (n : Int)).toNat else min v.toNat n

end
end HT

namespace L2
open PySem PySem.Spec PyProof.Rows

/-! ### the parts of a slice -/
abbrev TO := St → Hp → (Option Int → Hp → Prop) → Prop
/-- a slice's part (left out, or an int) -/
def PO (X : Cx) (e : Option Expr) (t : TO) : Prop :=
  ∀ (pins : List (Addr × Obj)) (s : Shared) (σ : St) (H : Hp) (Q : Option Int → Hp → Prop), Inv X pins σ H s → t σ H Q →
    wpAny (model X.prog X.w) X.A (evalPart e X.env) (fun u s' => ∃ o H', Inv X pins σ H' s' ∧ IsPart u o ∧ Q o H') X.xe s
def tNoPart : TO := fun _ H Q => Q none H
def tPart (t : TE) : TO := fun σ H Q => t σ H fun x H1 => ∃ i, x = .int i ∧ Q (some i) H1


section
variable {X : Cx} {e : Expr} {te : TE} {lo hi : Option Expr} {tl th : TO} {pos p2 : Pos}

theorem po_none : PO X none tNoPart := by
  intro pins s σ H Q I h
  rw [evalPart_none]
  exact wpAny_pure ⟨none, H, I, .none, h⟩
theorem po_some (h : PE X e te) : PO X (some e) (tPart te) := by
  intro pins s σ H Q I hw
  rw [evalPart_some]
  refine thn (h pins s σ H _ I hw) fun u s1 ⟨x, H1, I1, r1, q1⟩ => ?_
  obtain ⟨i, rfl, q⟩ := q1
  obtain ⟨t, rfl⟩ := r1
  exact ⟨some i, H1, I1, .int i t, q⟩

/-- what a slice of a value is, by values: the slice object stands at sl -/
def SlR (X : Cx) (r : V → Option Int → Option Int → Hp → VK → Prop) : Prop :=
  ∀ (pins : List (Addr × Obj)) (s : Shared) (σ : St) (H : Hp) (x : V) (v vl vu : Value) (lo hi : Option Int) (sl : Addr) (Q : VK), Inv X pins σ H s → RelV x v → s.heap.IsSliceOf sl vl vu .none → IsPart vl lo → IsPart vu hi → r x lo hi H Q →
    ∃ T id, typeLookup (.type T) "__getitem__" = pure (some (.builtin id)) ∧ s.TypeIs v T ∧ wpAny (model X.prog X.w) X.A (getItem v (.ref sl)) (EP X pins σ Q) X.xe s
def tSl (r : V → Option Int → Option Int → Hp → VK → Prop) (te : TE) (tl th : TO) : TE := fun σ H Q => te σ H fun x H1 => tl σ H1 fun l H2 => th σ H2 fun u H3 => r x l u H3 Q
/-- a[lo:hi], any a -/
theorem pe_slice {r : V → Option Int → Option Int → Hp → VK → Prop} (hr : SlR X r) (he : PE X e te) (hl : PO X lo tl) (hu : PO X hi th) : PE X (.Subscript e (.Slice lo hi none p2) pos) (tSl r te tl th) := by
  intro pins s σ H Q I h
  refine Subscript_ (thn (he pins s σ H _ I h) fun v s1 ⟨x, H1, I1, r1, q1⟩ => ?_)
  refine wpAny_Slice (thn (hl pins s1 σ H1 _ I1 q1) fun vl s2 ⟨l, H2, I2, pl, q2⟩ => thn (hu pins s2 σ H2 _ I2 q2) fun vu s3 ⟨u, H3, I3, pu, q3⟩ => ?_)
  rw [evalPart_none]
  refine wpAny_pure ?_
  have I4 : Inv X pins σ H3 { s3 with heap := s3.heap.push { cls := .type "slice", data := .fields #[vl, vu, .none] } } := I3.kept (t' := s3.toks) fun b ob q => Heap.get?_push_of_some _ q
  obtain ⟨T, id, hT, ht, hg⟩ := hr pins { s3 with heap := s3.heap.push { cls := .type "slice", data := .fields #[vl, vu, .none] } } σ H3 x v vl vu l u s3.heap.objs.size Q I4 r1 (Heap.IsSliceOf.new ..) pl pu q3
  show wpAny (model X.prog X.w) X.A (subscriptTail e (.Slice lo hi none p2) v (.ref s3.heap.objs.size)) (EP X pins σ Q) X.xe { s3 with heap := s3.heap.push { cls := .type "slice", data := .fields #[vl, vu, .none] } }
  exact tail_any (ops := [.ref s3.heap.objs.size, v]) ht hT hg (by with_unfolding_all rfl)

/-- the items of xs[lo:hi] -/
def cutV (xs : List V) (lo hi : Option Int) : List V := (xs.drop (HT.sIx xs.length 0 lo)).take (HT.sIx xs.length xs.length hi - HT.sIx xs.length 0 lo)
theorem cutV_length (xs : List V) (lo hi : Option Int) : (cutV xs lo hi).length ≤ xs.length := by
  unfold cutV
  rw [List.length_take, List.length_drop]
  omega
/-- t[lo:hi], not the whole of it (the whole would be t itself) -/
def rSlT (K : PySem.W.Frag) : V → Option Int → Option Int → Hp → VK → Prop := fun x lo hi H Q => ∃ a xs, x = .ref a ∧ SqT K H a xs ∧
  ¬ (HT.sIx xs.length 0 lo = 0 ∧ HT.sIx xs.length xs.length hi = xs.length) ∧ ∀ p, H p = none → Q (.ref p) (upd H p (.tup (cutV xs lo hi)))

/-! ### t < u, t + u -/
def rLtT (K : PySem.W.Frag) : R2 := fun x y H Q => ∃ a b ns ms, x = .ref a ∧ y = .ref b ∧ SqT K H a (ns.map V.int) ∧ SqT K H b (ms.map V.int) ∧ Q (.bl (HT.lexLt ns ms)) H
/-- t + u, t not empty: u empty gives t itself -/
def rCatT (K : PySem.W.Frag) : R2 := fun x y H Q => ∃ a b xs ys, x = .ref a ∧ y = .ref b ∧ SqT K H a xs ∧ SqT K H b ys ∧ xs ≠ [] ∧ xs.length + ys.length ≤ sizeLine ∧
  (ys = [] → Q (.ref a) H) ∧ (ys ≠ [] → ∀ p, H p = none → Q (.ref p) (upd H p (.tup (xs ++ ys))))
end
end L2

namespace L2
open PySem PySem.Spec PyProof.Rows

/-! ### places -/
/-- the place that an index of any sign means -/
def ixN (n : Nat) (i : Int) : Option Nat := if 0 ≤ i then (if i < n then some i.toNat else none) else if -(n : Int) ≤ i then some (i + n).toNat else none
def atI {α : Type} (xs : List α) (i : Int) : Option α := (ixN xs.length i).bind fun j => xs[j]?
theorem ixN_seq {n : Nat} {i : Int} {j : Nat} (h : ixN n i = some j) : seqIndex? i n = some j ∧ j < n ∧ -(n : Int) ≤ i ∧ i < n := by
  unfold ixN at h
  by_cases h0 : 0 ≤ i
  · rw [if_pos h0] at h
    by_cases h1 : i < n
    · rw [if_pos h1] at h
      have e : i.toNat = j := Option.some.inj h
      exact ⟨by rw [seqIndex_of h0 h1, e], by omega, by omega, h1⟩
    · rw [if_neg h1] at h; cases h
  · rw [if_neg h0] at h
    by_cases h1 : -(n : Int) ≤ i
    · rw [if_pos h1] at h
      have e : (i + n).toNat = j := Option.some.inj h
      exact ⟨by rw [seqIndex_neg (by omega) h1, e], by omega, h1, by omega⟩
    · rw [if_neg h1] at h; cases h
theorem atI_get {α : Type} {xs : List α} {i : Int} {v : α} (h : atI xs i = some v) : ∃ j, seqIndex? i xs.length = some j ∧ xs[j]? = some v ∧ j < xs.length ∧ -(xs.length : Int) ≤ i ∧ i < xs.length := by
  unfold atI at h
  cases e : ixN xs.length i with
  | none => rw [e] at h; cases h
  | some j =>
    rw [e] at h
    obtain ⟨h1, h2, h3, h4⟩ := ixN_seq e
    exact ⟨j, h1, h, h2, h3, h4⟩
theorem atI_nat {α : Type} {xs : List α} {j : Nat} {v : α} (h : xs[j]? = some v) : atI xs (j : Int) = some v := by
  have hj : j < xs.length := (List.getElem?_eq_some_iff.mp h).1
  have e : ixN xs.length (j : Int) = some j := by
    unfold ixN
    rw [if_pos (by omega), if_pos (by omega)]; simp
  unfold atI; rw [e]; exact h

/-! ### what may be subscripted -/
/-- what stands as an index of a plain subscript -/
def PlainIx (b : Expr) : Prop := ∀ o i, subscripted b false o i = operate [o, i] (getItem o i)
/-- a subscript by values -/
def IxR (X : Cx) (r : R2) : Prop :=
  ∀ (value slice : Expr) (pins : List (Addr × Obj)) (s : Shared) (σ : St) (H : Hp) (x y : V) (v u : Value) (Q : VK), Inv X pins σ H s → RelV x v → RelV y u → r x y H Q →
    subscripted slice false v u = operate [v, u] (getItem v u) → wpAny (model X.prog X.w) X.A (subscriptTail value slice v u) (EP X pins σ Q) X.xe s
/-- a call of a builtin's method by values: the receiver, the arguments -/
def MtR (X : Cx) (id : String) (r : V → List V → Hp → VK → Prop) : Prop :=
  ∀ (pins : List (Addr × Obj)) (s : Shared) (σ : St) (H : Hp) (x : V) (xs : List V) (v : Value) (us : List Value) (Q : VK), Inv X pins σ H s → RelV x v → Vals xs us → r x xs H Q →
    wpAny (model X.prog X.w) X.A (call (.builtin id) (v :: us)) (EP X pins σ Q) X.xe s
section
variable {X : Cx} {a b : Expr} {ta tb : TE} {pos : Pos}
/-- a[b] -/
theorem pe_ix {r : R2} (hr : IxR X r) (ha : PE X a ta) (hb : PE X b tb) (hs : PlainIx b) : PE X (.Subscript a b pos) (tOp r ta tb) := by
  intro pins s σ H Q I h
  exact Subscript_ (binT ha hb I h fun v u s2 x y H2 I2 rx ry q => hr a b pins s2 σ H2 x y v u Q I2 rx ry q (hs _ _))

def rIxL (K : PySem.W.Frag) : R2 := fun x y H Q => ∃ p xs i v, x = .ref p ∧ y = .int i ∧ SqL K H p xs ∧ atI xs i = some v ∧ Q v H
def rIxT (K : PySem.W.Frag) : R2 := fun x y H Q => ∃ p xs i v, x = .ref p ∧ y = .int i ∧ SqT K H p xs ∧ atI xs i = some v ∧ Q v H
def rIxS : R2 := fun x y H Q => ∃ z i c, x = .str z ∧ y = .int i ∧ z.length ≤ sizeLine ∧ atI z.cps.toList i = some c ∧ Q (.str ⟨#[c]⟩) H
theorem ix_list : IxR X (rIxL X.K) := by
  intro value slice pins s σ H x y v u Q I rx ry h hs
  obtain ⟨p, xs, i, z, rfl, rfl, hq, he, q⟩ := h
  cases rx
  obtain ⟨t, rfl⟩ := ry
  obtain ⟨its, r, pl, hz⟩ := I.list hq
  obtain ⟨j, h1, h2, h3, h4, h5⟩ := atI_get he
  obtain ⟨w, ew, rw'⟩ := r.get h2
  have hl := r.length
  have hn := line63
  have fin : EP X pins σ Q w s := ⟨z, H, I, rw', q⟩
  by_cases h0 : 0 ≤ i
  · have hj : i.toNat = j := by
      rw [seqIndex_of h0 h5] at h1
      exact Option.some.inj h1
    exact item_listR pl.isList h0 (by omega) (by rw [hj]; simpa using ew) fin hs
  · have hj : (i + (its.toArray.size : Int)).toNat = j := by
      rw [seqIndex_neg (by omega) h4] at h1
      rw [List.size_toArray, ← hl]
      exact Option.some.inj h1
    exact subscriptTail_builtinR (x := w) pl.isList.typeIs slot_list_getitem.lookup
      (wpAny_getItem_list_neg (Q := fun r s' => r = w ∧ EP X pins σ Q r s') pl.isList (by omega) (by rw [List.size_toArray] <;> omega) (by omega) (by rw [hj]; simpa using ew) ⟨rfl, fin⟩) hs
/-- list, tuple or str -/
def rIx (K : PySem.W.Frag) : R2 := fun x y H Q => rIxL K x y H Q ∨ rIxT K x y H Q ∨ rIxS x y H Q

/-! ### xs[i] = v, any sign -/
/-- the list's object behind a store -/
theorem mapSeq_set (its : List Value) (n j : Nat) (u : Value) : Obj.mapSeq (·.setIfInBounds j u) { cls := .type "list", data := .seq its.toArray n } = { cls := .type "list", data := .seq (its.set j u).toArray n } := by
  simp [Obj.mapSeq]
theorem Inv.lst {pins : List (Addr × Obj)} {σ : St} {H : Hp} {s : Shared} {p : Addr} {xs : List V} (I : Inv X pins σ H s) (h : H p = some (.lst xs)) :
    ∃ (its : List Value) (n : Nat), Vals xs its ∧ s.heap.get? p = some { cls := .type "list", data := .seq its.toArray n } ∧ xs.length ≤ sizeLine := by
  obtain ⟨z, its, n, r, e⟩ := I.hok p _ h
  exact ⟨its, n, r, e, z⟩
/-- the list at p is written by an update of its object -/
theorem Inv.lstUpd {pins : List (Addr × Obj)} {σ : St} {H : Hp} {s : Shared} {p : Addr} {xs ys : List V} {its its' : List Value} {n n' : Nat} {f : Obj → Obj} (I : Inv X pins σ H s) (h : H p = some (.lst xs))
    (ho : s.heap.get? p = some { cls := .type "list", data := .seq its.toArray n }) (hf : f { cls := .type "list", data := .seq its.toArray n } = { cls := .type "list", data := .seq its'.toArray n' }) (r : Vals ys its') (hz : ys.length ≤ sizeLine) (t : Nat) :
    Inv X pins σ (upd H p (.lst ys)) { s with heap := s.heap.update p f, toks := t } := by
  have e : (s.heap.update p f).get? p = some { cls := .type "list", data := .seq its'.toArray n' } := by
    rw [Heap.get?_update_self f ho (by rw [hf] <;> rfl), hf]
  refine I.write (x := p) (e := p) (by rw [h]; trivial) (.inl rfl) (fun b u hb q => (Heap.get?_update_other _ _ (Ne.symm hb)).trans q) ⟨_, e⟩ ?_
  exact ⟨hz, its', n', r, e⟩
def rSetL : V → V → V → Hp → (Hp → Prop) → Prop := fun o i v H Q => ∃ p xs k j, o = .ref p ∧ i = .int k ∧ H p = some (.lst xs) ∧ ixN xs.length k = some j ∧ Q (upd H p (.lst (xs.set j v)))
theorem set_list : PSet X rSetL := by
  intro pins s σ H o i v ov iv u Q I ro ri rv h
  obtain ⟨p, xs, k, j, rfl, rfl, hp, hj, q⟩ := h
  cases ro
  obtain ⟨t, rfl⟩ := ri
  obtain ⟨its, n, r, ho, hz⟩ := I.lst hp
  obtain ⟨h1, h2, h3, h4⟩ := ixN_seq hj
  have hl := r.length
  have hn := line63
  have I' : Inv X pins σ (upd H p (.lst (xs.set j v))) { s with heap := s.heap.update p (Obj.mapSeq (·.setIfInBounds j u)) } :=
    I.lstUpd hp ho (mapSeq_set its n j u) (r.set rv j) (by rw [List.length_set]; exact hz) s.toks
  by_cases h0 : 0 ≤ k
  · have hk : k.toNat = j := by
      rw [seqIndex_of h0 h4] at h1
      exact Option.some.inj h1
    exact PySem.W.ki_setAt ho h0 (by omega) (by rw [List.size_toArray, ← hl]; exact h4) (by rw [hk]; exact ⟨_, I', q⟩)
  · have hk : (k + (its.toArray.size : Int)).toNat = j := by
      rw [seqIndex_neg (by omega) h3] at h1
      rw [List.size_toArray, ← hl]
      exact Option.some.inj h1
    exact PySem.W.ki_setBack ho (by omega) (by rw [List.size_toArray, ← hl]; exact h3) (by omega) (by rw [hk]; exact ⟨_, I', q⟩)

/-! ### slices -/
theorem slice_bounds (lo hi : Option Int) (n : Nat) : (sliceBounds lo hi none n).1 = ((HT.sIx n 0 lo : Nat) : Int) ∧ (sliceBounds lo hi none n).2.1 = ((HT.sIx n n hi : Nat) : Int) ∧ (sliceBounds lo hi none n).2.2 = 1 := by
  refine ⟨?_, ?_, rfl⟩
  · cases lo with
    | none => simp [sliceBounds, HT.sIx]
    | some i =>
      simp only [sliceBounds, HT.sIx, Option.getD_none, show (1 : Int) > 0 by decide, if_true]
      by_cases h : i < 0
      · simp only [h, if_true] <;> omega
      · simp only [h, if_false] <;> omega
  · cases hi with
    | none => simp [sliceBounds, HT.sIx]
    | some i =>
      simp only [sliceBounds, HT.sIx, Option.getD_none, show (1 : Int) > 0 by decide, if_true]
      by_cases h : i < 0
      · simp only [h, if_true] <;> omega
      · simp only [h, if_false] <;> omega
theorem slicePick_cut (its : List Value) (lo hi : Option Int) : slicePick its.toArray lo hi none = ((its.drop (HT.sIx its.length 0 lo)).take (HT.sIx its.length its.length hi - HT.sIx its.length 0 lo)).toArray := by
  obtain ⟨h1, h2, h3⟩ := slice_bounds lo hi its.toArray.size
  unfold slicePick
  rw [h1, h2, h3]
  simp only [sliceRange_one, pick_run, List.size_toArray] <;> rfl
/-- xs[lo:hi] of a list: a new list -/
def rSlL (K : PySem.W.Frag) : V → Option Int → Option Int → Hp → VK → Prop := fun x lo hi H Q => ∃ a xs, x = .ref a ∧ SqL K H a xs ∧ ∀ p, H p = none → Q (.ref p) (upd H p (.lst (cutV xs lo hi)))
theorem sl_list : SlR X (rSlL X.K) := by
  intro pins s σ H x v vl vu lo hi sl Q I rx hs pl pu h
  obtain ⟨a, xs, rfl, hx, q⟩ := h
  cases rx
  obtain ⟨its, r, ht, hz⟩ := I.list hx
  have hlen := r.length
  refine ⟨"list", _, slot_list_getitem.lookup, ht.isList.typeIs, ?_⟩
  refine wpAny_getItem_list_slice ht.isList hs pl pu .none (by simp) ?_ (by rw [List.size_toArray] <;> omega)
  rw [slicePick_cut, ← hlen]
  refine ⟨.ref s.heap.objs.size, _, I.laid (t' := s.toks) (o := .lst (cutV xs lo hi)) (fun b ob q => Heap.get?_push_of_some _ q) (Nat.le_refl _) ?_, rfl, q _ (I.hok.fresh (Nat.le_refl _))⟩
  exact ⟨Nat.le_trans (cutV_length xs lo hi) hz, _, 0, (r.drop (HT.sIx xs.length 0 lo)).take (HT.sIx xs.length xs.length hi - HT.sIx xs.length 0 lo), Heap.get?_push_size _ rfl⟩

/-! ### in, not in: flat items -/
def flatV : V → Bool
  | .non => true
  | .bl _ => true
  | .int _ => true
  | .str _ => true
  | _ => false
/-- == of flat values -/
def eqV : V → V → Bool
  | .non, .non => true
  | .bl a, .bl b => a == b
  | .bl a, .int b => (if a then 1 else 0) == b
  | .int a, .bl b => a == (if b then 1 else 0)
  | .int a, .int b => a == b
  | .str a, .str b => a == b
  | _, _ => false
/-- the items' answers, read off the values (a value's own answer does not lean on its token) -/
def eqU (x : V) (u : Value) : Bool := match u with
  | .none => eqV .non x
  | .bool b => eqV (.bl b) x
  | .int i _ => eqV (.int i) x
  | .str z _ => eqV (.str z) x
  | _ => false
def inV (x : V) (xs : List V) : Bool := xs.any fun y => eqV y x
/-- x in a list or tuple of flat items -/
def rIn (K : PySem.W.Frag) (neg : Bool) : R2 := fun x y H Q => ∃ p xs, y = .ref p ∧ (SqL K H p xs ∨ SqT K H p xs) ∧ flatV x = true ∧ xs.all flatV = true ∧ Q (.bl (if neg then !inV x xs else inV x xs)) H

/-! ### len, list(x), tuple(x) of any list or tuple that is read -/
theorem call_len_seq : CallR X (.builtin "len") (fun xs H Q => ∃ p ys, xs = [.ref p] ∧ (SqL X.K H p ys ∨ SqT X.K H p ys) ∧ Q (.int ys.length) H) := by
  intro pins s σ H xs us Q I r h
  obtain ⟨p, ys, rfl, hq, q⟩ := h
  obtain ⟨u, rfl, rx⟩ := vals1 r
  cases rx
  have hn := line63
  rcases hq with hq | hq
  · obtain ⟨its, r', pl, hz⟩ := I.list hq
    have hlen := r'.length
    exact Calls.call_len_list pl.isList (by simp only [List.size_toArray] <;> omega) ⟨.int ys.length, H, I.tok _, ⟨s.toks + 1, by rw [List.size_toArray, hlen]⟩, q⟩
  · obtain ⟨its, r', pl, hz⟩ := I.tuple hq
    have hlen := r'.length
    exact len_tuple pl (by simp only [List.size_toArray] <;> omega) ⟨.int ys.length, H, I.tok _, ⟨s.toks + 1, by rw [List.size_toArray, hlen]⟩, q⟩
theorem call_list_of : CallR X (.type "list") (fun xs H Q => ∃ p ys, xs = [.ref p] ∧ (SqL X.K H p ys ∨ SqT X.K H p ys) ∧ ∀ l, H l = none → Q (.ref l) (upd H l (.lst ys))) := by
  intro pins s σ H xs us Q I r h
  obtain ⟨p, ys, rfl, hq, q⟩ := h
  obtain ⟨u, rfl, rx⟩ := vals1 r
  cases rx
  have fin : ∀ (its : List Value), Vals ys its → ys.length ≤ sizeLine → ∀ (h' : Heap) (c' : Nat), (∀ b o', s.heap.get? b = some o' → h'.get? b = some o') →
      h'.get? s.heap.objs.size = some { cls := .type "list", dict := none, data := .seq its.toArray c', slots := #[] } → EP X pins σ Q (.ref s.heap.objs.size) { s with heap := h' } := fun its r' hz h' c' kp e =>
    ⟨.ref s.heap.objs.size, _, I.laid (t' := s.toks) kp (Nat.le_refl _) (show ObjOk X.prog X.w _ h' _ (.lst ys) from ⟨hz, its, c', r', e⟩), rfl, q _ (I.hok.fresh (Nat.le_refl _))⟩
  rcases hq with hq | hq
  · obtain ⟨its, r', pl, hz⟩ := I.list hq
    have hlen := r'.length
    obtain ⟨o, ho, hc, n, hd⟩ := pl.isList
    exact call_list_seq p (.inl rfl) ho hc hd (fun h' c' kp e => fin its r' hz h' c' kp e) (by simp only [List.size_toArray] <;> omega)
  · obtain ⟨its, r', pl, hz⟩ := I.tuple hq
    have hlen := r'.length
    obtain ⟨o, ho, hc, n, hd⟩ := pl
    exact call_list_seq p (.inr rfl) ho hc hd (fun h' c' kp e => fin its r' hz h' c' kp e) (by simp only [List.size_toArray] <;> omega)

/-! ### the call of a builtin's method: o.m(..) -/
/-- the value is of that builtin type -/
def tyV (K : PySem.W.Frag) (T : String) (x : V) (H : Hp) : Prop := match x with
  | .str _ => T = "str"
  | .int _ => T = "int"
  | .ref p => (T = "list" ∧ ∃ xs, SqL K H p xs) ∨ (T = "tuple" ∧ ∃ o, K.lookup p = some o ∧ o.cls = .type "tuple" ∧ o.dict = none) ∨
      (T = "dict" ∧ ((∃ kvs, H p = some (.dK kvs)) ∨ ∃ kvs, H p = some (.dT kvs))) ∨ (T = "set" ∧ ∃ S n, H p = some (.set S n))
  | _ => False
theorem tyV_is {pins : List (Addr × Obj)} {σ : St} {H : Hp} {s : Shared} {T : String} {x : V} {v : Value} (I : Inv X pins σ H s) (r : RelV x v) (ty : tyV X.K T x H) :
    s.TypeIs v T ∧ ∀ a, v = .ref a → ∃ ob, s.heap.get? a = some ob ∧ ob.dict = none := by
  cases x with
  | str z =>
    obtain ⟨t, rfl⟩ := r
    cases (show T = "str" from ty)
    exact ⟨typeIs_str s z t, fun _ e => nomatch e⟩
  | int i =>
    obtain ⟨t, rfl⟩ := r
    cases (show T = "int" from ty)
    exact ⟨typeIs_int s i t, fun _ e => nomatch e⟩
  | ref p =>
    cases r
    rcases ty with ⟨rfl, xs, hq⟩ | ⟨rfl, o, hk, hc, hd⟩ | ⟨rfl, hk⟩ | ⟨rfl, S, n, hk⟩
    · obtain ⟨its, _, pl, _⟩ := I.list hq
      refine ⟨pl.isList.typeIs, fun a e => ?_⟩
      cases e
      obtain ⟨o, n, e, c, hd, _⟩ := pl
      exact ⟨o, e, hd⟩
    · refine ⟨⟨o, I.kIn p o hk, hc⟩, fun a e => ?_⟩
      cases e
      exact ⟨o, I.kIn _ o hk, hd⟩
    · have z : ∃ o, s.heap.get? p = some o ∧ o.ExactDict := by
        rcases hk with ⟨kvs, hk⟩ | ⟨kvs, hk⟩
        · obtain ⟨_, _, _, _, o, _, _, e, ex, _⟩ := I.hok p _ hk
          exact ⟨o, e, ex⟩
        · obtain ⟨_, _, _, _, o, _, _, e, ex, _⟩ := I.hok p _ hk
          exact ⟨o, e, ex⟩
      obtain ⟨o, e, ex⟩ := z
      refine ⟨⟨o, e, ex.1⟩, fun a e2 => ?_⟩
      cases e2
      exact ⟨o, e, ex.2.1⟩
    · obtain ⟨o, _, _, _, e, ex, _⟩ := I.hok p _ hk
      refine ⟨⟨o, e, ex.1⟩, fun a e2 => ?_⟩
      cases e2
      exact ⟨o, e, ex.2.1⟩
  | _ => exact False.elim ty
def tBM0 (K : PySem.W.Frag) (T : String) (r : V → List V → Hp → VK → Prop) (to : TE) : TE := fun σ H Q => to σ H fun x H1 => tyV K T x H1 ∧ r x [] H1 Q
def tBM (K : PySem.W.Frag) (T : String) (r : V → List V → Hp → VK → Prop) (to : TE) (t : TA) : TE := fun σ H Q => to σ H fun x H1 => tyV K T x H1 ∧ t σ H1 fun xs H2 => r x xs H2 Q
variable {o e : Expr} {es : List Expr} {to : TE} {t : TA} {name : Str} {apos cpos : Pos} {T id : String} {r : V → List V → Hp → VK → Prop}
theorem pe_bm (pa : PlainAttrs T) (slot : Slot T name id) (hty : typeOf (.builtin id) = pure (.type "method_descriptor")) (hm : MtR X id r) (ho : PE X o to) (ha : PA X (e :: es) t)
    (hbase : attributeBase o name X.env (eval o X.env) = eval o X.env := by rfl)
    (hfew : ((backTo cpos (starEach (e :: es) X.env)).all (fun x => !x.1) && (backToKw cpos (keywordEach [] X.env)).all (fun x => x.1.isSome)
      && decide ((e :: es).length + ([] : List Keyword).length + (if ([] : List Keyword).isEmpty then 0 else 1) < 30)) = true := by rfl)
    (hline : (apos.endLine == cpos.line) = true := by rfl) (hs : starEach (e :: es) X.env = (false, eval e X.env) :: starEach es X.env := by rfl) (hplain : (backTo cpos (starEach es X.env)).any (·.1) = false := by rfl) :
    PE X (.Call (.Attribute o name apos) (e :: es) [] cpos) (tBM X.K T r to t) := by
  intro pins s σ H Q I h
  refine wpAny_Call_method_late hbase hfew hline rfl (thn (ho pins s σ H _ I h) fun v s1 ⟨x, H1, I1, r1, ty, q1⟩ => ?_)
  obtain ⟨h1, h2⟩ := tyV_is I1 r1 ty
  refine ⟨T, id, pa, slot, hty, h1, h2, ?_⟩
  have hA := ha cpos pins s1 σ H1 _ I1 q1
  rw [hs] at hA ⊢
  refine Calls.callWith_builtin (by show (false || (backTo cpos (starEach es X.env)).any (·.1)) = false; rw [hplain] <;> rfl) (Calls.evalArgs_plain ?_)
  exact thn hA fun us s2 ⟨vs, H2, I2, r2, q2⟩ => hm pins s2 σ H2 x vs v us Q I2 r1 r2 q2
/- xs.append(e), list.index on a module's tuple .. are MtR facts of 06m -/
end
end L2

namespace L2
open PySem PySem.Spec PyProof.Rows

def MtM (X : Cx) (id : String) (r : V → List V → Hp → VK → Prop) : Prop :=
  ∀ (pins : List (Addr × Obj)) (s : Shared) (σ : St) (H : Hp) (x : V) (xs : List V) (v : Value) (us : List Value) (Q : VK), Inv X pins σ H s → RelV x v → Vals xs us → r x xs H Q →
    wpAny (model X.prog X.w) X.A (call (.builtin id) (v :: us)) (EP X pins σ Q) X.xe s

/-! ### lists of values -/
theorem Vals.one : ∀ {x : V} {us : List Value}, Vals [x] us → ∃ u, us = [u] ∧ RelV x u
  | _, _, .cons r .nil => ⟨_, rfl, r⟩
theorem Vals.rep {xs : List V} {us : List Value} (h : Vals xs us) : ∀ k : Nat, Vals (List.replicate k xs).flatten (List.replicate k us).flatten
  | 0 => .nil
  | k + 1 => by
    rw [List.replicate_succ, List.replicate_succ, List.flatten_cons, List.flatten_cons]
    exact Vals.append h (Vals.rep h k)
theorem foldl_rep (its : List Value) : ∀ (k : Nat) (acc : List Value),
    List.foldl (fun x1 x2 => x1 ++ x2) acc.toArray (List.replicate k its.toArray) = (acc ++ (List.replicate k its).flatten).toArray
  | 0, acc => by simp
  | k + 1, acc => by
    have e : acc.toArray ++ its.toArray = (acc ++ its).toArray := by simp
    have e2 : (acc ++ its) ++ (List.replicate k its).flatten = acc ++ (List.replicate (k + 1) its).flatten := by
      rw [List.replicate_succ, List.flatten_cons, List.append_assoc]
    rw [← e2, ← foldl_rep its k (acc ++ its), ← e, List.replicate_succ, List.foldl_cons]

section
variable {X : Cx} {pins : List (Addr × Obj)} {σ : St} {H : Hp} {s : Shared} {l b : Addr} {xs ys zs : List V}

/-! ### the two steps: a tracked list is rewritten, a new list is laid -/
theorem Inv.lset {its its' : List Value} {n : Nat} {f : Array Value → Array Value} {t' : Nat} (I : Inv X pins σ H s) (hH : H l = some (.lst xs))
    (e : s.heap.get? l = some { cls := .type "list", data := .seq its.toArray n }) (hf : f its.toArray = its'.toArray) (hv : Vals ys its') (hz : ys.length ≤ sizeLine) :
    Inv X pins σ (upd H l (.lst ys)) { s with heap := s.heap.update l (Obj.mapSeq f), toks := t' } := by
  have q := PySem.IsL.update e f
  rw [hf] at q
  refine I.write (x := l) (e := l) (by rw [hH]; exact trivial) (.inl rfl) (fun b' u hb hu => (Heap.get?_update_other s.heap (Obj.mapSeq f) (Ne.symm hb)).trans hu) ⟨_, q⟩ ?_
  exact ⟨hz, its', _, hv, q⟩
theorem Inv.lnew {its : List Value} {t' : Nat} (I : Inv X pins σ H s) (hv : Vals ys its) (hz : ys.length ≤ sizeLine) :
    Inv X pins σ (upd H s.heap.objs.size (.lst ys)) { s with heap := s.heap.push { cls := .type "list", data := .seq its.toArray }, toks := t' } :=
  I.laid (fun _ _ q => Heap.get?_push_of_some _ q) (Nat.le_refl _) ⟨hz, its, 0, hv, Heap.get?_push_size _ rfl⟩
theorem Inv.fresh (I : Inv X pins σ H s) : H s.heap.objs.size = none := I.hok.fresh (Nat.le_refl _)
theorem Inv.lstM (I : Inv X pins σ H s) (hH : H l = some (.lst xs)) : xs.length ≤ sizeLine ∧ ∃ (its : List Value) (n : Nat), Vals xs its ∧ xs.length = its.length ∧ s.heap.get? l = some { cls := .type "list", data := .seq its.toArray n } := by
  obtain ⟨z, its, n, r, e⟩ := I.hok l _ hH
  exact ⟨z, its, n, r, r.length, e⟩

theorem notLongL {n : Nat} (h : n ≤ sizeLine) : Builtin.List.listTooLong n = false := by
  unfold Builtin.List.listTooLong
  exact decide_eq_false (by omega)
end

section
variable {X : Cx}

/-! ### methods -/
def rAppend : V → List V → Hp → VK → Prop := fun x vs H Q => ∃ l xs y, x = .ref l ∧ vs = [y] ∧ H l = some (.lst xs) ∧ xs.length < sizeLine ∧ Q .non (upd H l (.lst (xs ++ [y])))
theorem mt_append : MtM X "list.append" rAppend := by
  intro pins s σ H x vs v us Q I rx rv h
  obtain ⟨l, xs, y, rfl, rfl, hH, hz, q⟩ := h
  cases rx
  obtain ⟨u, rfl, ru⟩ := rv.one
  obtain ⟨z, its, n, r, hl, e⟩ := I.lstM hH
  refine call_meets F.slot_list_append ⟨_, e, rfl⟩ F.entry_list_append (F.args_list_append_2 _ _) (PySem.list_append l its.toArray n u (by rw [List.size_toArray]; omega)) ⟨e, ?_⟩
  refine ⟨.non, _, I.lset (its' := its ++ [u]) hH e (by simp) (r.append (.cons ru .nil)) ?_, rfl, q⟩
  rw [List.length_append, List.length_singleton]
  omega

def rExtend : V → List V → Hp → VK → Prop := fun x vs H Q => ∃ l b xs zs, x = .ref l ∧ vs = [.ref b] ∧ H l = some (.lst xs) ∧ H b = some (.lst zs) ∧ xs.length + zs.length ≤ sizeLine ∧ Q .non (upd H l (.lst (xs ++ zs)))
theorem mt_extend : MtM X "list.extend" rExtend := by
  intro pins s σ H x vs v us Q I rx rv h
  obtain ⟨l, b, xs, zs, rfl, rfl, hH, hB, hz, q⟩ := h
  cases rx
  obtain ⟨u, rfl, ru⟩ := rv.one
  cases ru
  obtain ⟨z, its, n, r, hl, e⟩ := I.lstM hH
  obtain ⟨z2, its2, n2, r2, hl2, e2⟩ := I.lstM hB
  have hsz : its.toArray.size + its2.toArray.size ≤ sizeLine := by rw [List.size_toArray, List.size_toArray]; omega
  have hlong : ¬ (!its.toArray.isEmpty && Builtin.List.listTooLong (its.toArray.size + its2.toArray.size)) = true := by
    rw [notLongL hsz, Bool.and_false]
    exact Bool.false_ne_true
  refine call_meets F.slot_list_extend ⟨_, e, rfl⟩ F.entry_list_extend (F.args_list_extend_2 _ _)
    (AutoSeq1.list_extend_list_list_0 l its.toArray n b its2.toArray n2 hlong (by rw [List.size_toArray]; omega) (by omega)) ⟨e, e2, ?_⟩
  refine ⟨.non, _, I.lset (its' := its ++ its2) hH e (by simp) (r.append r2) ?_, rfl, q⟩
  rw [List.length_append]
  omega

def rPop : V → List V → Hp → VK → Prop := fun x vs H Q => ∃ l xs y, x = .ref l ∧ vs = [] ∧ H l = some (.lst xs) ∧ xs[xs.length - 1]? = some y ∧ Q y (upd H l (.lst xs.dropLast))

def rPopAt : V → List V → Hp → VK → Prop := fun x vs H Q => ∃ l xs i k y, x = .ref l ∧ vs = [.int i] ∧ H l = some (.lst xs) ∧ -(2 ^ 63) ≤ i ∧ i < 2 ^ 63 ∧ seqIndex? i xs.length = some k ∧ xs[k]? = some y ∧ Q y (upd H l (.lst (xs.eraseIdx k)))

def rReverse : V → List V → Hp → VK → Prop := fun x vs H Q => ∃ l xs, x = .ref l ∧ vs = [] ∧ H l = some (.lst xs) ∧ Q .non (upd H l (.lst xs.reverse))

def rClear : V → List V → Hp → VK → Prop := fun x vs H Q => ∃ l xs, x = .ref l ∧ vs = [] ∧ H l = some (.lst xs) ∧ Q .non (upd H l (.lst []))

/-! ### list + list, list += list, list * int -/
def rCat : R2 := fun x y H Q => ∃ l b xs zs, x = .ref l ∧ y = .ref b ∧ H l = some (.lst xs) ∧ H b = some (.lst zs) ∧ xs.length + zs.length ≤ sizeLine ∧ ∀ p, H p = none → Q (.ref p) (upd H p (.lst (xs ++ zs)))
theorem op_cat : OpR X (binaryOp .Add) rCat := by
  intro pins s σ H x y v u Q I rx ry h
  obtain ⟨l, b, xs, zs, rfl, rfl, hH, hB, hz, q⟩ := h
  cases rx
  cases ry
  obtain ⟨z, its, n, r, hl, e⟩ := I.lstM hH
  obtain ⟨z2, its2, n2, r2, hl2, e2⟩ := I.lstM hB
  refine PySem.P.add_list e e2 ?_ (by rw [List.size_toArray, List.size_toArray]; omega)
  have ea : its.toArray ++ its2.toArray = (its ++ its2).toArray := by simp
  rw [ea]
  exact ⟨.ref _, _, I.lnew (t' := s.toks) (r.append r2) (by rw [List.length_append]; omega), rfl, q _ I.fresh⟩
/-- a list times an int (a negative one is nothing) -/
def rRep : R2 := fun x y H Q => ∃ l k xs, x = .ref l ∧ y = .int k ∧ H l = some (.lst xs) ∧ -(2 ^ 63) ≤ k ∧ k < 2 ^ 63 ∧ xs.length * k.toNat ≤ sizeLine ∧
  ∀ p, H p = none → Q (.ref p) (upd H p (.lst (List.replicate k.toNat xs).flatten))
theorem len_rep {α : Type} (xs : List α) (k : Nat) : (List.replicate k xs).flatten.length = k * xs.length := by
  induction k with
  | zero => simp
  | succ k ih => rw [List.replicate_succ, List.flatten_cons, List.length_append, ih, Nat.succ_mul, Nat.add_comm]
theorem op_rep : OpR X (binaryOp .Mult) rRep := by
  intro pins s σ H x y v u Q I rx ry h
  obtain ⟨l, k, xs, rfl, rfl, hH, h1, h2, hz, q⟩ := h
  cases rx
  obtain ⟨t, rfl⟩ := ry
  obtain ⟨z, its, n, r, hl, e⟩ := I.lstM hH
  have hlen : its.toArray.size * k.toNat ≤ sizeLine := by rw [List.size_toArray, ← hl]; exact hz
  have hcap : ¬ its.toArray.size * k.toNat > (2 ^ 63 - 1) / 8 := by
    have : (sizeLine : Nat) ≤ (2 ^ 63 - 1) / 8 := by decide
    omega
  have hfit : ¬ (!Builtin.List.listFitsIndex k) = true := by
    rw [fitsIndex_both h1 h2]
    exact Bool.false_ne_true
  have hlong : ¬ Builtin.List.listTooLong (its.toArray.size * k.toNat) = true := by
    rw [notLongL hlen]
    exact Bool.false_ne_true
  have hnew : List.foldl (fun x1 x2 => x1 ++ x2) #[] (List.replicate (if its.toArray.isEmpty = true then 0 else k.toNat) its.toArray) = (List.replicate k.toNat its).flatten.toArray := by
    have f0 : ∀ m : Nat, List.foldl (fun x1 x2 => x1 ++ x2) #[] (List.replicate m its.toArray) = (List.replicate m its).flatten.toArray := fun m => by
      have := foldl_rep its m []
      rw [List.nil_append] at this
      exact this
    rw [f0]
    cases its with
    | nil => simp
    | cons a r' => rw [if_neg (by simp)]
  refine wpAny_binaryOp_repeat_ref (T := "list") (U := "int") (by decide) ⟨_, e, rfl⟩ (fun s' => typeIs_int s' k t) noFill_list_mul F.fills_int_mul F.slot_int_rmul repeat_list F.slot_int_index.lookup
    (call_meets F.slot_int_rmul (typeIs_int s k t) F.entry_int_rmul (F.args_int_rmul_2 _ _) (int___rmul___int_list k t l its.toArray n)
      ⟨e, rfl, ⟨_, e, rfl⟩, call_meets F.slot_list_mul ⟨_, e, rfl⟩ F.entry_list_mul (F.args_list_mul_2 _ _) (AutoListH.list___mul___list_int_3 l its.toArray n k t hfit hcap hlong) ⟨e, ?_⟩⟩)
  rw [hnew]
  exact ⟨.ref _, _, I.lnew (t' := s.toks) (r.rep k.toNat) (by rw [len_rep, Nat.mul_comm]; exact hz), rfl, q _ I.fresh⟩

/-! ### del xs[i] -/
end

/-! ### xs[a:b] = ys -/
section
variable {prog : Program} {w : World} {A : Around} {E : Value → Shared → Prop} {s : Shared}
end

section
variable {X : Cx}
end
end L2

namespace L2
open PySem PySem.Spec PyProof.Rows

theorem Vals.ints : ∀ {ns : List Int} {us : List Value}, Vals (ns.map V.int) us → IntsAre us ns
  | [], us, h => by
    rw [List.map_nil] at h
    cases h
    exact IntsAre.nil
  | n :: ns, us, h => by
    rw [List.map_cons] at h
    cases h with
    | cons r t =>
      obtain ⟨k, rfl⟩ := r
      exact IntsAre.cons n k (Vals.ints t)
theorem Vals.bls : ∀ {bs : List Bool} {us : List Value}, Vals (bs.map V.bl) us → us = bs.map Value.bool
  | [], us, h => by
    rw [List.map_nil] at h
    cases h
    rfl
  | b :: bs, us, h => by
    rw [List.map_cons] at h
    cases h with
    | cons r t =>
      cases r
      rw [Vals.bls t, List.map_cons]
theorem Vals.ref1 {a : Addr} {us : List Value} (r : Vals [V.ref a] us) : us = [Value.ref a] := by
  cases r with
  | cons r t =>
    cases t
    cases r
    rfl

/-! ### the library's walks over a list of ints, kept objects alone -/
section
variable {prog : Program} {w : World} {A : Around} {E : Value → Shared → Prop} {s : Shared} {l : Addr} {its : List Value} {ns : List Int} {Q : Value → Shared → Prop}
theorem sum_raw (hh : A.handled = none) (hl : s.heap.IsList l its.toArray) (hi : IntsAre its ns)
    (h : ∀ h' tk t', (∀ b o, s.heap.get? b = some o → h'.get? b = some o) → Q (.int ns.sum t') { s with heap := h', toks := tk }) : wpAny (model prog w) A (call (.builtin "sum") [.ref l]) Q E s := by
  obtain ⟨xs, e⟩ := hi.allInts.items
  have hn : numsOf (intItems xs).toList = ns := by rw [← e]; exact hi.numsOf
  rw [nums_intItems] at hn
  rw [e] at hl
  refine PySem.sum_intListG hh hl fun h' tk t' hk => ?_
  have := h h' tk t' hk
  rw [preSum_eq, List.take_of_length_le (by simp), hn]; exact this
end

/-! ### the calls, by values (CallR of 03t; MtR of 06l) -/
section
variable {X : Cx}
/-- sum(xs) of a list of ints -/
def rSum (K : PySem.W.Frag) : List V → Hp → VK → Prop := fun vs H Q => ∃ (a : Addr) (ns : List Int), vs = [V.ref a] ∧ SqL K H a (ns.map V.int) ∧ Q (.int ns.sum) H
/-- max(xs), min(xs) of a list of ints -/
def rMax (K : PySem.W.Frag) : List V → Hp → VK → Prop := fun vs H Q => ∃ (a : Addr) (ns : List Int), vs = [V.ref a] ∧ SqL K H a (ns.map V.int) ∧ 0 < ns.length ∧ ∀ m, m ∈ ns → (∀ y, y ∈ ns → y ≤ m) → Q (.int m) H
def rMin (K : PySem.W.Frag) : List V → Hp → VK → Prop := fun vs H Q => ∃ (a : Addr) (ns : List Int), vs = [V.ref a] ∧ SqL K H a (ns.map V.int) ∧ 0 < ns.length ∧ ∀ m, m ∈ ns → (∀ y, y ∈ ns → m ≤ y) → Q (.int m) H
theorem cr_sum (hc : X.calm = true) : CallR X (.builtin "sum") (rSum X.K) := by
  intro pins s σ H vs us Q I r h
  obtain ⟨a, ns, rfl, hs, q⟩ := h
  obtain ⟨its, rv, hl, _⟩ := I.list hs
  rw [Vals.ref1 r]
  exact sum_raw (I.ok.hd hc) hl.isList rv.ints fun h' tk t' hk => ⟨.int _, H, I.kept hk, ⟨_, rfl⟩, q⟩

/-! sorted, sort (fewer than 64 items: the library's own bound) -/
def rSorted (K : PySem.W.Frag) : List V → Hp → VK → Prop := fun vs H Q => ∃ (a : Addr) (ns : List Int), vs = [V.ref a] ∧ SqL K H a (ns.map V.int) ∧ ns.length < 64 ∧
  ∀ (ns' : List Int) (p : Addr), ns'.Perm ns → ns'.Pairwise (· ≤ ·) → H p = none → Q (.ref p) (upd H p (.lst (ns'.map V.int)))
def rSortedS (K : PySem.W.Frag) : List V → Hp → VK → Prop := fun vs H Q => ∃ (a : Addr) (xs : List Str), vs = [V.ref a] ∧ SqL K H a (xs.map V.str) ∧ xs.length < 64 ∧
  ∀ (ys : List Str) (p : Addr), ys.Perm xs → sortedS ys = true → H p = none → Q (.ref p) (upd H p (.lst (ys.map V.str)))
/-- xs.sort(), ints -/
def rSort : V → List V → Hp → VK → Prop := fun x xs H Q => ∃ (a : Addr) (ns : List Int), x = V.ref a ∧ xs = [] ∧ H a = some (.lst (ns.map V.int)) ∧ ns.length < 64 ∧
  ∀ ns' : List Int, ns'.Perm ns → ns'.Pairwise (· ≤ ·) → Q .non (upd H a (.lst (ns'.map V.int)))
end

/-! ### list.index, flat items -/
section
variable {X : Cx}
def rIndex (K : PySem.W.Frag) : V → List V → Hp → VK → Prop := fun x xs H Q => ∃ (a : Addr) (ys : List V) (y : V) (j : Nat) (z : V), x = V.ref a ∧ xs = [y] ∧ SqL K H a ys ∧ flatV y = true ∧ ys.all flatV = true ∧ ys[j]? = some z ∧ eqV z y = true ∧
  (∀ (m : Nat) (z' : V), m < j → ys[m]? = some z' → eqV z' y = false) ∧ Q (.int (j : Nat)) H
end

/-! ### type(x) of an own instance; is, is not of a module's class -/
section
variable {X : Cx}
end

/-! ### any(xs), all(xs) of a list of bools -/
theorem iter_any {prog : Program} {w : World} {A : Around} {E : Value → Shared → Prop} {s : Shared} {l : Addr} {items : Array Value} {Q : Value → Shared → Prop} (hl : s.heap.IsList l items)
    (h : ∀ s₂ : Shared, s₂ = { s with heap := s.heap.push { cls := .type "list_iterator", data := .fields #[.ref l, .int 0 0] } } →
      (s₂.heap.IsListIter s.heap.objs.size l 0 ∧ s₂.heap.IsList l items) → l ≠ s.heap.objs.size → Q (.ref s.heap.objs.size) s₂) : wpAny (model prog w) A (pyIter (.ref l)) Q E s := by
  have hlt : l < s.heap.objs.size := by obtain ⟨_, e, _⟩ := hl; exact Heap.lt_size e
  exact wpAny_pyIter_list hl (h _ rfl ⟨⟨_, Heap.get?_push_size _ rfl, rfl, rfl⟩, hl.push _⟩ (Nat.ne_of_lt hlt))
theorem truth_bools {prog : Program} {w : World} {A : Around} {bs : List Bool} {its : List Value} (e : its = bs.map Value.bool) :
    TruthOf prog w A (fun i v => its.toArray[i]? = some v) (fun i => bs.getD i false) := fun i v s Q E hv hq => by
  have hv' : its[i]? = some v := by simpa using hv
  rw [e, List.getElem?_map] at hv'
  obtain ⟨b, hb, rfl⟩ := Option.map_eq_some_iff.mp hv'
  have hg : bs.getD i false = b := by rw [List.getD_eq_getElem?_getD, hb] <;> rfl
  have hq' : Q (bs.getD i false) s := hq
  rw [hg] at hq'
  exact wpAny_truthy_bool hq'
theorem any_range : ∀ bs : List Bool, (List.range bs.length).any (fun i => bs.getD i false) = bs.any id
  | [] => rfl
  | b :: bs => by
    rw [List.length_cons, List.range_succ_eq_map, List.any_cons, List.any_map, List.any_cons, ← any_range bs]
    all_goals rfl
section
variable {X : Cx}
def rAny (K : PySem.W.Frag) : List V → Hp → VK → Prop := fun vs H Q => ∃ (a : Addr) (bs : List Bool), vs = [V.ref a] ∧ SqL K H a (bs.map V.bl) ∧ Q (.bl (bs.any id)) H
def rAll (K : PySem.W.Frag) : List V → Hp → VK → Prop := fun vs H Q => ∃ (a : Addr) (bs : List Bool), vs = [V.ref a] ∧ SqL K H a (bs.map V.bl) ∧ Q (.bl (bs.all id)) H
theorem cr_any (hc : X.calm = true) : CallR X (.builtin "any") (rAny X.K) := by
  intro pins s σ H vs us Q I r h
  obtain ⟨a, bs, rfl, hs, q⟩ := h
  obtain ⟨its, rv, hl, _⟩ := I.list hs
  rw [Vals.ref1 r]
  have hb := rv.bls
  refine call_any_walk (iter_any hl.isList fun s₂ e2 st hne => ?_)
  subst e2
  refine ⟨_, _, _, _, _, _, _, rfl, Walks.list (A := X.A.in1) (I.ok.hd hc) _ a hne its.toArray, st, truth_bools hb, fun h' tk hk => ?_⟩
  refine ⟨.bl _, H, I.kept fun b o eo => hk b o (fun hmem => ?_) (Heap.get?_push_of_some _ eo), ?_, q⟩
  · rcases List.mem_cons.mp hmem with e1 | hmem
    · exact absurd (e1 ▸ Heap.lt_size eo) (Nat.lt_irrefl _)
    · cases hmem
  · show Value.bool _ = Value.bool _
    rw [← any_range, hb, List.size_toArray, List.length_map]
end

/-! ### == and != of data at any depth: none, bools, ints, texts, lists, tuples -/
mutual
inductive Dp (K : PySem.W.Frag) (H : Hp) : V → PyData → Prop
  | non : Dp K H .non .none
  | bl (b : Bool) : Dp K H (.bl b) (.bool b)
  | int (i : Int) : Dp K H (.int i) (.int i)
  | str (x : Str) : Dp K H (.str x) (.str x)
  | lst {a : Addr} {xs : List V} {ds : List PyData} : SqL K H a xs → DpAll K H xs ds → Dp K H (.ref a) (.list ds)
  | tup {a : Addr} {xs : List V} {ds : List PyData} : SqT K H a xs → DpAll K H xs ds → Dp K H (.ref a) (.tuple ds)
inductive DpAll (K : PySem.W.Frag) (H : Hp) : List V → List PyData → Prop
  | nil : DpAll K H [] []
  | cons {v : V} {vs : List V} {d : PyData} {ds : List PyData} : Dp K H v d → DpAll K H vs ds → DpAll K H (v :: vs) (d :: ds)
end
section
variable {X : Cx} {pins : List (Addr × Obj)} {σ : St} {H : Hp} {s : Shared}
mutual
theorem Dp.reads (I : Inv X pins σ H s) : ∀ (d : PyData) (v : V) (u : Value), Dp X.K H v d → RelV v u → ∃ as, Reads s.heap u d as
  | .none, _, _, h, r => by
    cases h
    cases r
    exact ⟨_, Reads.none⟩
  | .bool b, _, _, h, r => by
    cases h
    cases r
    exact ⟨_, Reads.bool b⟩
  | .int i, _, _, h, r => by
    cases h
    obtain ⟨t, rfl⟩ := r
    exact ⟨_, Reads.int i t⟩
  | .str x, _, _, h, r => by
    cases h
    obtain ⟨t, rfl⟩ := r
    exact ⟨_, Reads.str x t⟩
  | .list ds, _, _, h, r => by
    cases h with
    | lst hs ha =>
      cases r
      obtain ⟨its, rv, ⟨o, n, ho, hc, _, hd⟩, _⟩ := I.list hs
      obtain ⟨as, hr⟩ := Dp.readsAll I ds _ its ha rv
      exact ⟨_, Reads.list ho hc hd hr⟩
  | .tuple ds, _, _, h, r => by
    cases h with
    | tup hs ha =>
      cases r
      obtain ⟨its, rv, ⟨o, ho, hc, n, hd⟩, _⟩ := I.tuple hs
      obtain ⟨as, hr⟩ := Dp.readsAll I ds _ its ha rv
      exact ⟨_, Reads.tuple ho hc hd hr⟩
  | .dict _, _, _, h, _ => by cases h
theorem Dp.readsAll (I : Inv X pins σ H s) : ∀ (ds : List PyData) (vs : List V) (us : List Value), DpAll X.K H vs ds → Vals vs us → ∃ as, ReadsAll s.heap us ds as
  | [], _, _, h, r => by
    cases h
    cases r
    exact ⟨_, ReadsAll.nil⟩
  | d :: ds, _, _, h, r => by
    cases h with
    | cons h1 h2 =>
      cases r with
      | cons r1 r2 =>
        obtain ⟨as, q1⟩ := Dp.reads I d _ _ h1 r1
        obtain ⟨bs, q2⟩ := Dp.readsAll I ds _ _ h2 r2
        exact ⟨_, ReadsAll.cons q1 q2⟩
end
end
section
variable {X : Cx}
def rEqD (K : PySem.W.Frag) : R2 := fun x y H Q => ∃ d e, Dp K H x d ∧ Dp K H y e ∧ SeqAt.shaped d = true ∧ SeqAt.shaped e = true ∧ Q (.bl (PyData.eqv d e)) H
def rNeD (K : PySem.W.Frag) : R2 := fun x y H Q => ∃ d e, Dp K H x d ∧ Dp K H y e ∧ SeqAt.shaped d = true ∧ SeqAt.shaped e = true ∧ Q (.bl (!PyData.eqv d e)) H
end
end L2

namespace L2
open PySem PySem.Spec PyProof.Rows
abbrev CellAt (h : Heap) (c : Addr) (v : Option Value) : Prop := h.IsCell c v
def relS (scope sc : Scope) : Scope :=
  { scope with names := scope.names.map fun (n, k) => if (k == .free && sc.kind == .function && sc.names.lookup n == some .cell) then (n, .cell) else (n, k) }

def cloFrom (cells : List (Str × Addr)) : List (Str × NameKind) → List (Str × Addr) → List (Str × Addr)
  | [], acc => acc
  | (n, k) :: r, acc => if k == .free then cloFrom cells r ((n, (cells.lookup n).getD 0) :: acc) else cloFrom cells r acc

theorem closure_loop (env : Env) (f : Str × NameKind → List (Str × Addr) → Sem (ForInStep (List (Str × Addr))))
    (hf : ∀ n k c, f (n, k) c = if k == .free then (do let a ← cellOf env n; pure (.yield ((n, a) :: c))) else pure (.yield c)) :
    ∀ (names : List (Str × NameKind)) (acc : List (Str × Addr)), (∀ y ∈ names, y.2 = .free → ∃ c, env.cells.lookup y.1 = some c) → forIn names acc f = pure (cloFrom env.cells names acc)
  | [], acc, _ => by rw [List.forIn_nil]; rfl
  | (n, k) :: r, acc, h => by
    rw [List.forIn_cons, hf]
    have ih := fun acc => closure_loop env f hf r acc fun y hy => h y (List.mem_cons_of_mem _ hy)
    unfold cloFrom
    by_cases hk : (k == NameKind.free) = true
    · rw [if_pos hk, if_pos hk]
      obtain ⟨c, hc⟩ := h (n, k) List.mem_cons_self (by simpa using hk)
      have e : cellOf env n = pure c := by unfold cellOf; rw [hc]
      rw [e]
      have e2 : (env.cells.lookup n).getD 0 = c := by rw [hc]; rfl
      rw [e2]
      exact ih _
    · rw [if_neg hk, if_neg hk]
      exact ih _
theorem closure_ok {scope : Scope} {env : Env} (h : ∀ y ∈ scope.names, y.2 = .free → ∃ c, env.cells.lookup y.1 = some c) : closureFor scope env = pure (cloFrom env.cells scope.names []) := by
  simp only [closureFor]
  rw [closure_loop env _ (fun n k c => rfl) scope.names [] h]
  rfl

theorem mem_lookup {α : Type} : ∀ {l : List (Str × α)} {n : Str} {c : α}, (n, c) ∈ l → ∃ c', l.lookup n = some c'
  | (k, v) :: r, n, c, h => by
    rw [List.lookup_cons]
    cases hb : n == k with
    | true => exact ⟨_, rfl⟩
    | false =>
      rcases List.mem_cons.mp h with e | h
      · cases e; simp at hb
      · exact mem_lookup h

theorem cloFrom_mem {cells : List (Str × Addr)} : ∀ {names : List (Str × NameKind)} {acc : List (Str × Addr)} {n : Str} {c : Addr}, (n, c) ∈ cloFrom cells names acc → (n, c) ∈ acc ∨ ((n, .free) ∈ names ∧ c = (cells.lookup n).getD 0)
  | [], _, _, _, h => .inl h
  | (m, k) :: r, acc, n, c, h => by
    unfold cloFrom at h
    split at h
    · rename_i hk
      have hk : k = .free := by simpa using hk
      rcases cloFrom_mem h with h | ⟨h1, h2⟩
      · rcases List.mem_cons.mp h with e | h
        · cases e; exact .inr ⟨hk ▸ List.mem_cons_self, rfl⟩
        · exact .inl h
      · exact .inr ⟨List.mem_cons_of_mem _ h1, h2⟩
    · rcases cloFrom_mem h with h | ⟨h1, h2⟩
      · exact .inl h
      · exact .inr ⟨List.mem_cons_of_mem _ h1, h2⟩
theorem cloFrom_acc {cells : List (Str × Addr)} : ∀ {names : List (Str × NameKind)} {acc : List (Str × Addr)} {p : Str × Addr}, p ∈ acc → p ∈ cloFrom cells names acc
  | [], _, _, h => h
  | (m, k) :: r, acc, p, h => by
    unfold cloFrom
    split
    · exact cloFrom_acc (List.mem_cons_of_mem _ h)
    · exact cloFrom_acc h
theorem cloFrom_has {cells : List (Str × Addr)} : ∀ {names : List (Str × NameKind)} {acc : List (Str × Addr)} {n : Str}, (n, .free) ∈ names → (n, (cells.lookup n).getD 0) ∈ cloFrom cells names acc
  | (m, k) :: r, acc, n, h => by
    unfold cloFrom
    rcases List.mem_cons.mp h with e | h
    · cases e
      exact cloFrom_acc List.mem_cons_self
    · split
      · exact cloFrom_has h
      · exact cloFrom_has h

theorem cells_mem : ∀ {names : List (Str × NameKind)} {h : Heap} {acc : List (Str × Addr)} {x : Str} {c : Addr}, (x, c) ∈ cellsFrom h.objs.size names acc →
    (x, c) ∈ acc ∨ ((x, .cell) ∈ names ∧ h.objs.size ≤ c ∧ CellAt (pushCells h names) c none)
  | [], _, _, _, _, h => .inl h
  | (n, k) :: r, h, acc, x, c, hm => by
    unfold cellsFrom at hm
    unfold pushCells
    split at hm
    · rename_i hk
      rw [if_pos hk]
      have hk : k = .cell := by simpa using hk
      rw [← Heap.size_push h { cls := .type "cell", data := .cell none }] at hm
      rcases cells_mem hm with hm | ⟨h1, h2, h3⟩
      · rcases List.mem_cons.mp hm with e | hm
        · cases e
          exact .inr ⟨hk ▸ List.mem_cons_self, Nat.le_refl _, _, pushCells_keeps r _ _ _ (Heap.get?_push_size _ rfl), rfl⟩
        · exact .inl hm
      · rw [Heap.size_push] at h2
        exact .inr ⟨List.mem_cons_of_mem _ h1, Nat.le_of_succ_le h2, h3⟩
    · rename_i hk
      rw [if_neg hk]
      rcases cells_mem hm with hm | ⟨h1, h2, h3⟩
      · exact .inl hm
      · exact .inr ⟨List.mem_cons_of_mem _ h1, h2, h3⟩
theorem cells_acc : ∀ {names : List (Str × NameKind)} {n : Nat} {acc : List (Str × Addr)} {p : Str × Addr}, p ∈ acc → p ∈ cellsFrom n names acc
  | [], _, _, _, h => h
  | (m, k) :: r, n, acc, p, h => by
    unfold cellsFrom
    split
    · exact cells_acc (List.mem_cons_of_mem _ h)
    · exact cells_acc h
theorem cells_has : ∀ {names : List (Str × NameKind)} {n : Nat} {acc : List (Str × Addr)} {x : Str}, (x, .cell) ∈ names → ∃ c, (x, c) ∈ cellsFrom n names acc
  | (m, k) :: r, n, acc, x, h => by
    unfold cellsFrom
    rcases List.mem_cons.mp h with e | h
    · cases e
      exact ⟨n, cells_acc List.mem_cons_self⟩
    · split
      · exact cells_has h
      · exact cells_has h
theorem cells_inj : ∀ {names : List (Str × NameKind)} {h : Heap} {acc : List (Str × Addr)} {x y : Str} {c : Addr}, (∀ p ∈ acc, p.2 < h.objs.size) → (∀ x y c, (x, c) ∈ acc → (y, c) ∈ acc → x = y) →
    (x, c) ∈ cellsFrom h.objs.size names acc → (y, c) ∈ cellsFrom h.objs.size names acc → x = y
  | [], _, _, _, _, _, _, hi, h1, h2 => hi _ _ _ h1 h2
  | (n, k) :: r, h, acc, x, y, c, hl, hi, h1, h2 => by
    unfold cellsFrom at h1 h2
    split at h1
    · rename_i hk
      rw [if_pos hk] at h2
      rw [← Heap.size_push h { cls := .type "cell", data := .cell none }] at h1 h2
      refine cells_inj (h := h.push _) (fun p hp => ?_) (fun x y c a b => ?_) h1 h2
      · rw [Heap.size_push]
        rcases List.mem_cons.mp hp with rfl | hp
        · exact Nat.lt_succ_self _
        · exact Nat.lt_succ_of_lt (hl p hp)
      · rcases List.mem_cons.mp a with e | a <;> rcases List.mem_cons.mp b with e' | b
        · cases e; cases e'; rfl
        · cases e; exact absurd (hl _ b) (Nat.lt_irrefl _)
        · cases e'; exact absurd (hl _ a) (Nat.lt_irrefl _)
        · exact hi _ _ _ a b
    · rename_i hk
      rw [if_neg hk] at h2
      exact cells_inj hl hi h1 h2

theorem newEnv_comp {M : Model} {A : Around} {E : Value → Shared → Prop} {s : Shared} {scope : Scope} {globals : Addr} {closure : List (Str × Addr)} {qual : Str} {func : Option Addr} {code : Value} {around : Env} {builtins : Addr} {Q : Env → Shared → Prop}
    (h : Q (newEnv scope s.heap.objs.size globals (cellsFrom (s.heap.objs.size + 1) scope.names closure) qual func code (some around) builtins)
      { s with heap := pushCells (s.heap.push { cls := .type "dict", data := .dict #[] }) scope.names }) :
    wpAny M A (newFunctionEnv scope globals closure [] qual func code (some around) builtins) Q E s := by
  simp only [newFunctionEnv, Option.isSome_some, if_true]
  refine wpAny_bind (wpAny_alloc ?_)
  refine wpAny_bind (wpAny_layCells _ (fun n k c => rfl) scope.names closure _ _ ?_)
  rw [show ({ s with heap := s.heap.push { cls := .type "dict", data := .dict #[] } } : Shared).heap.objs.size = s.heap.objs.size + 1 from Heap.size_push ..]
  rw [List.forIn_nil]
  exact wpAny_bind (wpAny_pure (wpAny_pure h))

/-- every name of the written scope, in the scope that runs -/
theorem lookup_relS {sc : Scope} : ∀ {names : List (Str × NameKind)} {x : Str} {k : NameKind},
    (names.map fun (n, k) => if (k == NameKind.free && sc.kind == .function && sc.names.lookup n == some .cell) then (n, NameKind.cell) else (n, k)).lookup x = some k →
    ∃ k', names.lookup x = some k' ∧ (k = k' ∨ (k' = .free ∧ k = .cell))
  | [], _, _, h => by simp at h
  | (n, k₀) :: r, x, k, h => by
    have ih := @lookup_relS sc r x k
    have h' : List.lookup x ((if (k₀ == NameKind.free && sc.kind == .function && sc.names.lookup n == some .cell) = true then (n, NameKind.cell) else (n, k₀)) :: (r.map _)) = some k := h
    cases hx : x == n with
    | true =>
      simp only [List.lookup_cons, hx]
      by_cases hc : (k₀ == NameKind.free && sc.kind == .function && sc.names.lookup n == some .cell) = true
      · rw [if_pos hc] at h'
        simp only [List.lookup_cons, hx] at h'
        cases h'
        simp only [Bool.and_eq_true, beq_iff_eq] at hc
        exact ⟨k₀, rfl, .inr ⟨hc.1.1, rfl⟩⟩
      · rw [if_neg hc] at h'
        simp only [List.lookup_cons, hx] at h'
        cases h'
        exact ⟨_, rfl, .inl rfl⟩
    | false =>
      simp only [List.lookup_cons, hx]
      by_cases hc : (k₀ == NameKind.free && sc.kind == .function && sc.names.lookup n == some .cell) = true
      · rw [if_pos hc] at h'
        simp only [List.lookup_cons, hx] at h'
        exact ih h'
      · rw [if_neg hc] at h'
        simp only [List.lookup_cons, hx] at h'
        exact ih h'



/-- the names of a comprehension's block: its own (with their places in N), or captured -/
structure BlkOk (N : List Str) (sc scope : Scope) (own : List (Str × Nat)) : Prop where
  kind : scope.kind = .function
  uniq : ∀ y ∈ scope.names, scope.names.lookup y.1 = some y.2
  ix : ∀ p ∈ own, N[p.2]? = some p.1
  free : ∀ y ∈ scope.names, y.2 = .free → sc.names.lookup y.1 = some .cell ∨ sc.names.lookup y.1 = some .free
  own : ∀ y ∈ scope.names, y.2 = .local ∨ y.2 = .cell → y.1 ∈ own.map (·.1) ∨ y.1 ∉ N
/-- the slots of the block's own names forgotten -/
def wipe (σ : St) : List Nat → St
  | [] => σ
  | v :: vs => (wipe σ vs).set v none
theorem wipe_length (σ : St) : ∀ vs : List Nat, (wipe σ vs).length = σ.length
  | [] => rfl
  | v :: vs => by unfold wipe; rw [List.length_set, wipe_length σ vs]
theorem wipe_some {σ : St} {i : Nat} {x : V} : ∀ {vs : List Nat}, (wipe σ vs)[i]? = some (some x) → σ[i]? = some (some x) ∧ i ∉ vs
  | [], h => ⟨h, by simp⟩
  | v :: vs, h => by
    unfold wipe at h
    by_cases hi : v = i
    · subst hi
      by_cases hv : v < (wipe σ vs).length
      · rw [List.getElem?_set_self hv] at h; cases h
      · rw [List.getElem?_eq_none (by simpa using hv)] at h; cases h
    · rw [List.getElem?_set_ne hi] at h
      obtain ⟨h1, h2⟩ := wipe_some h
      exact ⟨h1, by simp only [List.mem_cons, not_or]; exact ⟨fun e => hi e.symm, h2⟩⟩

/-- the context of a block that starts at s, its iterator's objects at fp -/
abbrev Cx.blk (X : Cx) (s : Shared) (H : Hp) (scope : Scope) (cenv : Env) (fp : List Addr) : Cx := { X with s_0 := s, H_0 := H, env := cenv, outer := X.stack, ex := fp, fn := fun x => scope.names.lookup x == some .cell, pn := [], xe := fun _ _ => False }
section
variable {X : Cx} {pins : List (Addr × Obj)} {σ : St} {H : Hp} {s : Shared}
theorem block_start {scope : Scope} {own : List (Str × Nat)} {fp : List Addr} (I : Inv X pins σ H s) (ok : BlkOk X.N X.env.scope scope own) (hN : X.N.Nodup) (hfp : ∀ b ∈ fp, FpOk X pins H b ∧ b < s.heap.objs.size) :
    Inv (X.blk s H scope (compEnvC scope (cellsFrom (s.heap.objs.size + 1) scope.names (cloFrom X.env.cells scope.names [])) s.heap.objs.size X.env) fp) [] (wipe σ (own.map (·.2))) H { s with heap := pushCells (s.heap.push { cls := .type "dict", data := .dict #[] }) scope.names } := by
  have hfree : ∀ y ∈ scope.names, y.2 = .free → ∃ c, X.env.cells.lookup y.1 = some c := fun y hy e => by
    rcases ok.free y hy e with k | k
    · exact I.ok.has _ (.inl k)
    · exact I.ok.has _ (.inr k)
  generalize hcenv : compEnvC scope (cellsFrom (s.heap.objs.size + 1) scope.names (cloFrom X.env.cells scope.names [])) s.heap.objs.size X.env = cenv
  have kp : ∀ b o, s.heap.get? b = some o → (pushCells (s.heap.push { cls := .type "dict", data := .dict #[] }) scope.names).get? b = some o := fun b o e => pushCells_keeps _ _ _ _ (Heap.get?_push_of_some _ e)
  have hL : cenv.locals = s.heap.objs.size := by rw [← hcenv]; rfl
  have hcl : cenv.cells = cellsFrom (s.heap.objs.size + 1) scope.names (cloFrom X.env.cells scope.names []) := by rw [← hcenv]; rfl
  have hsc : cenv.scope = relS scope X.env.scope := by rw [← hcenv]; rfl
  rw [← Heap.size_push s.heap { cls := .type "dict", data := .dict #[] }] at hcl
  have cm : ∀ {y c}, (y, c) ∈ cloFrom X.env.cells scope.names [] → X.env.cells.lookup y = some c ∧ c < s.heap.objs.size := fun {y c} hm => by
    rcases cloFrom_mem hm with hm | ⟨h1, rfl⟩
    · cases hm
    · obtain ⟨c, hc⟩ := hfree _ h1 rfl
      rw [hc]
      obtain ⟨w, z⟩ := I.cell _ _ hc
      exact ⟨rfl, z.lt⟩
  have mem : ∀ {y c}, cenv.cells.lookup y = some c → (X.env.cells.lookup y = some c ∧ c < s.heap.objs.size) ∨ (s.heap.objs.size + 1 ≤ c ∧ CellAt (pushCells (s.heap.push { cls := .type "dict", data := .dict #[] }) scope.names) c none) := fun {y c} e => by
    rw [hcl] at e
    rcases cells_mem (PySem.mem_of_lookup e) with hm | ⟨_, h2, h3⟩
    · exact .inl (cm hm)
    · rw [Heap.size_push] at h2; exact .inr ⟨h2, h3⟩
  have look : ∀ {y}, scope.names.lookup y = some .free → ∃ c, cenv.cells.lookup y = some c ∧ X.env.cells.lookup y = some c := fun {y} hl => by
    have hy : (y, NameKind.free) ∈ scope.names := PySem.mem_of_lookup hl
    obtain ⟨c', e'⟩ := mem_lookup (cells_acc (names := scope.names) (n := (s.heap.push { cls := .type "dict", data := .dict #[] }).objs.size) (cloFrom_has (cells := X.env.cells) (acc := []) hy))
    rw [← hcl] at e'
    refine ⟨c', e', ?_⟩
    rw [hcl] at e'
    rcases cells_mem (PySem.mem_of_lookup e') with hm | ⟨h1, _, _⟩
    · exact (cm hm).1
    · have := ok.uniq _ h1
      rw [hl] at this; cases this
  have okB : (X.blk s H scope cenv fp).Ok := by
    refine ⟨I.ok.mod, by show cenv.scope.kind = _; rw [hsc]; exact ok.kind, by show cenv.globals = _; rw [← hcenv]; exact I.ok.glob, by show cenv.builtins = _; rw [← hcenv]; exact I.ok.blt, by show s.heap.objs.size ≤ cenv.locals; rw [hL]; exact Nat.le_refl _,
      fun y z c e1 e2 => ?_, fun y hy => ?_, fun y c z e => ?_, I.ok.hd, I.ok.frames, .inl rfl, fun b hb => ⟨?_, fun y c e z => ?_⟩, I.bs, Nat.le_trans I.ok.bsz I.sz, fun b o e hb => ?_, fun b hb z => ?_, I.stack, I.stkFree⟩
    · have e1 : cenv.cells.lookup y = some c := e1
      have e2 : cenv.cells.lookup z = some c := e2
      rw [hcl] at e1 e2
      refine cells_inj (fun p hp => ?_) (fun y z c a b => I.ok.inj y z c (cm a).1 (cm b).1) (PySem.mem_of_lookup e1) (PySem.mem_of_lookup e2)
      rw [Heap.size_push]
      exact Nat.lt_succ_of_lt (cm (y := p.1) (c := p.2) hp).2
    · show ∃ c, cenv.cells.lookup y = some c
      have key : ∀ k, cenv.kindOf y = some k → (k = .cell ∨ k = .free) → ∃ c, cenv.cells.lookup y = some c := fun k hk hk' => by
        unfold Env.kindOf at hk
        rw [hsc] at hk
        obtain ⟨k', e, r⟩ := lookup_relS hk
        have : k' = .cell ∨ k' = .free := by
          rcases r with rfl | ⟨rfl, _⟩
          · exact hk'
          · exact .inr rfl
        rcases this with rfl | rfl
        · obtain ⟨c, hm⟩ := cells_has (n := (s.heap.push { cls := .type "dict", data := .dict #[] }).objs.size) (acc := cloFrom X.env.cells scope.names []) (PySem.mem_of_lookup e)
          obtain ⟨c', e'⟩ := mem_lookup hm
          exact ⟨c', by rw [hcl]; exact e'⟩
        · obtain ⟨c, h1, _⟩ := look e
          exact ⟨c, h1⟩
      rcases hy with hy | hy
      · exact key _ hy (.inl rfl)
      · exact key _ hy (.inr rfl)
    · have z : (scope.names.lookup y == some NameKind.cell) = true := z
      have z : scope.names.lookup y = some .cell := by simpa using z
      have e : cenv.cells.lookup y = some c := e
      rw [hcl] at e
      rcases cells_mem (PySem.mem_of_lookup e) with hm | ⟨_, h2, _⟩
      · rcases cloFrom_mem hm with hm | ⟨h1, _⟩
        · cases hm
        · have q := ok.uniq _ h1
          rw [z] at q; cases q
      · rw [Heap.size_push] at h2
        exact Nat.le_of_succ_le h2
    · show b ≠ cenv.locals
      rw [hL]; exact Nat.ne_of_lt (hfp b hb).2
    · have e : cenv.cells.lookup y = some c := e
      rcases mem e with ⟨h1, _⟩ | ⟨h1, _⟩
      · exact (hfp b hb).1.2.2.2.2.1 y c h1 z
      · have h2 : s.heap.objs.size + 1 ≤ b := by rw [← z]; exact h1
        exact absurd (Nat.lt_of_lt_of_le (hfp b hb).2 (Nat.le_of_succ_le h2)) (Nat.lt_irrefl _)
    · rcases (hfp b hb).1.2.2.2.1 with z | z
      · exact I.ok.noex b o e z
      · exact absurd (Nat.lt_of_lt_of_le (Heap.lt_size e) (Nat.le_trans I.ok.bsz z)) (Nat.lt_irrefl _)
    · rcases List.mem_cons.mp (I.stkSub b z) with z | z
      · exact (hfp b hb).1.2.1 z
      · exact (hfp b hb).1.2.2.1 z
  refine ⟨okB, rfl, I.bare, Un.kept kp, ⟨fun _ => none, ?_, fun i y av e1 e2 e3 => ?_⟩, fun y c e => ?_, ?_, fun y c e => ?_, fun p hp => ?_, I.hok.kept kp, by rw [wipe_length]; exact I.len⟩
  · show Heap.Ns _ cenv.locals _
    rw [hL]
    exact Heap.Ns.keeps (Heap.Ns.new ..) fun b o e => pushCells_keeps _ _ _ _ e
  · obtain ⟨e2, hne⟩ := wipe_some e2
    have hfr : scope.names.lookup y = some .free ∧ (cenv.kindOf y = some .cell ∨ cenv.kindOf y = some .free) := by
      have key : ∀ k, cenv.scope.names.lookup y = some k → k = .local ∨ k = .cell ∨ k = .free → scope.names.lookup y = some .free ∧ (cenv.kindOf y = some .cell ∨ cenv.kindOf y = some .free) := fun k hk hk' => by
        have hk0 := hk
        rw [hsc] at hk
        obtain ⟨k', e, r⟩ := lookup_relS hk
        have no : ¬ (k' = .local ∨ k' = .cell) := fun hh => by
          rcases ok.own _ (PySem.mem_of_lookup e) hh with e' | e'
          · obtain ⟨p, hp, hpy⟩ := List.mem_map.mp e'
            have e3 := ok.ix p hp
            have : p.1 = y := hpy
            rw [this] at e3
            exact hne (List.mem_map.mpr ⟨p, hp, nodup_ix hN e3 e1⟩)
          · exact e' (List.mem_of_getElem? e1)
        rcases r with rfl | ⟨rfl, rfl⟩
        · rcases hk' with rfl | rfl | rfl
          · exact absurd (.inl rfl) no
          · exact absurd (.inr rfl) no
          · exact ⟨e, .inr hk0⟩
        · exact ⟨e, .inl hk0⟩
      have e3 : Vis cenv.scope y := e3
      rcases e3 with e3 | e3 | e3
      · exact key _ e3 (.inl rfl)
      · exact key _ e3 (.inr (.inl rfl))
      · exact key _ e3 (.inr (.inr rfl))
    obtain ⟨m, hn, hl⟩ := I.loc
    have hvis : Vis X.env.scope y := (ok.free _ (PySem.mem_of_lookup hfr.1) rfl).elim (fun k => .inr (.inl k)) (fun k => .inr (.inr k))
    obtain ⟨w, r, q⟩ := hl i y av e1 e2 hvis
    refine ⟨w, r, .inr ⟨hfr.2, ?_⟩⟩
    obtain ⟨c, h1, h2⟩ := look hfr.1
    rcases q with ⟨k, _⟩ | ⟨_, c', e', z⟩
    · have k : X.env.scope.names.lookup y = some .local := k
      rcases ok.free _ (PySem.mem_of_lookup hfr.1) rfl with k' | k' <;> rw [show X.env.scope.names.lookup y = _ from k'] at k <;> cases k
    · rw [h2] at e'; cases e'
      exact ⟨c, h1, z.keeps kp⟩
  · have e : cenv.cells.lookup y = some c := e
    rcases mem e with ⟨h1, _⟩ | ⟨_, z⟩
    · obtain ⟨w, z⟩ := I.cell y c h1
      exact ⟨w, z.keeps kp⟩
    · exact ⟨_, z⟩
  · show H cenv.locals = none
    rw [hL]; exact I.hok.fresh (Nat.le_refl _)
  · have e : cenv.cells.lookup y = some c := e
    rcases mem e with ⟨h1, _⟩ | ⟨h1, _⟩
    · exact I.freeC y c h1
    · exact I.hok.fresh (Nat.le_of_succ_le h1)
  · exact absurd (show p ∈ ([] : List (Addr × Obj)) ++ [] from hp) (by simp)

/-- an item appended to a tracked list -/
theorem app_ok {E : Value → Shared → Prop} {D : Addr} {xs : List V} {y : V} {v : Value} {Q : Value → Shared → Prop} (I : Inv X pins σ H s) (hD : H D = some (.lst xs)) (hz : xs.length < sizeLine) (r : RelV y v)
    (h : ∀ s', Inv X pins σ (upd H D (.lst (xs ++ [y]))) s' → Q .none s') : wpAny (model X.prog X.w) X.A (call (.builtin "list.append") [.ref D, v]) Q E s := by
  obtain ⟨hz', its, n, ri, e⟩ := I.hok D _ hD
  have hl := ri.length
  refine append_at (hsz := by rw [List.size_toArray]; omega) e fun h' sb ho' => ?_
  refine h { s with heap := h' } (I.write (t' := s.toks) (by rw [hD]; trivial) (.inl rfl) (fun b u hb q => (sb.2 b hb).trans q) ⟨_, ho'⟩ ⟨by rw [List.length_append]; exact hz, its ++ [v], n + 1, ri.append (.cons r .nil), ?_⟩)
  rw [ho']
  simp

/-- a clause's tests -/
def PTs (X : Cx) (ifs : List Expr) (t : TT) : Prop :=
  ∀ (pins : List (Addr × Obj)) (s : Shared) (σ : St) (H : Hp) (Q : Bool → Hp → Prop), Inv X pins σ H s → t σ H Q →
    wpAny (model X.prog X.w) X.A (forIn ifs true fun c r => if r = true then do let ok ← isTrue c X.env (eval c X.env); pure (ForInStep.yield ok) else pure (ForInStep.yield r)) (TP X pins σ Q) X.xe s
def tYes : TT := fun _ H Q => Q true H
theorem pts_nil : PTs X [] tYes := fun _ _ _ H _ I h => wpAny_tests_nil ⟨H, I, h⟩
theorem pts_one {c : Expr} {t : TT} (h : PT X c t) : PTs X [c] t := fun pins s σ H Q I hw => wpAny_tests_one (h pins s σ H Q I hw)
end

theorem thnF {α : Type} {t : Sem α} {Q Q' : α → Shared → Prop} {M : Model} {A : Around} {E : Value → Shared → Prop} {s : Shared} (h : wpAny M A t Q (fun _ _ => False) s) (hQ : ∀ a s, Q a s → Q' a s) : wpAny M A t Q' E s := wpAny_mono h hQ fun _ _ z => False.elim z

/-- the loop of a list comprehension's block, the target of any form (codeAny_compLoop_tests asks a target that no tuple goes to; statement and proof follow it, PyProof/CompMap.lean:41-61, with the step letOwnedTupleGo kept) -/
theorem compLoop_any {prog : Program} {w : World} {A : Around} {R : Result → Shared → Prop} {s : Shared} {elt target iter : Expr} {ifs : List Expr} {scope : Scope} {pos : Pos} {it acc : Value} {env : Env} (I : Nat → Shared → Prop)
    (turn : ∀ n s, I n s → wpAny (model prog w) A (pyNext it) (fun r s₁ => match r with
      | none => R (.ok .next) s₁
      | some v => wpAny (model prog w) A (letOwnedTupleGo target it v) (fun _ s₁' => wpAny (model prog w) A (assign target env v) (fun _ s₂ =>
          wpAny (model prog w) A (forIn ifs true fun c r => if r = true then do let ok ← isTrue c env (eval c env); pure (ForInStep.yield ok) else pure (ForInStep.yield r)) (fun ok s₃ =>
            if ok = true then wpAny (model prog w) A (eval elt env) (fun x s₄ =>
              wpAny (model prog w) A (call (.builtin "list.append") [acc, x]) (fun _ s₅ => ∃ m, m < n ∧ I m s₅) (notedBy (model prog w) A env fun e s' => R (.error e) s') s₄) (notedBy (model prog w) A env fun e s' => R (.error e) s') s₃
            else ∃ m, m < n ∧ I m s₃) (notedBy (model prog w) A env fun e s' => R (.error e) s') s₂) (notedBy (model prog w) A env fun e s' => R (.error e) s') s₁') (notedBy (model prog w) A env fun e s' => R (.error e) s') s₁) (notedBy (model prog w) A env fun e s' => R (.error e) s') s)
    (n : Nat) (h : I n s) :
    codeAny (model prog w) A (.compLoop (.ListComp elt [⟨target, iter, ifs, 0⟩] scope pos) 0 it acc env) R s := by
  refine codeAny_loop rfl I (fun n s hI => ?_) n h
  show wpAny _ A ((compTurn (.ListComp elt [⟨target, iter, ifs, 0⟩] scope pos) 0 it acc env).onRaise (fun x => do noteFrame x env; theTreesLotGoes x)) _ _ s
  refine wpAny_noted ?_
  rw [compTurn_list]
  refine wpAny_bind (wpAny_standAt (wpAny_bind (wpAny_mono (turn n s hI) (fun r s₁ h₁ => ?_) fun _ _ h' => h')))
  cases r with
  | none => exact wpAny_pure h₁
  | some v =>
    refine wpAny_bind (wpAny_mono h₁ (fun _ s₁' h₁' => ?_) fun _ _ h' => h')
    refine wpAny_bind (wpAny_mono h₁' (fun _ s₂ h₂ => wpAny_bind (wpAny_mono h₂ (fun ok s₃ h₃ => ?_) fun _ _ h' => h')) fun _ _ h' => h')
    cases ok with
    | false => exact wpAny_pure ⟨rfl, h₃⟩
    | true =>
      exact wpAny_bind (wpAny_bind (wpAny_mono h₃ (fun x s₄ h₄ => wpAny_bind (wpAny_mono h₄ (fun _ s₅ h₅ => wpAny_pure (wpAny_pure ⟨rfl, h₅⟩)) fun _ _ h' => h')) fun _ _ h' => h'))

section
variable {X : Cx}
/-- [elt for target in iter if ..]: D the new list; W by the turn and a measure, Nx what a turn is to reach -/
def tLc (wi : TI) (g : TG) (tt : TT) (te : TE) (vs : List Nat) : TE := fun σ H Q => wi σ H fun J H1 => ∀ D, H1 D = none → ∃ W : Nat → Nat → Hp → Prop, (∃ m, W 0 m (upd H1 D (.lst []))) ∧ ∀ i m H, W i m H →
  (J.stop i H ∧ Q (.ref D) H) ∨ (J.go i H ∧ ∃ Nx : Hp → Prop, (∀ H', Nx H' → ∃ m', m' < m ∧ W (i + 1) m' H') ∧ ∀ x H', J.yld i H x H' → g x (wipe σ vs) H' fun σ2 H2 => wipe σ2 vs = wipe σ vs ∧ tt σ2 H2 fun b H3 =>
    if b = true then te σ2 H3 fun y H4 => ∃ acc, H4 D = some (.lst acc) ∧ acc.length < sizeLine ∧ Nx (upd H4 D (.lst (acc ++ [y]))) else Nx H3)
theorem lc_core {pins : List (Addr × Obj)} {s : Shared} {σ : St} {H : Hp} {Q : VK} {elt tg iter : Expr} {ifs : List Expr} {scope : Scope} {own : List (Str × Nat)} {pos pos' : Pos} {wi : TI} {g : TG} {tt : TT} {te : TE} {use : Option (Value → Sem Unit)} {Qf : Value → Shared → Prop}
    (hc : X.calm = true) (hN : X.N.Nodup) (I : Inv X pins σ H s) (hi : PI X tg iter wi) (ok : BlkOk X.N X.env.scope scope own)
    (hg : ∀ (s : Shared) (H : Hp) (C : Addr) (cl : List (Str × Addr)) (fp : List Addr), PG (X.blk s H scope (compEnvC scope cl C X.env) fp) tg g) (ht : ∀ (s : Shared) (H : Hp) (C : Addr) (cl : List (Str × Addr)) (fp : List Addr), PTs (X.blk s H scope (compEnvC scope cl C X.env) fp) ifs tt)
    (he : ∀ (s : Shared) (H : Hp) (C : Addr) (cl : List (Str × Addr)) (fp : List Addr), PE (X.blk s H scope (compEnvC scope cl C X.env) fp) elt te) (hs : ∀ x, foldedSetIterable iter X.env x = pure x)
    (h : tLc wi g tt te (own.map (·.2)) σ H Q)
    (hRR : ∀ D C s' m H', Inv X pins σ H' s' → Q (.ref D) H' → s'.heap.Ns C m → FpOk X pins H' C → compPost (model X.prog X.w) X.A X.xe use Qf (.ref D) C (.ok .next) s') :
    wpAny (model X.prog X.w) X.A (comprehension (.ListComp elt [⟨tg, iter, ifs, 0⟩] scope pos) scope X.env pos' (newList []) false (eval iter X.env) use) Qf X.xe s := by
  have hfree : ∀ y ∈ scope.names, y.2 = .free → ∃ c, X.env.cells.lookup y.1 = some c := fun y hy e => by
    rcases ok.free y hy e with k | k
    · exact I.ok.has _ (.inl k)
    · exact I.ok.has _ (.inr k)
  refine wpAny_comprehension_free (use := use) rfl hs (closure_ok hfree) ok.kind (fun y hy e => by rw [ok.uniq y hy, e])
    (thn (hi pins s σ H _ I h) fun xv s1 hx => thn hx fun itv s2 h2 => ?_)
  obtain ⟨it, fp, tn, J, H2, e, I2, T, st2, f2, q⟩ := h2
  subst e
  refine wpAny_newObj_type (newEnv_comp ?_) (by show 0 ≤ sizeLine; decide)
  generalize hD : s2.heap.objs.size = D
  have hDn : H2 D = none := I2.hok.fresh (Nat.le_of_eq hD)
  obtain ⟨W, ⟨m0, w0⟩, turn⟩ := q D hDn
  -- the new list
  generalize hs3 : ({ s2 with heap := s2.heap.push { cls := .type "list", data := .seq ([] : List Value).toArray } } : Shared) = s3
  have I3 : Inv X pins σ (upd H2 D (.lst [])) s3 := by
    rw [← hs3]
    refine I2.laid (t' := s2.toks) (fun b o e => Heap.get?_push_of_some _ e) (Nat.le_of_eq hD) ⟨Nat.zero_le _, [], 0, .nil, ?_⟩
    rw [← hD]
    exact Heap.get?_push_size _ rfl
  have h3 : s3.heap = s2.heap.push { cls := .type "list", data := .seq ([] : List Value).toArray } := by rw [← hs3]
  have sz : ∀ b ∈ fp, b < s2.heap.objs.size := fun b hb => by
    obtain ⟨o, e, _⟩ := T.obj _ _ st2 b hb
    exact Heap.lt_size e
  have f3 : ∀ b ∈ fp, FpOk X pins (upd H2 D (.lst [])) b ∧ b < s3.heap.objs.size := fun b hb => by
    have hlt := sz b hb
    refine ⟨⟨?_, (f2 b hb).2⟩, by rw [h3, Heap.size_push]; exact Nat.lt_succ_of_lt hlt⟩
    rw [upd_ne (by rw [← hD]; exact Nat.ne_of_lt hlt)]
    exact (f2 b hb).1
  have st3 : tn 0 s3.heap := T.keep _ _ _ st2 fun b _ o e => by rw [h3]; exact Heap.get?_push_of_some _ e
  have I4 := block_start I3 ok hN f3
  have pg := hg s3 (upd H2 D (.lst [])) s3.heap.objs.size (cellsFrom (s3.heap.objs.size + 1) scope.names (cloFrom X.env.cells scope.names [])) fp
  have pt := ht s3 (upd H2 D (.lst [])) s3.heap.objs.size (cellsFrom (s3.heap.objs.size + 1) scope.names (cloFrom X.env.cells scope.names [])) fp
  have pe := he s3 (upd H2 D (.lst [])) s3.heap.objs.size (cellsFrom (s3.heap.objs.size + 1) scope.names (cloFrom X.env.cells scope.names [])) fp
  show codeAny _ _ (.compStart (.ListComp elt [⟨tg, iter, ifs, 0⟩] scope pos) 0 (.ref it) (.ref D) (compEnvC scope (cellsFrom (s3.heap.objs.size + 1) scope.names (cloFrom X.env.cells scope.names [])) s3.heap.objs.size X.env)) (compPost (model X.prog X.w) X.A X.xe use Qf (.ref D) s3.heap.objs.size) { s3 with heap := pushCells (s3.heap.push { cls := .type "dict", data := .dict #[] }) scope.names }
  have nfp : ∀ b ∈ fp, (upd H2 D (.lst [])) b = none := fun b hb => (f3 b hb).1.1
  generalize hce : compEnvC scope (cellsFrom (s3.heap.objs.size + 1) scope.names (cloFrom X.env.cells scope.names [])) s3.heap.objs.size X.env = ce at I4 pg pt pe ⊢
  have cL : ce.locals = s3.heap.objs.size := by subst hce; rfl
  generalize hH3 : upd H2 D (.lst []) = H3 at I3 I4 pg pt pe w0 nfp f3
  generalize hs4 : ({ s3 with heap := pushCells (s3.heap.push { cls := .type "dict", data := .dict #[] }) scope.names } : Shared) = s4 at I4 ⊢
  have st4 : tn 0 s4.heap := T.keep _ _ _ st3 fun b _ o e => by rw [← hs4]; exact pushCells_keeps _ _ _ _ (Heap.get?_push_of_some _ e)
  have stat : ∀ {σ' : St} {H' : Hp} {s' : Shared}, Inv (X.blk s3 H3 scope ce fp) [] σ' H' s' → (∀ b ∈ fp, H' b = none) → ∀ b ∈ fp, FpOk (X.blk s3 H3 scope ce fp) [] H' b := fun {σ' H' s'} I' hn b hb =>
    ⟨hn b hb, (I'.ok.exf b hb).1, I'.ok.exfs b hb, .inl hb, fun x c e => (I'.ok.exf b hb).2 x c e, fun p hp => absurd (show p ∈ ([] : List (Addr × Obj)) ++ [] from hp) (by simp)⟩
  have loop : codeAny (model X.prog X.w) X.A (.compLoop (.ListComp elt [⟨tg, iter, ifs, 0⟩] scope pos) 0 (.ref it) (.ref D) ce) (compPost (model X.prog X.w) X.A X.xe use Qf (.ref D) s3.heap.objs.size) s4 := by
    refine compLoop_any (fun n s' => ∃ i H', Inv (X.blk s3 H3 scope ce fp) [] (wipe σ (own.map (·.2))) H' s' ∧ tn i s'.heap ∧ (∀ b ∈ fp, H' b = none) ∧ W i n H') ?_ m0 ⟨0, H3, I4, st4, nfp, w0⟩
    rintro n s5 ⟨i, H5, I5, st5, n5, w5⟩
    rcases turn i n H5 w5 with ⟨stop, qq⟩ | ⟨go, Nx, hNx, step⟩
    · have td := T.done (X.blk s3 H3 scope ce fp) rfl rfl rfl hc i [] s5 _ H5 (fun _ _ => False) I5 (stat I5 n5) st5 stop
      refine thnF td fun r s6 ⟨hr, I6⟩ => ?_
      subst hr
      -- back in the def's context
      have I7 : Inv X pins σ H5 s6 := I3.call' (ch := fp) I6.os I6.base I6.hok I6.bare fun b hb => ⟨(f3 b hb).1.2.2.2.1, (f3 b hb).1.2.1, (f3 b hb).1.2.2.2.2.1, (f3 b hb).1.2.2.2.2.2⟩
      have nC : H5 s3.heap.objs.size = none := by
        have z : H5 ce.locals = none := I6.free
        rw [cL] at z
        exact z
      obtain ⟨m, hn, _⟩ := I6.loc
      have hn : s6.heap.Ns ce.locals m := hn
      rw [cL] at hn
      exact hRR D s3.heap.objs.size s6 m H5 I7 qq hn (I3.fpOk (Nat.le_refl _) nC)
    · have ti := T.item (X.blk s3 H3 scope ce fp) rfl rfl rfl hc i [] s5 _ H5 (fun _ _ => False) I5 (stat I5 n5) st5 go
      refine thnF ti fun r s6 ⟨u, hr, h6⟩ => ?_
      subst hr
      refine thnF h6 fun _ s7 ⟨x, H7, I7, r7, y7, st7, n7⟩ => ?_
      have I7' := I7.pinned (stat I7 n7) (T.obj _ _ st7)
      refine thnF (pg _ s7 _ H7 x u _ I7' r7 (step x H7 y7)) fun _ s8 ⟨σ8, H8, I8, hw8, q8⟩ => ?_
      refine thnF (pt _ s8 σ8 H8 _ I8 q8) fun b s9 ⟨H9, I9, q9⟩ => ?_
      -- the turn's end
      have fin : ∀ {s' : Shared} {H' : Hp}, Inv (X.blk s3 H3 scope ce fp) ([] ++ pinsAt fp s7.heap) σ8 H' s' → Nx H' → ∃ m, m < n ∧ ∃ i H', Inv (X.blk s3 H3 scope ce fp) [] (wipe σ (own.map (·.2))) H' s' ∧ tn i s'.heap ∧ (∀ b ∈ fp, H' b = none) ∧ W i m H' := fun {s' H'} I' nx => by
        obtain ⟨m', hm, w'⟩ := hNx H' nx
        have pin' : ∀ b ∈ fp, ∀ o, s7.heap.get? b = some o → s'.heap.get? b = some o ∧ H' b = none := fun b hb o e =>
          let z := I'.pin (b, o) (List.mem_append_right _ (List.mem_append_right _ (mem_pinsAt hb e)))
          ⟨z.1, z.2.1⟩
        have hl : (wipe σ (own.map (·.2))).length = σ8.length := by rw [← hw8, wipe_length]
        refine ⟨m', hm, i + 1, H', (I'.unpinned (pins := [])).weak hl (fun j v e => ?_), T.keep _ _ _ st7 fun b hb o e => (pin' b hb o e).1, fun b hb => ?_, w'⟩
        · rw [← hw8] at e
          exact (wipe_some e).1
        · obtain ⟨o, e, _⟩ := T.obj _ _ st7 b hb
          exact (pin' b hb o e).2
      cases b with
      | false =>
        simp only [Bool.false_eq_true, if_false] at q9 ⊢
        exact fin I9 q9
      | true =>
        simp only [if_true] at q9 ⊢
        refine thnF (pe _ s9 σ8 H9 _ I9 q9) fun z s10 ⟨yv, H10, I10, r10, acc, hD10, hz10, nx⟩ => ?_
        exact app_ok (X := X.blk s3 H3 scope ce fp) I10 hD10 hz10 r10 fun s11 I11 => fin I11 nx
  exact codeAny_compStart_list loop (T.self X.A 0 _ _ _ st4 loop)
/-- as a value -/
theorem pe_lc {elt tg iter : Expr} {ifs : List Expr} {scope : Scope} {own : List (Str × Nat)} {pos : Pos} {wi : TI} {g : TG} {tt : TT} {te : TE} (hc : X.calm = true) (hN : X.N.Nodup) (hi : PI X tg iter wi) (ok : BlkOk X.N X.env.scope scope own)
    (hg : ∀ (s : Shared) (H : Hp) (C : Addr) (cl : List (Str × Addr)) (fp : List Addr), PG (X.blk s H scope (compEnvC scope cl C X.env) fp) tg g) (ht : ∀ (s : Shared) (H : Hp) (C : Addr) (cl : List (Str × Addr)) (fp : List Addr), PTs (X.blk s H scope (compEnvC scope cl C X.env) fp) ifs tt)
    (he : ∀ (s : Shared) (H : Hp) (C : Addr) (cl : List (Str × Addr)) (fp : List Addr), PE (X.blk s H scope (compEnvC scope cl C X.env) fp) elt te) (hs : ∀ x, foldedSetIterable iter X.env x = pure x := by intro _; rfl) :
    PE X (.ListComp elt [⟨tg, iter, ifs, 0⟩] scope pos) (tLc wi g tt te (own.map (·.2))) := by
  intro pins s σ H Q I h
  rw [eval_ListComp]
  refine lc_core hc hN I hi ok hg ht he hs h fun D C s' m H' I' q hn f => ⟨m, hn, fun h'' sb => ?_⟩
  obtain ⟨f0, f1, f2, f3, f4, f5⟩ := f
  exact ⟨.ref D, H', I'.turned (t' := s'.toks) (fun b o hb e => (sb.2 b hb).trans e) f0 f1 f3 f4 f5, rfl, q⟩
/-- name = [..] on one line, the name a local -/
theorem ps_setLc {i : Nat} {y : Str} {py : Pos} {elt tg iter : Expr} {ifs : List Expr} {scope : Scope} {own : List (Str × Nat)} {pos spos : Pos} {wi : TI} {g : TG} {tt : TT} {te : TE} (hc : X.calm = true) (hN : X.N.Nodup) (hy : X.N[i]? = some y) (hyl : X.env.scope.names.lookup y = some .local)
    (hsw : swapsWith (.ListComp elt [⟨tg, iter, ifs, 0⟩] scope pos) (some (.Name y py)) spos.line X.env = pure true) (hi : PI X tg iter wi) (ok : BlkOk X.N X.env.scope scope own)
    (hg : ∀ (s : Shared) (H : Hp) (C : Addr) (cl : List (Str × Addr)) (fp : List Addr), PG (X.blk s H scope (compEnvC scope cl C X.env) fp) tg g) (ht : ∀ (s : Shared) (H : Hp) (C : Addr) (cl : List (Str × Addr)) (fp : List Addr), PTs (X.blk s H scope (compEnvC scope cl C X.env) fp) ifs tt)
    (he : ∀ (s : Shared) (H : Hp) (C : Addr) (cl : List (Str × Addr)) (fp : List Addr), PE (X.blk s H scope (compEnvC scope cl C X.env) fp) elt te) (hs : ∀ x, foldedSetIterable iter X.env x = pure x := by intro _; rfl) :
    PS X (.Assign [.Name y py] (.ListComp elt [⟨tg, iter, ifs, 0⟩] scope pos) spos) (tAsg (tLc wi g tt te (own.map (·.2))) (gName i)) := by
  intro pins s σ H D I h
  rw [exec_Assign_Name_used _ _ _ _ hsw]
  refine wpAny_bind (wpAny_standAt (wpAny_bind ?_))
  show wpAny _ X.A (do let _ ← comprehension (.ListComp elt [⟨tg, iter, ifs, 0⟩] scope pos) scope X.env (firstIterPos [⟨tg, iter, ifs, 0⟩] pos) (newList []) false (eval iter X.env) (some (assign (.Name y py) X.env))) _ _ s
  have h : tLc wi g tt te (own.map (·.2)) σ H (fun x H1 => gName i x σ H1 D.nx) := h
  refine wpAny_bind (thn (lc_core (Qf := fun _ s' => SP X pins D .next s') hc hN I hi ok hg ht he hs h fun L C s' m H' I' q hn f => ?_) fun _ s' hq => wpAny_pure (wpAny_pure hq))
  show wpAny _ _ (assign (.Name y py) X.env (.ref L)) _ _ _
  refine wpAny_assign_Name (store_ok2 (v := V.ref L) I' hN hy (.inl hyl) rfl (fun s2 I2 ⟨a, sb, ha⟩ => ?_) (.inr hyl))
  obtain ⟨f0, f1, f2, f3, f4, f5⟩ := f
  have haC : C ≠ a := by
    rcases ha with z | z
    · rw [z]; exact f1
    · exact fun e => f4 y a z e.symm
  refine ⟨m, hn.sameBut sb haC, fun h3 sb3 => ?_⟩
  exact ⟨_, H', I2.turned (t' := s2.toks) (fun b o hb e => (sb3.2 b hb).trans e) f0 f1 f3 f4 f5, q⟩
end

/-! ### the forms one uses -/
def blkC (N : List Str) (sc scope : Scope) (own : List (Str × Nat)) : Bool :=
  (match scope.kind with | .function => true | _ => false) && (scope.names.all fun y => decide (scope.names.lookup y.1 = some y.2)) && (own.all fun p => decide (N[p.2]? = some p.1)) &&
    (scope.names.all fun y => match y.2 with
      | .free => (match sc.names.lookup y.1 with | some .cell => true | some .free => true | _ => false)
      | .local => decide (y.1 ∈ own.map (·.1)) || decide (y.1 ∉ N)
      | .cell => decide (y.1 ∈ own.map (·.1)) || decide (y.1 ∉ N)
      | _ => true)
end L2

namespace L2
open PySem PySem.Spec PyProof.Rows


section
variable {prog : Program} {w : World} {A : Around} {R : Result → Shared → Prop} {s : Shared} {elt t0 i0 t1 i1 : Expr} {ifs0 ifs1 : List Expr} {scope : Scope} {pos : Pos} {it acc : Value} {env : Env}
end

section
variable {X : Cx}
/-- [elt for tg in iter if .. for tg1 in iter1 if ..]: behind the first clause's store and tests the second source's own loop, from which Nx is reached. vs: the block's names; vs1: those of the second target -/
def tLc2 (wi : TI) (g : TG) (tt : TT) (wi1 : TI) (g1 : TG) (tt1 : TT) (te : TE) (vs vs1 : List Nat) : TE := fun σ H Q => wi σ H fun J H1 => ∀ D, H1 D = none → ∃ W : Nat → Nat → Hp → Prop, (∃ m, W 0 m (upd H1 D (.lst []))) ∧ ∀ i m H, W i m H →
  (J.stop i H ∧ Q (.ref D) H) ∨ (J.go i H ∧ ∃ Nx : Hp → Prop, (∀ H', Nx H' → ∃ m', m' < m ∧ W (i + 1) m' H') ∧ ∀ x H', J.yld i H x H' → g x (wipe σ vs) H' fun σ2 H2 => wipe σ2 vs = wipe σ vs ∧ tt σ2 H2 fun b H3 =>
    if b = true then wi1 σ2 H3 fun J1 H4 => ∃ W1 : Nat → Nat → Hp → Prop, (∃ m, W1 0 m H4) ∧ ∀ j k H, W1 j k H →
      (J1.stop j H ∧ Nx H) ∨ (J1.go j H ∧ ∃ Nx1 : Hp → Prop, (∀ H', Nx1 H' → ∃ k', k' < k ∧ W1 (j + 1) k' H') ∧ ∀ x H', J1.yld j H x H' → g1 x (wipe σ2 vs1) H' fun σ3 H5 => wipe σ3 vs1 = wipe σ2 vs1 ∧ tt1 σ3 H5 fun b H6 =>
        if b = true then te σ3 H6 fun y H7 => ∃ acc, H7 D = some (.lst acc) ∧ acc.length < sizeLine ∧ Nx1 (upd H7 D (.lst (acc ++ [y]))) else Nx1 H6)
    else Nx H3)
end
end L2

namespace L2
open PySem PySem.Spec PyProof.Rows

/-! ### lists of pairs as tables -/
section
variable {κ : Type} [DecidableEq κ]
def valV (kvs : List (κ × V)) (k : κ) : Option V := (kvs.find? fun kv => decide (kv.1 = k)).map (·.2)
/-- in its place, or at the end -/
def putK (kvs : List (κ × V)) (k : κ) (v : V) : List (κ × V) :=
  if (kvs.any fun kv => decide (kv.1 = k)) = true then kvs.map (fun kv => if kv.1 = k then (kv.1, v) else kv) else kvs ++ [(k, v)]
def dropK (kvs : List (κ × V)) (k : κ) : List (κ × V) := kvs.filter fun kv => decide (kv.1 ≠ k)



end


/-! ### a tracked dict, its keys ints and texts or tuples of these -/

/-- raw entries of a dict with tuple keys -/
abbrev KT (H : Hp) : List (List Key × V) → List (List Key × Addr × Value) → Prop := Paired fun p q => p.1 = q.1 ∧ H q.2.1 = some (.tup (p.1.map kV)) ∧ RelV p.2 q.2.2

section
variable {P : Program} {w : World} {H : Hp} {h : Heap} {a : Addr}
end

/-- what the dict at a holds at the key y -/
def DGet (H : Hp) (a : Addr) (y : V) (r : Option V) : Prop :=
  (∃ kvs k, Rd H a (.dK kvs) ∧ y = kV k ∧ r = valV kvs k) ∨ ∃ kvs k b, Rd H a (.dT kvs) ∧ y = .ref b ∧ H b = some (.tup (k.map kV)) ∧ r = valV kvs k
/-- the heap behind a[y] = v -/
def DPut (H : Hp) (a : Addr) (y v : V) (H' : Hp) : Prop :=
  (∃ kvs k, H a = some (.dK kvs) ∧ y = kV k ∧ kvs.length < sizeLine ∧ H' = upd H a (.dK (putK kvs k v))) ∨
  ∃ kvs k b, H a = some (.dT kvs) ∧ y = .ref b ∧ H b = some (.tup (k.map kV)) ∧ kvs.length < sizeLine ∧ H' = upd H a (.dT (putK kvs k v))


section
variable {X : Cx} {pins : List (Addr × Obj)} {σ : St} {H : Hp} {s : Shared} {a : Addr} {y v : V} {u r : Value} {o : Option V} {A : Around} {E : Value → Shared → Prop}


end

section
variable {X : Cx} {pins : List (Addr × Obj)} {σ : St} {H : Hp} {s : Shared} {a : Addr} {kvs : List (Key × V)} {k : Key} {u : Value} {A : Around} {E : Value → Shared → Prop}
end


/-! ### readings and rules -/
/-- the element of a subscription, not a slice -/
def NoSl (i : Expr) : Prop := ∀ ov iv, subscripted i false ov iv = operate [ov, iv] (getItem ov iv)


/-- d[y] -/
def tDGet (td ty : TE) : TE := fun σ H Q => td σ H fun x H1 => ty σ H1 fun y H2 => ∃ a v, x = .ref a ∧ DGet H2 a y (some v) ∧ Q v H2
/-- y in d, y not in d -/
def tDIn (ty td : TE) : TE := fun σ H Q => ty σ H fun y H1 => td σ H1 fun x H2 => ∃ a o, x = .ref a ∧ DGet H2 a y o ∧ Q (.bl o.isSome) H2
def tDNotIn (ty td : TE) : TE := fun σ H Q => ty σ H fun y H1 => td σ H1 fun x H2 => ∃ a o, x = .ref a ∧ DGet H2 a y o ∧ Q (.bl (!o.isSome)) H2
/-- d[y] = v -/
def sDPut (td ty tv : TE) : TS := fun D σ H => tv σ H fun v H1 => td σ H1 fun x H2 => ty σ H2 fun y H3 => ∃ a H4, x = .ref a ∧ DPut H3 a y v H4 ∧ D.nx σ H4
/-- d[y] op= v -/
def sDAug (td ty tv : TE) (rd : V → V → Hp → VK → Prop) : TS := fun D σ H => td σ H fun x H1 => ty σ H1 fun y H2 => ∃ a v, x = .ref a ∧ DGet H2 a y (some v) ∧
  tv σ H2 fun y2 H3 => rd v y2 H3 fun z H4 => ∃ H5, DPut H4 a y z H5 ∧ D.nx σ H5
/-- del d[y] -/
def sDDel (td ty : TE) : TS := fun D σ H => td σ H fun x H1 => ty σ H1 fun y H2 => ∃ a kvs k, x = .ref a ∧ H2 a = some (.dK kvs) ∧ y = kV k ∧ (valV kvs k).isSome = true ∧ D.nx σ (upd H2 a (.dK (dropK kvs k)))

section
variable {X : Cx} {o i e value : Expr} {pos pos' tpos : Pos} {td ty tv : TE}
end


/-! ### displays -/
/-- {}, to be a dict of the kind that is wanted -/
def tDNewK : TE := fun _ H Q => ∀ p, H p = none → Q (.ref p) (upd H p (.dK []))
def tDNewT : TE := fun _ H Q => ∀ p, H p = none → Q (.ref p) (upd H p (.dT []))
section
variable {X : Cx} {pos : Pos}
end

/-- the pairs of a display, from the left -/
def tPairs : List (TE × TE) → St → Hp → (List (V × V) → Hp → Prop) → Prop
  | [], _, H, Q => Q [] H
  | (tk, tv) :: r, σ, H, Q => tk σ H fun x H1 => tv σ H1 fun y H2 => tPairs r σ H2 fun ps H3 => Q ((x, y) :: ps) H3
abbrev VV : List (V × V) → List (Value × Value) → Prop := Paired fun p q => RelV p.1 q.1 ∧ RelV p.2 q.2
def PPs (X : Cx) (pos : Pos) (keys : List (Option Expr)) (values : List Expr) (trs : List (TE × TE)) : Prop :=
  ∀ (pins : List (Addr × Obj)) (s : Shared) (σ : St) (H : Hp) (Q : List (V × V) → Hp → Prop), Inv X pins σ H s → tPairs trs σ H Q →
    wpAny (model X.prog X.w) X.A (evalPairs (pairTrees keys values X.env pos)) (fun vs s' => ∃ ps H', Inv X pins σ H' s' ∧ VV ps vs ∧ Q ps H') X.xe s

def mergeK (kvs more : List (Key × V)) : List (Key × V) := more.foldl (fun acc kv => putK acc kv.1 kv.2) kvs
/-- {k: v, ..} with keys ints and texts; the new dict stands empty while the pairs are made -/
def tDisp (trs : List (TE × TE)) : TE := fun σ H Q => ∀ p, H p = none → tPairs trs σ (upd H p (.dK [])) fun ps H2 => H2 p = some (.dK []) ∧ ∃ kvs : List (Key × V), ps = kvs.map (fun kv => (kV kv.1, kv.2)) ∧ kvs.length ≤ 15 ∧ Q (.ref p) (upd H2 p (.dK (mergeK [] kvs)))


/-! ### methods -/
/-- a method call o.m(e) of a built-in, with one argument: what must be seen of the text -/
structure M1 (X : Cx) (o : Expr) (m : Str) (apos : Pos) (e : Expr) (cpos : Pos) : Prop where
  base : attributeBase o m X.env (eval o X.env) = eval o X.env
  few : ((backTo cpos (starEach [e] X.env)).all (fun x => !x.1) && (backToKw cpos (keywordEach [] X.env)).all (fun x => x.1.isSome)
    && decide (([e] : List Expr).length + ([] : List Keyword).length + (if ([] : List Keyword).isEmpty then 0 else 1) < 30)) = true
  line : (apos.endLine == cpos.line) = true
  trees : backTo cpos (starEach [e] X.env) = [(false, eval e X.env)]
structure M2 (X : Cx) (o : Expr) (m : Str) (apos : Pos) (e f : Expr) (cpos : Pos) : Prop where
  base : attributeBase o m X.env (eval o X.env) = eval o X.env
  few : ((backTo cpos (starEach [e, f] X.env)).all (fun x => !x.1) && (backToKw cpos (keywordEach [] X.env)).all (fun x => x.1.isSome)
    && decide (([e, f] : List Expr).length + ([] : List Keyword).length + (if ([] : List Keyword).isEmpty then 0 else 1) < 30)) = true
  line : (apos.endLine == cpos.line) = true
  trees : backTo cpos (starEach [e, f] X.env) = [(false, eval e X.env), (false, eval f X.env)]

/-- a is a dict, whatever its keys -/
def IsD (H : Hp) (a : Addr) : Prop := (∃ kvs, Rd H a (.dK kvs)) ∨ ∃ kvs, Rd H a (.dT kvs)

section
variable {X : Cx} {pins : List (Addr × Obj)} {σ : St} {H : Hp} {s : Shared} {a : Addr} {y d : V} {u r : Value} {o : Option V} {A : Around} {E : Value → Shared → Prop}
end

def tDGet1 (td ty : TE) : TE := fun σ H Q => td σ H fun x H1 => ∃ a, x = .ref a ∧ IsD H1 a ∧ ty σ H1 fun y H2 => ∃ o, DGet H2 a y o ∧ Q (o.getD .non) H2
def tDGet2 (td ty tx : TE) : TE := fun σ H Q => td σ H fun x H1 => ∃ a, x = .ref a ∧ IsD H1 a ∧ ty σ H1 fun y H2 => tx σ H2 fun z H3 => ∃ o, DGet H3 a y o ∧ Q (o.getD z) H3
/-- d.pop(k): there; d.pop(k, x): there or not -/
def tDPop1 (td ty : TE) : TE := fun σ H Q => td σ H fun x H1 => ∃ a, x = .ref a ∧ IsD H1 a ∧ ty σ H1 fun y H2 => ∃ kvs k v, H2 a = some (.dK kvs) ∧ y = kV k ∧ valV kvs k = some v ∧ Q v (upd H2 a (.dK (dropK kvs k)))
def tDPop2 (td ty tx : TE) : TE := fun σ H Q => td σ H fun x H1 => ∃ a, x = .ref a ∧ IsD H1 a ∧ ty σ H1 fun y H2 => tx σ H2 fun z H3 => ∃ kvs k, H3 a = some (.dK kvs) ∧ y = kV k ∧
  (∀ v, valV kvs k = some v → Q v (upd H3 a (.dK (dropK kvs k)))) ∧ (valV kvs k = none → Q z H3)
section
variable {X : Cx} {o e f : Expr} {apos cpos : Pos} {td ty tx : TE}
end

/-! ### dict(d): a copy -/
section
variable {X : Cx} {pins : List (Addr × Obj)} {σ : St} {H : Hp} {s : Shared} {a : Addr} {kvs : List (Key × V)} {A : Around} {E : Value → Shared → Prop}
end


section
variable {X : Cx} {pins : List (Addr × Obj)} {σ : St} {H : Hp} {s : Shared} {a : Addr} {y : V} {u : Value} {A : Around} {E : Value → Shared → Prop}
end
end L2

namespace L2
open PySem PySem.Spec PyProof.Rows


section
variable {prog : Program} {w : World} {A : Around} {E : Value → Shared → Prop}


end

section
variable {X : Cx}
end
end L2

namespace L2
open PySem PySem.Spec PyProof.Rows


section
variable {X : Cx} {pins : List (Addr × Obj)} {σ : St} {H : Hp} {s : Shared} {h' : Heap}

/-! ### locking a thing while a statement runs -/
end
/-- the statement runs while the thing at d is locked (read, not written); d and what stands there are the reading's choice -/
def tLock (t : TS) : TS := fun D σ H => ∃ d u, H d = some u ∧ Mut (some u) ∧ ∀ od, t ⟨fun σ' H' => H' d = some (.frz od u) ∧ D.nx σ' (upd H' d u), fun v H' => H' d = some (.frz od u) ∧ D.rt v (upd H' d u), fun σ' H' => H' d = some (.frz od u) ∧ D.bk σ' (upd H' d u), fun σ' H' => H' d = some (.frz od u) ∧ D.ct σ' (upd H' d u)⟩ σ (upd H d (.frz od u))
def tLockE (t : TE) : TE := fun σ H Q => ∃ d u, H d = some u ∧ Mut (some u) ∧ ∀ od, t σ (upd H d (.frz od u)) fun v H' => H' d = some (.frz od u) ∧ Q v (upd H' d u)
section
variable {X : Cx}

/-! ### one iterator just laid -/
theorem pi_one {tg : Expr} {pins : List (Addr × Obj)} {σ : St} {H : Hp} {s : Shared} {R : It → Hp → Prop} {J : It} {tn : Nat → Heap → Prop} {tk : Nat} (I : Inv X pins σ H s) (o : Obj)
    (T : Turn X.prog X.w X.K tg J [s.heap.objs.size] s.heap.objs.size tn) (st : tn 0 (s.heap.push o)) (q : R J H) : PIE X pins σ tg R (.ref s.heap.objs.size) { s with heap := s.heap.push o, toks := tk } := by
  refine ⟨s.heap.objs.size, [s.heap.objs.size], tn, J, H, rfl, I.kept fun b ob e => Heap.get?_push_of_some _ e, T, st, fun b hb => ?_, q⟩
  have e : b = s.heap.objs.size := by simpa using hb
  subst e
  exact I.fpOk (Nat.le_refl _) (I.hok.fresh (Nat.le_refl _))
end

/-! ### range with a step -/
/-- lo, lo + c, .. (n of them) -/
def Itc (lo c : Int) (n : Nat) : It := ⟨fun i _ => i < n, fun i H x H' => H' = H ∧ x = .int (lo + (i : Nat) * c), fun i _ => n ≤ i⟩
theorem turn_rangeC {P : Program} {w : World} {K : PySem.W.Frag} {tg : Expr} (it : Addr) (lo c : Int) (n : Nat) : Turn P w K tg (Itc lo c n) [it] it (fun i h => IsRangeIter h it (lo + (i : Nat) * c) ((n : Int) - (i : Nat)) c) where
  mem := by simp
  obj := fun i h st b hb => by
    have e : b = it := by simpa using hb
    subst e
    exact ⟨_, st, fun v z => nomatch z⟩
  keep := fun i h h' st k => k it (by simp) _ st
  item := by
    intro X hP hw hK hc i pins s σ H E I hf st hg
    subst hP hw hK
    obtain ⟨f0, f1, f2, f3, f4, f5⟩ := hf it (by simp)
    have W := Walks.range (prog := X.prog) (w := X.w) (I.ok.hd hc) it lo c n
    refine W.item i s _ _ hg st fun v h' tk hv st' kk => ?_
    obtain ⟨t, rfl⟩ := hv
    have I1 : Inv X pins σ H { s with heap := h', toks := tk } := I.turned (fun b o hb e => kk b o (by simpa using hb) e) f0 f1 f3 f4 f5
    exact ⟨_, rfl, go_of (s := { s with heap := h', toks := tk }) (n := "range_iterator") st' rfl rfl (by decide) ⟨.int (lo + (i : Nat) * c), H, I1, ⟨t, rfl⟩, ⟨rfl, rfl⟩, st', fun b hb => (hf b hb).1⟩⟩
  done := by
    intro X hP hw hK hc i pins s σ H E I hf st hg
    subst hP hw hK
    obtain ⟨f0, f1, f2, f3, f4, f5⟩ := hf it (by simp)
    exact wpAny_pyNext_range_end (I.ok.hd hc) st (by have : n ≤ i := hg; omega) fun h' eb => ⟨rfl, I.turned (t' := s.toks) (fun b o hb e => eb b o hb e) f0 f1 f3 f4 f5⟩
  self := fun A i s Q E st h => wpAny_pyIter_rangeiter st h
/-- range(i, j, c): small bounds, n items -/
def RgC (i j c : Int) (n : Nat) : Prop := c ≠ 0 ∧ c.natAbs < 1073741824 ∧ Builtin.Range.small i j c = true ∧ Builtin.Range.rangeSize i j c = n
theorem RgC.neg {i j : Int} (ha : -(2 ^ 62) ≤ i) (ha' : i < 2 ^ 62) (hb : -(2 ^ 62) ≤ j) (hb' : j < 2 ^ 62) : RgC i j (-1) (i - j).toNat :=
  ⟨by decide, by decide, PySem.W.small_down ha ha' hb hb', PySem.W.rangeSize_downNat i j⟩
def iRng3 (ta : TA) : TI := fun σ H R => ta σ H fun vs H1 => ∃ (i j c : Int) (n : Nat), vs = [.int i, .int j, .int c] ∧ RgC i j c n ∧ R (Itc i c n) H1
section
variable {X : Cx} {tg : Expr}
theorem pi_range3 {a b c : Expr} {ta : TA} {p pos : Pos} (hg : Gl X "range") (hm : X.mg "range" = none) (ha : PA X [a, b, c] ta)
    (hs : starEach [a, b, c] X.env = (false, eval a X.env) :: starEach [b, c] X.env := by rfl) (hpl : (backTo pos (starEach [b, c] X.env)).any (·.1) = false := by rfl) :
    PI X tg (.Call (.Name "range" p) [a, b, c] [] pos) (iRng3 ta) := by
  intro pins s σ H R I h
  refine Call_ (ld_blt I hg hm boot_range (PyProof.Rows.callWith_type1 (thn (ha pos pins s σ H _ I h) fun us s1 ⟨vs, H1, I1, r1, q1⟩ => ?_) hs hpl))
  obtain ⟨i, j, k, n, e, ⟨c0, c1, c2, c3⟩, q⟩ := q1
  subst e
  cases r1 with
  | cons r rr =>
    cases rr with
    | cons r' rr =>
      cases rr with
      | cons r'' rr =>
        cases rr
        obtain ⟨t, rfl⟩ := r
        obtain ⟨t', rfl⟩ := r'
        obtain ⟨t'', rfl⟩ := r''
        refine call_range_3 c0 ?_ (.inl (PyProof.noPylong_small c1))
        refine wpAny_pyIter_range (IsRange.new ..) c2 ?_
        have I2 : Inv X pins σ H1 { s1 with heap := s1.heap.push { cls := .type "range", data := .fields #[.int i t, .int j t', .int k t''] } } := I1.kept (t' := s1.toks) fun b o e => Heap.get?_push_of_some _ e
        refine pi_one (tk := s1.toks) I2 _ (turn_rangeC _ i k n) ?_ q
        have e1 : i + ((0 : Nat) : Int) * k = i := by simp
        have e2 : (n : Int) - ((0 : Nat) : Int) = Builtin.Range.rangeSize i j k := by rw [c3]; simp
        show IsRangeIter _ _ (i + ((0 : Nat) : Int) * k) ((n : Int) - ((0 : Nat) : Int)) k
        rw [e1, e2]
        exact Heap.get?_push_size _ rfl
end
/-- the turns of a step range, for the for loop -/
theorem for_rangeC {lo c : Int} {n : Nat} {g : TG} {tb : TS} {D : Ends} {σ : St} {H : Hp} (Pv : Nat → St → Hp → Prop) (h0 : Pv 0 σ H)
    (hs : ∀ i σ H, i < n → Pv i σ H → g (.int (lo + (i : Nat) * c)) σ H fun σ2 H2 => tb { D with nx := Pv (i + 1), ct := Pv (i + 1), bk := D.nx } σ2 H2) (hd : ∀ σ H, Pv n σ H → D.nx σ H) :
    ∃ W : Nat → Nat → St → Hp → Prop, (∃ m, W 0 m σ H) ∧ ∀ i m σ H, W i m σ H →
      ((Itc lo c n).stop i H ∧ D.nx σ H) ∨ ((Itc lo c n).go i H ∧ ∃ N : St → Hp → Prop, (∀ σ' H', N σ' H' → ∃ m', m' < m ∧ W (i + 1) m' σ' H') ∧ ∀ x H', (Itc lo c n).yld i H x H' → g x σ H' fun σ2 H2 => tb { D with nx := N, ct := N, bk := D.nx } σ2 H2) := by
  refine ⟨fun i m σ H => m = n - i ∧ i ≤ n ∧ Pv i σ H, ⟨n, by simp, Nat.zero_le _, h0⟩, ?_⟩
  rintro i m σ H ⟨rfl, hi, p⟩
  by_cases hlt : i < n
  · refine .inr ⟨hlt, Pv (i + 1), fun σ' H' p' => ⟨n - (i + 1), by omega, rfl, hlt, p'⟩, fun x H' y => ?_⟩
    obtain ⟨e, y⟩ := y
    subst e y
    exact hs i σ _ hlt p
  · have e : i = n := by omega
    subst e
    exact .inl ⟨Nat.le_refl _, hd σ H p⟩

/-! ### reversed(list) -/
/-- the list at a (n items at the start, which the loop leaves there), from its end -/
def Itv (K : PySem.W.Frag) (a : Addr) (n : Nat) : It :=
  ⟨fun i H => i < n ∧ ∃ (xs : List V) (x : V), SqL K H a xs ∧ xs[n - 1 - i]? = some x, fun i H x H' => H' = H ∧ ∀ xs, SqL K H a xs → xs[n - 1 - i]? = some x, fun i _ => n ≤ i⟩
def iRev (K : PySem.W.Frag) (ta : TA) : TI := fun σ H R => ta σ H fun vs H1 => ∃ (a : Addr) (xs : List V), vs = [.ref a] ∧ SqL K H1 a xs ∧ R (Itv K a xs.length) H1
section
variable {X : Cx} {tg : Expr}
end

/-! ### a str -/
def Its (x : Str) : It := ⟨fun i _ => i < x.cps.size, fun i H v H' => H' = H ∧ ∃ c, x.cps[i]? = some c ∧ v = .str ⟨#[c]⟩, fun i _ => x.cps.size ≤ i⟩
def iStr (te : TE) : TI := fun σ H R => te σ H fun v H1 => ∃ x, v = .str x ∧ R (Its x) H1

/-! ### a dict's keys: any dict's entries -/
section
variable {prog : Program} {w : World} {A : Around} {E : Value → Shared → Prop} {s : Shared}
end

/-! ### a locked dict -/
section
variable {X : Cx} {pins : List (Addr × Obj)} {σ : St} {H : Hp} {s : Shared} {d : Addr} {o : Obj}
end

/-- the keys of the locked dict at d, in their order -/
def Itk (d : Addr) (o : Obj) (kvs : List (Key × V)) : It :=
  ⟨fun i H => H d = some (.frz o (.dK kvs)) ∧ i < kvs.length, fun i H x H' => H' = H ∧ ∃ k v, kvs[i]? = some (k, v) ∧ x = kV k, fun i H => H d = some (.frz o (.dK kvs)) ∧ kvs.length ≤ i⟩
/-- .. of tuple keys: the key's own tuple -/
def Itkt (d : Addr) (o : Obj) (kvs : List (List Key × V)) : It :=
  ⟨fun i H => H d = some (.frz o (.dT kvs)) ∧ i < kvs.length, fun i H x H' => H' = H ∧ ∃ (k : List Key) (v : V) (q : Addr), kvs[i]? = some (k, v) ∧ x = .ref q ∧ H q = some (.tup (k.map kV)), fun i H => H d = some (.frz o (.dT kvs)) ∧ kvs.length ≤ i⟩
/-- the values -/
def Itd (d : Addr) (o : Obj) (kvs : List (Key × V)) : It :=
  ⟨fun i H => H d = some (.frz o (.dK kvs)) ∧ i < kvs.length, fun i H x H' => H' = H ∧ ∃ k, kvs[i]? = some (k, x), fun i H => H d = some (.frz o (.dK kvs)) ∧ kvs.length ≤ i⟩
/-- the pairs, each a new tuple -/
def Iti (d : Addr) (o : Obj) (kvs : List (Key × V)) : It :=
  ⟨fun i H => H d = some (.frz o (.dK kvs)) ∧ i < kvs.length, fun i H x H' => ∃ T k v, kvs[i]? = some (k, v) ∧ x = .ref T ∧ H T = none ∧ H' = upd H T (.tup [kV k, v]), fun i H => H d = some (.frz o (.dK kvs)) ∧ kvs.length ≤ i⟩
section
variable {P : Program} {w : World} {K : PySem.W.Frag} {tg : Expr} {d : Addr} {o : Obj} {es : Array DictEntry} {ep : Nat}
end

/-! ### for k in d, d.keys(), d.values(), d.items() -/
/-- the dict is locked (tLock, or by the caller) -/
def iKeys (td : TE) : TI := fun σ H R => td σ H fun x H1 => ∃ d o, x = .ref d ∧ ((∃ kvs, H1 d = some (.frz o (.dK kvs)) ∧ R (Itk d o kvs) H1) ∨ ∃ kvs, H1 d = some (.frz o (.dT kvs)) ∧ R (Itkt d o kvs) H1)
def iVals (td : TE) : TI := fun σ H R => td σ H fun x H1 => ∃ d o kvs, x = .ref d ∧ H1 d = some (.frz o (.dK kvs)) ∧ R (Itd d o kvs) H1
def iItems (td : TE) : TI := fun σ H R => td σ H fun x H1 => ∃ d o kvs, x = .ref d ∧ H1 d = some (.frz o (.dK kvs)) ∧ R (Iti d o kvs) H1
def iKeysM (td : TE) : TI := fun σ H R => td σ H fun x H1 => ∃ d o kvs, x = .ref d ∧ H1 d = some (.frz o (.dK kvs)) ∧ R (Itk d o kvs) H1
section
variable {X : Cx} {tg e : Expr} {td : TE} {apos cpos : Pos}
end

/-! ### enumerate(list) -/
/-- the list at a as it stands at each turn, each item in a new pair -/
def Ite (K : PySem.W.Frag) (a : Addr) : It :=
  ⟨fun i H => ∃ (xs : List V) (x : V), SqL K H a xs ∧ xs[i]? = some x, fun i H v H' => ∃ T x, v = .ref T ∧ H T = none ∧ H' = upd H T (.tup [.int (i : Nat), x]) ∧ ∀ xs, SqL K H a xs → xs[i]? = some x, fun i H => ∃ xs : List V, SqL K H a xs ∧ xs.length ≤ i⟩
def iEnum (K : PySem.W.Frag) (ta : TA) : TI := fun σ H R => ta σ H fun vs H1 => ∃ a xs, vs = [.ref a] ∧ SqL K H1 a xs ∧ R (Ite K a) H1
/-! ### zip(list, list) -/
/-- the lists at a and b as they stand at each turn, the items in new pairs -/
def Itz (K : PySem.W.Frag) (a b : Addr) : It :=
  ⟨fun i H => ∃ (xs ys : List V) (x y : V), SqL K H a xs ∧ SqL K H b ys ∧ xs[i]? = some x ∧ ys[i]? = some y,
    fun i H v H' => ∃ T x y, v = .ref T ∧ H T = none ∧ H' = upd H T (.tup [x, y]) ∧ (∀ xs, SqL K H a xs → xs[i]? = some x) ∧ ∀ ys, SqL K H b ys → ys[i]? = some y,
    fun i H => ∃ xs ys : List V, SqL K H a xs ∧ SqL K H b ys ∧ (xs.length ≤ i ∨ ys.length ≤ i)⟩
def iZip (K : PySem.W.Frag) (ta : TA) : TI := fun σ H R => ta σ H fun vs H1 => ∃ a b xs ys, vs = [.ref a, .ref b] ∧ SqL K H1 a xs ∧ SqL K H1 b ys ∧ R (Itz K a b) H1
end L2

section 
namespace Bits
open PySem PyProof.Rows








end Bits
end 

section 
namespace TL
open PySem PySem.Builtin PySem.Builtin.Str PySem.StrLaws

abbrev tl (x : Str) : List Nat := x.cps.toList

/-! ### the list functions -/
/-- S stands at the head of l -/
def pre (S l : List Nat) : Bool := l.take S.length == S
/-- l cut at each S from the left; k signs are still to be passed over -/
def spl (S : List Nat) : Nat → List Nat → List Nat → List (List Nat)
  | _, acc, [] => [acc]
  | 0, acc, c :: r => if pre S (c :: r) = true then acc :: spl S (S.length - 1) [] r else spl S 0 (acc ++ [c]) r
  | k + 1, acc, _ :: r => spl S k acc r
/-- what stands before the first S, and behind it -/
def par (S : List Nat) : List Nat → List Nat → Option (List Nat × List Nat)
  | _, [] => none
  | acc, c :: r => if pre S (c :: r) = true then some (acc, (c :: r).drop S.length) else par S (acc ++ [c]) r




/-! ### the model's split and partition are these -/




/-! ### computing spl and par -/

/-- joined lists -/
def joinL (S : List Nat) : List (List Nat) → List Nat
  | [] => []
  | [p] => p
  | p :: q :: r => p ++ (S ++ joinL S (q :: r))

/-! ### digits -/
/-- the signs of a number -/
def numL (n : Nat) : List Nat := (Nat.toDigits 10 n).map Char.toNat

/-! ### words: x.split() -/
def wstep (st : List (List Nat) × List Nat) (c : Nat) : List (List Nat) × List Nat :=
  if Unicode.isSpace c = true then (if st.2 = [] then st else (st.1 ++ [st.2], [])) else (st.1, st.2 ++ [c])
def wfin (st : List (List Nat) × List Nat) : List (List Nat) := if st.2 = [] then st.1 else st.1 ++ [st.2]
end TL
end 

namespace L2
open PySem PySem.Spec PyProof.Rows



/-- a new list of texts, tracked -/
def rNewStrs (ys : List Str) : Hp → VK → Prop := fun H Q => ∀ p, H p = none → Q (.ref p) (upd H p (.lst (ys.map V.str)))

section
variable {X : Cx} {pins : List (Addr × Obj)} {σ : St} {H : Hp} {s : Shared} {Q : VK}
end

section
variable {X : Cx}





/-! ### of a text alone -/

/-! ### of a text and a text -/

end

section
variable {X : Cx} {o e : Expr} {to te : TE}
def tM0 (r : V → List V → Hp → VK → Prop) (to : TE) : TE := fun σ H Q => to σ H fun x H1 => (∃ a, x = .str a) ∧ r x [] H1 Q
def tM1 (r : V → List V → Hp → VK → Prop) (to te : TE) : TE := fun σ H Q => to σ H fun x H1 => (∃ a, x = .str a) ∧ te σ H1 fun y H2 => r x [y] H2 Q

end
end L2

namespace L2
open PySem PySem.Spec PyProof.Rows

section
variable {X : Cx}
end

/-! ### slices of a text -/

/-- a part, clipped, as the text's slice reckons it -/
def clipS (n d : Nat) : Option Int → Int
  | none => (d : Int)
  | some i => max 0 (min (if i < 0 then i + (n : Int) else i) (n : Int))

/-- z[lo:hi] -/
def cutS (z : Str) (lo hi : Option Int) : Str :=
  ⟨((z.cps.toList.drop (HT.sIx z.length 0 lo)).take (HT.sIx z.length z.length hi - HT.sIx z.length 0 lo)).toArray⟩
def rSlS : V → Option Int → Option Int → Hp → VK → Prop := fun x lo hi H Q => ∃ z, x = .str z ∧ z.length ≤ sizeLine ∧ Q (.str (cutS z lo hi)) H
end L2

namespace Att
open PySem PySem.W PySem.Calls PyProof.Rows

/-! ### the script -/



/-! ### the attachment: holds_open's last premise (the goal 'hc' behind k_head) from a wpAny of the law's body -/



/-! ### rules over ANY heap (no ledger) from facts about the written part K: the library's own take a ledger (News) for what they write -/
section
variable {prog : Program} {w : World} {A : Around} {E : Value → Shared → Prop} {s : Shared} {K : Frag}





/-! the whole heap as the ledger: makes every rule that writes through a ledger a rule over any heap -/
def noObjs (h : Heap) : Heap := { h with objs := #[] }
def ledger (h : Heap) (L d : Addr) : List (Addr × Obj) := (List.range h.objs.size).filterMap fun a => if a = L ∨ a = d then none else (h.get? a).map fun o => (a, o)

end
end Att

namespace L2
open PySem PySem.Spec PyProof.Rows


/-- nothing is tracked but the script, known to the object (or it is an object of the module) -/
def Only (H : Hp) : Prop := ∀ b, H b = none ∨ ∃ o xs, H b = some (.frz o (.lst xs))

end L2

namespace L2
open PySem PySem.Spec PyProof.Rows

abbrev KOf {K : PySem.W.Frag} {h : Heap} (_ : K.In h) : PySem.W.Frag := K

end L2

/- THE LAST THEOREM (shape; LID, My.* are yours):
   My.Adr: a structure of the addresses that your layer names (classes, functions); My.Txt K t: a structure (Prop) of the equations over K;
   My.txt_mk : {K} {implicit addresses ..} (e1 : nsIn K mainGlobals "law" = some (some (.ref f))) (e2 : K.lookup f = some ⟨oc, od, .func (fnOf "law" "law" params body scope dV kV doc pm an cdv ct), sl⟩) (e3 : codeIn K cdv "law" = true) .. : ∃ t, My.Txt K t

set_option maxRecDepth 100000 in
set_option maxHeartbeats 0 in
theorem PySem.Challenge.cw_LID_holds : PySem.Challenge.rw_LID.Holds := by
  w_on; o_law; k_head; (case hw => w_witness2)
  k_fill
  refine L2.walk_of (l := PySem.Challenge.rw_LID) (n := 63) (k := 40) (x := "script") (CX := fun w => ..) (sp := fun _ => My.sp_law) rfl (by decide) rfl ⟨rfl, by decide, by decide⟩ (fun w h Y => PySem.W.kIn_of Y) ?F ?S ?C
  case F =>
    intro w mg fa h KX G hmg
    have T : ∃ t, My.Txt (L2.KOf KX) t := by
      dsimp only [L2.KOf]                          -- K must stand as «<heap const> w.params» for k_is
      refine' My.txt_mk ?e1 ?e2 ?e3 ..
      (case e1 => PySem.W.k_is)                    -- in the order: a name -> its address -> its object -> its parts
      (case e2 => PySem.W.k_is)
      ..
    obtain ⟨t, T⟩ := T
    have e0 := hmg.symm.trans (PySem.W.mg_of KX G T.law)
    cases e0                                       -- fa is the law's own address
    exact ⟨_, fun s u => .of_eq rfl, fun base kb nb => My.law_fn T kb nb⟩     -- if «.of_eq rfl» comes too early: refine' ⟨_, ?b, fun base kb nb => My.law_fn T kb nb⟩; exact fun s u => .of_eq rfl
  case S => exact fun w H a ns hl hO hS => ..
  case C => exact ..
(the tactic k_is has no namespace: write k_is) -/

/-! SHORT WORDS over the layer: a def of the text, its body, what a loop and a test want. -/
namespace L2
open PySem PySem.Spec PyProof.Rows

/-! ### the text by places -/
/-- the j-th statement of a class's body -/
def inClass (s : Stmt) (j : Nat) : Stmt := match s with
  | .ClassDef _ _ _ body _ _ _ _ _ _ _ => body.getD j (.Pass ⟨0, 0, 0, 0⟩)
  | _ => .Pass ⟨0, 0, 0, 0⟩
def defArgs (s : Stmt) : Arguments := match s with
  | .FunctionDef _ a _ _ _ _ _ _ _ _ => a
  | _ => { posonlyargs := [], args := [], vararg := none, kwonlyargs := [], kw_defaults := [], kwarg := none, defaults := [] }
def defBody (s : Stmt) : List Stmt := match s with
  | .FunctionDef _ _ b _ _ _ _ _ _ _ => b
  | _ => []
def defScope (s : Stmt) : Scope := match s with
  | .FunctionDef _ _ _ _ _ _ sc _ _ _ => sc
  | _ => { kind := .function, names := [], isGenerator := false, isCoroutine := false }

/-! ### no exception leaves a def -/
abbrev CX0 : CXT := fun _ _ _ _ _ _ => False
abbrev E0 : XK := fun _ _ _ => False
theorem pass0 {X : Cx} : Passes CX0 X E0 := fun _ _ _ _ _ _ _ h => h.elim

/-! ### a def (or method) of the text as it stands behind the top -/
structure Fun (K : PySem.W.Frag) (x qual : Str) (st : Stmt) (f : Addr) (fd : FuncData) : Prop where
  ex : ∃ (oc : Value) (od : Option Addr) (kV doc pm : Value) (an : Option Addr) (cdv ct : Value) (osl : Array (Option Value)),
    fd = PySem.W.fnOf x qual (defArgs st) (defBody st) (defScope st) .none kV doc pm an cdv ct ∧ K.lookup f = some ⟨oc, od, .func fd, osl⟩ ∧ PySem.W.codeIn K cdv qual = true
  kp : PySem.W.keepIn K (.ref f) = true
section
variable {P : Program} {w : World} {K : PySem.W.Frag} {mg : Str → Option Value} {base : Heap}
/-- THE RULE for a def: its body as a term of rules, and the reading of that term -/
theorem Fun.ok {x qual : Str} {st : Stmt} {f : Addr} {fd : FuncData} {N ps : List Str} {k : Nat} {sp : Sp} (F : Fun K x qual st f fd) (S : FnScope N ps (defScope st)) (len : ∀ vs H Q E, sp vs H Q E → vs.length = ps.length)
    (hbody : ∀ (cdv : Value) (A : Around) (outer : List Env) (s : Shared) (H : Hp) (vs : List V) (Q : VK) (E : XK), Room k (A.deeper (envOfC qual (defScope st) s.heap.objs.size f cdv)) → sp vs H Q E →
      ∃ t, PSs (cxOf CX0 P w K mg base N qual (defScope st) f cdv A outer s H E).nox (defBody st) t ∧ t { nx := fun _ H' => Q .non H', rt := Q } (start N vs) H) : FnOk P w K mg base CX0 (k + 1) f fd ps sp := by
  obtain ⟨oc, od, kV, doc, pm, an, cdv, ct, osl, rfl, lk, hcd⟩ := F.ex
  refine fn_of lk hcd S len fun A outer s H vs Q E hr hsp => ?_
  obtain ⟨t, h, q⟩ := hbody cdv A outer s H vs Q E hr hsp
  exact ⟨t, h.nox, q⟩
/-- how its arguments bind (no defaults): h is «fun _ _ _ _ _ _ us hl => match us, hl with | [_, _], _ => rfl», one _ a parameter -/
theorem Fun.binds {x qual : Str} {st : Stmt} {f : Addr} {fd : FuncData} {ps : List Str} (F : Fun K x qual st f fd)
    (h : ∀ (kV doc pm : Value) (an : Option Addr) (cdv ct : Value) (us : List Value), us.length = ps.length → bindArgs (PySem.W.fnOf x qual (defArgs st) (defBody st) (defScope st) .none kV doc pm an cdv ct) ⟨us, []⟩ = pure (ps.zip us)) : Binds K fd ps [] := by
  obtain ⟨oc, od, kV, doc, pm, an, cdv, ct, osl, rfl, lk, hcd⟩ := F.ex
  exact .all (h kV doc pm an cdv ct)
theorem fun_mk {x qual : Str} {st : Stmt} {f : Addr} {oc : Value} {od an : Option Addr} {osl : Array (Option Value)} {kV doc pm cdv ct : Value} (l : K.lookup f = some ⟨oc, od, .func (PySem.W.fnOf x qual (defArgs st) (defBody st) (defScope st) .none kV doc pm an cdv ct), osl⟩)
    (c : PySem.W.codeIn K cdv qual = true) (k : PySem.W.keepIn K (.ref f) = true) : Fun K x qual st f (PySem.W.fnOf x qual (defArgs st) (defBody st) (defScope st) .none kV doc pm an cdv ct) := ⟨⟨oc, od, kV, doc, pm, an, cdv, ct, osl, rfl, l, c⟩, k⟩
end

/-! ### expressions in short: the name that stands in the i-th slot -/
section
variable {X : Cx}
theorem pv (i : Nat) {x : Str} {pos : Pos} (hN : X.N[i]? = some x := by rfl) (hv : Vis X.env.scope x := by first | exact Or.inl rfl | exact Or.inr (Or.inl rfl) | exact Or.inr (Or.inr rfl)) (hd : (x == ("__debug__" : Str)) = false := by decide)
    (hcd : (x == ("__classdict__" : Str)) = false := by decide) : PE X (.Name x pos) (tVar i) := pe_var hN hv hd hcd
end

/-! ### tests -/
theorem iteF {A B : Prop} (h : B) : if false = true then A else B := by
  rw [if_neg Bool.false_ne_true]
  exact h
theorem iteT {A B : Prop} (h : A) : if true = true then A else B := by
  rw [if_pos rfl]
  exact h
theorem ite2 {c A B : Prop} [Decidable c] (h1 : c → A) (h2 : ¬ c → B) : if c then A else B := by
  by_cases h : c
  · rw [if_pos h]
    exact h1 h
  · rw [if_neg h]
    exact h2 h

/-! ### heaps -/
/-- all that was tracked is as it was -/
def Same (H H' : Hp) : Prop := ∀ b o, H b = some o → H' b = some o
theorem Same.refl (H : Hp) : Same H H := fun _ _ h => h
theorem Same.trans {H H1 H2 : Hp} (a : Same H H1) (b : Same H1 H2) : Same H H2 := fun c o h => b c o (a c o h)
theorem Same.free {H H' : Hp} (e : Same H H') {l : Addr} (h : H' l = Option.none) : H l = Option.none := by
  cases q : H l with
  | none => rfl
  | some o =>
    rw [e l o q] at h
    cases h
theorem Same.seq {K : PySem.W.Frag} {H H' : Hp} {a : Addr} {xs : List V} (e : Same H H') (h : SqL K H a xs) : SqL K H' a xs := by
  rcases h with (h | ⟨o, h⟩) | h
  · exact .inl (.inl (e _ _ h))
  · exact .inl (.inr ⟨o, e _ _ h⟩)
  · exact .inr h

/-! ### a dict's pairs: keys that differ -/
section
variable {κ : Type} [DecidableEq κ]
end
/-! ### lists -/
theorem at_of {xs : List V} {z : Int} {j : Nat} {v : V} (e : z = (j : Int)) (h : xs[j]? = some v) : atI xs z = some v := by
  rw [e]
  exact atI_nat h
/-- a new instance and its __init__ leave all that was tracked as it was -/
theorem Same.made {H H1 : Hp} {x dx C : Addr} (nx : H x = Option.none) (nd : H dx = Option.none) (k : ∀ b o, (upd (upd H dx (.own x)) x (.ins C dx [])) b = some o → b ≠ x → H1 b = some o) : Same H H1 := fun b o e =>
  k b o (by rw [upd_ne (ne_of_none e nx), upd_ne (ne_of_none e nd)]; exact e) (ne_of_none e nx)
end L2
end
section
set_option Elab.async false
set_option linter.all false
set_option maxRecDepth 100000
set_option maxHeartbeats 2000000
namespace L2
open PySem PySem.Spec PyProof.Rows
open PySem.W (WData Codec OpenSpec Well WellAll ReadsW ReadsAllW)
/-! ### an answer as data -/
mutual
/-- x stands for the datum d, lists and tuples all the way -/
inductive Dw (K : PySem.W.Frag) (H : Hp) : V → WData → Prop
  | non : Dw K H .non .none
  | bl (b : Bool) : Dw K H (.bl b) (.bool b)
  | int (i : Int) : Dw K H (.int i) (.int i)
  | str (x : Str) : Dw K H (.str x) (.str x)
  | byt (b : Array UInt8) : Dw K H (.byt b) (.bytes b.toList)
  | lst {a : Addr} {xs : List V} {ds : List WData} : SqL K H a xs → DwAll K H xs ds → Dw K H (.ref a) (.list ds)
  | tup {a : Addr} {xs : List V} {ds : List WData} : SqT K H a xs → DwAll K H xs ds → Dw K H (.ref a) (.tuple ds)
inductive DwAll (K : PySem.W.Frag) (H : Hp) : List V → List WData → Prop
  | nil : DwAll K H [] []
  | cons {v : V} {vs : List V} {d : WData} {ds : List WData} : Dw K H v d → DwAll K H vs ds → DwAll K H (v :: vs) (d :: ds)
end
theorem dw_ints {K : PySem.W.Frag} {H : Hp} : ∀ ns : List Int, DwAll K H (ns.map V.int) (ns.map WData.int)
  | [] => .nil
  | n :: r => .cons (.int n) (dw_ints r)
theorem ints_dw {K : PySem.W.Frag} {H : Hp} : ∀ (ns : List Int) (xs : List V), DwAll K H xs (ns.map WData.int) → xs = ns.map V.int
  | [], xs, h => by
    cases h
    rfl
  | n :: r, xs, h => by
    cases h with
    | cons h1 h2 =>
      cases h1
      rw [ints_dw r _ h2] <;> rfl
section
variable {P : Program} {w : World} {K : PySem.W.Frag} {H : Hp} {h : Heap} {R : PySem.W.WRecords} {cl : Str → Option Addr}
theorem sqL_at {a : Addr} {xs : List V} (hok : HOk P w H h) (KX : K.In h) (q : SqL K H a xs) : ∃ (its : List Value) (o : Obj) (n : Nat), Vals xs its ∧ h.get? a = some o ∧ o.cls = .type "list" ∧ o.data = .seq its.toArray n := by
  rcases q with q | ⟨o, its, n, e, hc, _, hd, _, hv⟩
  · obtain ⟨_, its, n, hv, e⟩ := (show ObjOk P w H h a (.lst xs) from q.ok hok)
    exact ⟨its, _, n, hv, e, rfl, rfl⟩
  · exact ⟨its.toList, o, n, hv, KX _ _ e, hc, by simp [hd]⟩
theorem sqT_at {a : Addr} {xs : List V} (hok : HOk P w H h) (KX : K.In h) (q : SqT K H a xs) : ∃ (its : List Value) (o : Obj) (n : Nat), Vals xs its ∧ h.get? a = some o ∧ o.cls = .type "tuple" ∧ o.data = .seq its.toArray n := by
  rcases q with q | ⟨o, its, n, e, hc, hd, _, hv⟩
  · obtain ⟨_, its, hv, o, e, hc, n, hd⟩ := (show ObjOk P w H h a (.tup xs) from q.ok hok)
    exact ⟨its, o, n, hv, e, hc, hd⟩
  · exact ⟨its.toList, o, n, hv, KX _ _ e, hc, by simp [hd]⟩
mutual
theorem Dw.reads (hok : HOk P w H h) (KX : K.In h) : ∀ (d : WData) (v : V) (u : Value), Dw K H v d → RelV v u → ∃ as, ReadsW R cl h u d as
  | .none, _, _, x, r => by
    cases x
    cases r
    exact ⟨_, ReadsW.none⟩
  | .bool b, _, _, x, r => by
    cases x
    cases r
    exact ⟨_, ReadsW.bool b⟩
  | .int i, _, _, x, r => by
    cases x
    obtain ⟨t, rfl⟩ := r
    exact ⟨_, ReadsW.int i t⟩
  | .str s, _, _, x, r => by
    cases x
    obtain ⟨t, rfl⟩ := r
    exact ⟨_, ReadsW.str s t⟩
  | .bytes b, _, _, x, r => by
    cases x
    obtain ⟨t, rfl⟩ := r
    exact ⟨_, ReadsW.bytes _ t⟩
  | .list ds, _, _, x, r => by
    cases x with
    | lst hs ha =>
      cases r
      obtain ⟨its, o, n, rv, ho, hc, hd⟩ := sqL_at hok KX hs
      obtain ⟨as, hr⟩ := Dw.readsAll hok KX ds _ its ha rv
      exact ⟨_, ReadsW.list ho hc hd hr⟩
  | .tuple ds, _, _, x, r => by
    cases x with
    | tup hs ha =>
      cases r
      obtain ⟨its, o, n, rv, ho, hc, hd⟩ := sqT_at hok KX hs
      obtain ⟨as, hr⟩ := Dw.readsAll hok KX ds _ its ha rv
      exact ⟨_, ReadsW.tuple ho hc hd hr⟩
  | .float _, _, _, x, _ => by cases x
  | .dict _, _, _, x, _ => by cases x
  | .bytearray _, _, _, x, _ => by cases x
  | .set _, _, _, x, _ => by cases x
  | .frozenset _, _, _, x, _ => by cases x
  | .obj _ _, _, _, x, _ => by cases x
theorem Dw.readsAll (hok : HOk P w H h) (KX : K.In h) : ∀ (ds : List WData) (vs : List V) (us : List Value), DwAll K H vs ds → Vals vs us → ∃ as, ReadsAllW R cl h us ds as
  | [], _, _, x, r => by
    cases x
    cases r
    exact ⟨_, ReadsAllW.nil⟩
  | d :: ds, _, _, x, r => by
    cases x with
    | cons h1 h2 =>
      cases r with
      | cons r1 r2 =>
        obtain ⟨as, q1⟩ := Dw.reads hok KX d _ _ h1 r1
        obtain ⟨bs, q2⟩ := Dw.readsAll hok KX ds _ _ h2 r2
        exact ⟨_, ReadsAllW.cons q1 q2⟩
end
end
/-! ### the arguments -/
mutual
/-- data that a codec tells -/
def plW : WData → Bool
  | .none => true
  | .bool _ => true
  | .int _ => true
  | .str _ => true
  | .bytes _ => true
  | .list xs => plWs xs
  | .tuple xs => plWs xs
  | _ => false
def plWs : List WData → Bool
  | [] => true
  | x :: r => plW x && plWs r
end
theorem plWs_map {α : Type} {f : α → WData} (h : ∀ a, plW (f a) = true) : ∀ l : List α, plWs (l.map f) = true
  | [] => rfl
  | x :: r => by
    show (plW (f x) && plWs (r.map f)) = true
    rw [h x, plWs_map h r] <;> rfl
theorem pl_enc : ∀ (c : Codec) (a : c.denote), plW (c.enc a) = true
  | .unit, _ => rfl
  | .bool, _ => rfl
  | .int _ _, _ => rfl
  | .nat _ _, _ => rfl
  | .u8, _ => rfl
  | .bytes _ _, _ => rfl
  | .text _ _ _ _, _ => rfl
  | .list _ _ c, a => plWs_map (fun x => pl_enc c x) a
  | .pair c d, a => by
    show (plW (c.enc a.1) && (plW (d.enc a.2) && true)) = true
    rw [pl_enc c a.1, pl_enc d a.2] <;> rfl
  | .triple c d e, a => by
    show (plW (c.enc a.1) && (plW (d.enc a.2.1) && (plW (e.enc a.2.2) && true))) = true
    rw [pl_enc c a.1, pl_enc d a.2.1, pl_enc e a.2.2] <;> rfl
  | .option c, none => rfl
  | .option c, some x => pl_enc c x
theorem pl_encAll : ∀ (cs : List Codec) (a : Codec.denoteAll cs), plWs (Codec.encAll cs a) = true
  | [], _ => rfl
  | c :: cs, a => by
    show (plW (c.enc a.1) && plWs (Codec.encAll cs a.2)) = true
    rw [pl_enc c a.1, pl_encAll cs a.2] <;> rfl
theorem weight_mem : ∀ {xs : List WData} {d : WData}, d ∈ xs → d.weight ≤ WData.weightAll xs
  | [], d, h => absurd h (by simp)
  | x :: r, d, h => by
    show d.weight ≤ x.weight + 1 + WData.weightAll r
    rcases List.mem_cons.mp h with e | m
    · rw [e]
      omega
    · have z := weight_mem m
      omega
def toV : Value → V
  | .none => .non
  | .bool b => .bl b
  | .int i _ => .int i
  | .str x _ => .str x
  | .bytes b _ => .byt b
  | .ref a => .ref a
  | _ => .non
/-- a value of the arguments, its objects among A -/
def OkU (A : List Addr) : Value → Prop
  | .none => True
  | .bool _ => True
  | .int _ _ => True
  | .str _ _ => True
  | .bytes _ _ => True
  | .ref a => a ∈ A
  | _ => False
theorem OkU.mono {A B : List Addr} (h : ∀ a ∈ A, a ∈ B) : ∀ {u : Value}, OkU A u → OkU B u := fun {u} x => by
  cases u with
  | ref a => exact h a x
  | none => trivial
  | bool b => trivial
  | int i t => trivial
  | str s t => trivial
  | bytes b t => trivial
  | _ => exact False.elim x
theorem relV_toV {A : List Addr} {u : Value} (x : OkU A u) : RelV (toV u) u := by
  cases u with
  | ref a => rfl
  | none => rfl
  | bool b => rfl
  | int i t => exact ⟨t, rfl⟩
  | str s t => exact ⟨t, rfl⟩
  | bytes b t => exact ⟨t, rfl⟩
  | _ => exact False.elim x
theorem vals_toV {A : List Addr} : ∀ {vs : List Value}, (∀ u ∈ vs, OkU A u) → Vals (vs.map toV) vs
  | [], _ => .nil
  | u :: r, h => .cons (relV_toV (h u (List.mem_cons_self ..))) (vals_toV fun x hx => h x (List.mem_cons_of_mem _ hx))
/-- an object of the arguments -/
def ArgOb (h : Heap) (A : List Addr) (a : Addr) : Prop := ∃ vs : List Value, vs.length ≤ sizeLine ∧ (∀ u ∈ vs, OkU A u) ∧
  (h.get? a = some { cls := .type "list", data := .seq vs.toArray } ∨ h.get? a = some { cls := .type "tuple", data := .seq vs.toArray })
theorem ArgOb.mono {h : Heap} {A B : List Addr} {a : Addr} (k : ∀ a ∈ A, a ∈ B) (x : ArgOb h A a) : ArgOb h B a := by
  obtain ⟨vs, h1, h2, h3⟩ := x
  exact ⟨vs, h1, fun u hu => (h2 u hu).mono k, h3⟩
theorem wellAll_len {P : Params} {h : Heap} : ∀ {vs : List Value} {ds : List WData}, WellAll P h vs ds → vs.length = ds.length
  | _, _, .nil => rfl
  | _, _, .cons _ b => by
    show _ + 1 = _ + 1
    rw [wellAll_len b]
theorem well_list {P : Params} {h : Heap} {v : Value} {ds : List WData} (x : Well P h v (.list ds)) : ∃ (a : Addr) (vs : List Value), v = .ref a ∧ h.get? a = some { cls := .type "list", data := .seq vs.toArray } ∧ WellAll P h vs ds := by
  cases x with
  | list ho hall => exact ⟨_, _, rfl, ho, hall⟩
theorem well_tuple {P : Params} {h : Heap} {v : Value} {ds : List WData} (x : Well P h v (.tuple ds)) : ∃ (a : Addr) (vs : List Value), v = .ref a ∧ h.get? a = some { cls := .type "tuple", data := .seq vs.toArray } ∧ WellAll P h vs ds := by
  cases x with
  | tuple ho hall => exact ⟨_, _, rfl, ho, hall⟩
theorem well_cons {P : Params} {h : Heap} {us : List Value} {d : WData} {ds : List WData} (x : WellAll P h us (d :: ds)) : ∃ (v : Value) (vs : List Value), us = v :: vs ∧ Well P h v d ∧ WellAll P h vs ds := by
  cases x with
  | cons a b => exact ⟨_, _, rfl, a, b⟩
theorem line_of {n : Nat} (h : n ≤ 1048576) : n ≤ sizeLine := Nat.le_trans h (by decide)
section
variable {P : Params} {h : Heap}
mutual
theorem area_one : ∀ (d : WData) (v : Value), Well P h v d → plW d = true → d.weight ≤ 1048576 → ∃ A : List Addr, OkU A v ∧ ∀ a ∈ A, ArgOb h A a
  | .none, _, x, _, _ => by
    cases x
    exact ⟨[], trivial, fun a m => absurd m (by simp)⟩
  | .bool b, _, x, _, _ => by
    cases x
    exact ⟨[], trivial, fun a m => absurd m (by simp)⟩
  | .int i, _, x, _, _ => by
    cases x
    exact ⟨[], trivial, fun a m => absurd m (by simp)⟩
  | .str s, _, x, _, _ => by
    cases x
    exact ⟨[], trivial, fun a m => absurd m (by simp)⟩
  | .bytes b, _, x, _, _ => by
    cases x
    exact ⟨[], trivial, fun a m => absurd m (by simp)⟩
  | .list ds, _, x, p, z => by
    obtain ⟨a, vs, rfl, ho, hall⟩ := well_list x
    have z2 : WData.weightAll ds ≤ 1048576 := z
    obtain ⟨A, h1, h2⟩ := area_all ds _ hall p fun d hd => Nat.le_trans (weight_mem hd) z2
    have k : ∀ b ∈ A, b ∈ a :: A := fun b hb => List.mem_cons_of_mem _ hb
    refine ⟨a :: A, List.mem_cons_self .., fun b hb => ?_⟩
    rcases List.mem_cons.mp hb with e | m
    · rw [e]
      exact ⟨vs, line_of (by rw [wellAll_len hall]; exact Nat.le_trans (PySem.W.length_le_weightAllW ds) z2), fun u hu => (h1 u hu).mono k, .inl ho⟩
    · exact (h2 b m).mono k
  | .tuple ds, _, x, p, z => by
    obtain ⟨a, vs, rfl, ho, hall⟩ := well_tuple x
    have z2 : WData.weightAll ds ≤ 1048576 := z
    obtain ⟨A, h1, h2⟩ := area_all ds _ hall p fun d hd => Nat.le_trans (weight_mem hd) z2
    have k : ∀ b ∈ A, b ∈ a :: A := fun b hb => List.mem_cons_of_mem _ hb
    refine ⟨a :: A, List.mem_cons_self .., fun b hb => ?_⟩
    rcases List.mem_cons.mp hb with e | m
    · rw [e]
      exact ⟨vs, line_of (by rw [wellAll_len hall]; exact Nat.le_trans (PySem.W.length_le_weightAllW ds) z2), fun u hu => (h1 u hu).mono k, .inr ho⟩
    · exact (h2 b m).mono k
  | .float _, _, _, p, _ => Bool.noConfusion (show false = true from p)
  | .dict _, _, _, p, _ => Bool.noConfusion (show false = true from p)
  | .bytearray _, _, _, p, _ => Bool.noConfusion (show false = true from p)
  | .set _, _, _, p, _ => Bool.noConfusion (show false = true from p)
  | .frozenset _, _, _, p, _ => Bool.noConfusion (show false = true from p)
  | .obj _ _, _, _, p, _ => Bool.noConfusion (show false = true from p)
theorem area_all : ∀ (ds : List WData) (vs : List Value), WellAll P h vs ds → plWs ds = true → (∀ d ∈ ds, d.weight ≤ 1048576) → ∃ A : List Addr, (∀ u ∈ vs, OkU A u) ∧ ∀ a ∈ A, ArgOb h A a
  | [], _, x, _, _ => by
    cases x
    exact ⟨[], fun u m => absurd m (by simp), fun a m => absurd m (by simp)⟩
  | d :: ds, _, x, p, z => by
    obtain ⟨v, vs, rfl, x1, x2⟩ := well_cons x
    have q : plW d = true ∧ plWs ds = true := Bool.and_eq_true_iff.mp p
    obtain ⟨A, a1, a2⟩ := area_one d v x1 q.1 (z d (List.mem_cons_self ..))
    obtain ⟨B, b1, b2⟩ := area_all ds vs x2 q.2 fun e he => z e (List.mem_cons_of_mem _ he)
    have kA : ∀ b ∈ A, b ∈ A ++ B := fun b hb => List.mem_append.mpr (.inl hb)
    have kB : ∀ b ∈ B, b ∈ A ++ B := fun b hb => List.mem_append.mpr (.inr hb)
    refine ⟨A ++ B, fun u hu => ?_, fun b hb => ?_⟩
    · rcases List.mem_cons.mp hu with e | m
      · rw [e]
        exact a1.mono kA
      · exact (b1 u m).mono kB
    · rcases List.mem_append.mp hb with m | m
      · exact (a2 b m).mono kA
      · exact (b2 b m).mono kB
end
end
/-- what is tracked of an argument's object -/
def hoOf (o : Obj) : Option HO := match o.data with
  | .seq vs _ => if (o.cls == Value.type "list") = true then some (.frz o (.lst (vs.toList.map toV))) else some (.frz o (.tup (vs.toList.map toV)))
  | _ => none
def argH (K : PySem.W.Frag) (h : Heap) (A : List Addr) : Hp := fun b => if b ∈ A then (if (K.lookup b).isNone = true then (h.get? b).bind hoOf else none) else none
/-- nothing is tracked but what is known to the object -/
def OnlyF (H : Hp) : Prop := ∀ b, H b = none ∨ ∃ o u, H b = some (.frz o u)
theorem hoOf_lst (vs : List Value) : hoOf { cls := .type "list", data := .seq vs.toArray } = some (.frz { cls := .type "list", data := .seq vs.toArray } (.lst (vs.map toV))) := by
  show (if (Value.type "list" == Value.type "list") = true then some (HO.frz { cls := .type "list", data := .seq vs.toArray } (.lst (vs.toArray.toList.map toV))) else some (HO.frz { cls := .type "list", data := .seq vs.toArray } (.tup (vs.toArray.toList.map toV)))) = _
  rw [if_pos (beq_self_eq_true _)]
theorem hoOf_tup (vs : List Value) : hoOf { cls := .type "tuple", data := .seq vs.toArray } = some (.frz { cls := .type "tuple", data := .seq vs.toArray } (.tup (vs.map toV))) := by
  show (if (Value.type "tuple" == Value.type "list") = true then some (HO.frz { cls := .type "tuple", data := .seq vs.toArray } (.lst (vs.toArray.toList.map toV))) else some (HO.frz { cls := .type "tuple", data := .seq vs.toArray } (.tup (vs.toArray.toList.map toV)))) = _
  rw [if_neg (by decide)]
section
variable {P : Program} {w : World} {K : PySem.W.Frag} {h : Heap} {A : List Addr}
theorem argH_at {b : Addr} {o : Obj} (hb : b ∈ A) (hk : K.lookup b = none) (e : h.get? b = some o) : argH K h A b = hoOf o := by
  unfold argH
  rw [if_pos hb, hk, if_pos (show (none : Option Obj).isNone = true from rfl), e] <;> rfl
theorem of_argH {b : Addr} {u : HO} (q : argH K h A b = some u) : b ∈ A ∧ K.lookup b = none := by
  unfold argH at q
  by_cases hb : b ∈ A
  · rw [if_pos hb] at q
    cases hk : K.lookup b with
    | none => exact ⟨hb, rfl⟩
    | some o =>
      rw [hk, if_neg (by simp)] at q
      cases q
  · rw [if_neg hb] at q
    cases q
/-- what stands tracked -/
theorem argH_is (ar : ∀ a ∈ A, ArgOb h A a) {b : Addr} {u : HO} (q : argH K h A b = some u) : K.lookup b = none ∧ ∃ vs : List Value, vs.length ≤ sizeLine ∧ (∀ u ∈ vs, OkU A u) ∧
    ((h.get? b = some { cls := .type "list", data := .seq vs.toArray } ∧ u = .frz { cls := .type "list", data := .seq vs.toArray } (.lst (vs.map toV))) ∨
     (h.get? b = some { cls := .type "tuple", data := .seq vs.toArray } ∧ u = .frz { cls := .type "tuple", data := .seq vs.toArray } (.tup (vs.map toV)))) := by
  obtain ⟨hb, hk⟩ := of_argH q
  obtain ⟨vs, h1, h2, h3⟩ := ar b hb
  refine ⟨hk, vs, h1, h2, ?_⟩
  rcases h3 with e | e
  · rw [argH_at hb hk e, hoOf_lst] at q
    exact .inl ⟨e, (Option.some.inj q).symm⟩
  · rw [argH_at hb hk e, hoOf_tup] at q
    exact .inr ⟨e, (Option.some.inj q).symm⟩
theorem argH_only (ar : ∀ a ∈ A, ArgOb h A a) : OnlyF (argH K h A) := fun b => by
  cases q : argH K h A b with
  | none => exact .inl rfl
  | some u =>
    obtain ⟨_, vs, _, _, ⟨_, e⟩ | ⟨_, e⟩⟩ := argH_is ar q
    · exact .inr ⟨_, _, by rw [e]⟩
    · exact .inr ⟨_, _, by rw [e]⟩
theorem argH_ok (ar : ∀ a ∈ A, ArgOb h A a) : HOk P w (argH K h A) h := fun b u q => by
  obtain ⟨_, vs, h1, h2, ⟨e, rfl⟩ | ⟨e, rfl⟩⟩ := argH_is ar q
  · exact ⟨e, by rw [List.length_map]; exact h1, vs, _, vals_toV h2, e⟩
  · exact ⟨e, by rw [List.length_map]; exact h1, vs, vals_toV h2, _, e, rfl, _, rfl⟩
theorem seq_inj {c c' : Value} {vs us : List Value} (e : (some { cls := c, data := .seq vs.toArray } : Option Obj) = some { cls := c', data := .seq us.toArray }) : c = c' ∧ vs = us := by
  have e1 := Option.some.inj e
  have e2 : c = c' := congrArg Obj.cls e1
  have e3 : Data.seq vs.toArray = Data.seq us.toArray := congrArg Obj.data e1
  injection e3 with e4
  refine ⟨e2, ?_⟩
  have e5 := congrArg Array.toList e4
  simpa using e5
/-- a list argument -/
theorem argL (KX : K.In h) (ar : ∀ a ∈ A, ArgOb h A a) {a : Addr} {vs : List Value} (ha : a ∈ A) (e : h.get? a = some { cls := .type "list", data := .seq vs.toArray }) : (∀ u ∈ vs, OkU A u) ∧ SqL K (argH K h A) a (vs.map toV) := by
  obtain ⟨us, h1, h2, h3⟩ := ar a ha
  have hu : us = vs := by
    rcases h3 with q | q
    · rw [e] at q
      exact (seq_inj q).2.symm
    · rw [e] at q
      exact absurd (Value.type.inj (seq_inj q).1) (by decide)
  subst hu
  refine ⟨h2, ?_⟩
  cases hk : K.lookup a with
  | none => exact .inl (.inr ⟨_, by rw [argH_at ha hk e, hoOf_lst]⟩)
  | some o =>
    have e2 := KX a o hk
    rw [e] at e2
    obtain rfl := Option.some.inj e2
    exact .inr ⟨_, us.toArray, _, hk, rfl, rfl, rfl, by rw [List.size_toArray]; exact h1, by simpa using vals_toV h2⟩
theorem argT (KX : K.In h) (ar : ∀ a ∈ A, ArgOb h A a) {a : Addr} {vs : List Value} (ha : a ∈ A) (e : h.get? a = some { cls := .type "tuple", data := .seq vs.toArray }) : (∀ u ∈ vs, OkU A u) ∧ SqT K (argH K h A) a (vs.map toV) := by
  obtain ⟨us, h1, h2, h3⟩ := ar a ha
  have hu : us = vs := by
    rcases h3 with q | q
    · rw [e] at q
      exact absurd (Value.type.inj (seq_inj q).1) (by decide)
    · rw [e] at q
      exact (seq_inj q).2.symm
  subst hu
  refine ⟨h2, ?_⟩
  cases hk : K.lookup a with
  | none => exact .inl (.inr ⟨_, by rw [argH_at ha hk e, hoOf_tup]⟩)
  | some o =>
    have e2 := KX a o hk
    rw [e] at e2
    obtain rfl := Option.some.inj e2
    exact .inr ⟨_, us.toArray, _, hk, rfl, rfl, by rw [List.size_toArray]; exact h1, by simpa using vals_toV h2⟩
mutual
theorem dw_one {Pm : Params} (KX : K.In h) (ar : ∀ a ∈ A, ArgOb h A a) : ∀ (d : WData) (v : Value), Well Pm h v d → plW d = true → OkU A v → Dw K (argH K h A) (toV v) d
  | .none, _, x, _, _ => by
    cases x
    exact .non
  | .bool b, _, x, _, _ => by
    cases x
    exact .bl b
  | .int i, _, x, _, _ => by
    cases x
    exact .int i
  | .str s, _, x, _, _ => by
    cases x
    exact .str s
  | .bytes b, _, x, _, _ => by
    cases x
    have z := Dw.byt (K := K) (H := argH K h A) b.toArray
    exact z
  | .list ds, _, x, p, hu => by
    obtain ⟨a, vs, rfl, ho, hall⟩ := well_list x
    obtain ⟨h2, hs⟩ := argL KX ar hu ho
    exact .lst hs (dw_all KX ar ds _ hall p h2)
  | .tuple ds, _, x, p, hu => by
    obtain ⟨a, vs, rfl, ho, hall⟩ := well_tuple x
    obtain ⟨h2, hs⟩ := argT KX ar hu ho
    exact .tup hs (dw_all KX ar ds _ hall p h2)
  | .float _, _, _, p, _ => Bool.noConfusion (show false = true from p)
  | .dict _, _, _, p, _ => Bool.noConfusion (show false = true from p)
  | .bytearray _, _, _, p, _ => Bool.noConfusion (show false = true from p)
  | .set _, _, _, p, _ => Bool.noConfusion (show false = true from p)
  | .frozenset _, _, _, p, _ => Bool.noConfusion (show false = true from p)
  | .obj _ _, _, _, p, _ => Bool.noConfusion (show false = true from p)
theorem dw_all {Pm : Params} (KX : K.In h) (ar : ∀ a ∈ A, ArgOb h A a) : ∀ (ds : List WData) (vs : List Value), WellAll Pm h vs ds → plWs ds = true → (∀ u ∈ vs, OkU A u) → DwAll K (argH K h A) (vs.map toV) ds
  | [], _, x, _, _ => by
    cases x
    exact .nil
  | d :: ds, _, x, p, hu => by
    obtain ⟨v, vs, rfl, x1, x2⟩ := well_cons x
    have q : plW d = true ∧ plWs ds = true := Bool.and_eq_true_iff.mp p
    exact .cons (dw_one KX ar d v x1 q.1 (hu _ (List.mem_cons_self ..))) (dw_all KX ar ds vs x2 q.2 fun u m => hu u (List.mem_cons_of_mem _ m))
end
end
/-! ### the call -/
theorem spec_call {P : Program} {w : World} {K : PySem.W.Frag} {mg mb : Str → Option Value} {CX : CXT} {k : Nat} {fa : Addr} {fd : FuncData} {ps : List Str} {sp : Sp} {s₁ : Shared} {vals : List Value} {ds : List WData} {R : PySem.W.WRecords} {cl : Str → Option Addr} {d0 : WData}
    (KX : K.In s₁.heap) (hns : s₁.heap.Ns mainGlobals mg) (hb : s₁.heap.Ns builtinsNs mb) (hbb : ∀ x : Str, x ≠ "__name__" → mb x = bootBuiltins x) (hlim : s₁.heap.NoLimit) (hg : s₁.gens = #[])
    (hwl : WellAll w.params s₁.heap vals ds) (hpl : plWs ds = true) (hwt : ∀ d ∈ ds, d.weight ≤ 1048576) (hr : Room k callerA)
    (F : ∀ base : Heap, K.In base → base.Ns mainGlobals mg → FnOk P w K mg base CX k fa fd ps sp) (hbind : ∀ (s : Shared) (us : List Value), us.length = ps.length → BindsTo s fd ⟨us, []⟩ (ps.zip us)) (hlen : ds.length = ps.length)
    (hsp : ∀ (H : Hp) (xs : List V), OnlyF H → DwAll K H xs ds → sp xs H (fun v H' => Dw K H' v d0) fun _ _ _ => False)
    (hCX : ∀ H e s', CX [] H s₁ (fun _ _ _ => False) e s' → False) :
    codeAny (model P w) callerA (.call (.ref fa) ⟨vals, []⟩) (fun r s' => ∃ u as, r = .ok (.ret u) ∧ ReadsW R cl s'.heap u d0 as ∧ OldK s₁.heap s'.heap ∧ s'.os = s₁.os ∧ AllBare s'.gens) s₁ := by
  obtain ⟨A, ho, ar⟩ := area_all ds vals hwl hpl hwt
  have hO : OnlyF (argH K s₁.heap A) := argH_only ar
  have hok : HOk P w (argH K s₁.heap A) s₁.heap := argH_ok ar
  have hS := dw_all KX ar ds vals hwl hpl ho
  have hV := vals_toV ho
  have hK : ∀ b u, argH K s₁.heap A b = some u → K.lookup b = none := fun b u q => (argH_is ar q).1
  have noA : ∀ {b : Addr} {o : Obj} {es : Array DictEntry} {ep : Nat}, s₁.heap.get? b = some o → o.data = .dict es ep → argH K s₁.heap A b = none := fun {b o es ep} e d => by
    cases q : argH K s₁.heap A b with
    | none => rfl
    | some u =>
      obtain ⟨_, vs, _, _, ⟨e2, _⟩ | ⟨e2, _⟩⟩ := argH_is ar q
      · rw [e2] at e
        cases e
        have d' : Data.seq vs.toArray _ = Data.dict es ep := d
        cases d'
      · rw [e2] at e
        cases e
        have d' : Data.seq vs.toArray _ = Data.dict es ep := d
        cases d'
  generalize argH K s₁.heap A = H at hO hok hS hK noA
  have base_of : ∀ {b : Addr} {o : Obj}, s₁.heap.get? b = some o → H b = none → (hidT s₁.heap H).get? b = some o := fun e n => hidT_get e n
  have nsK : ∀ {b : Addr} {m : Str → Option Value}, s₁.heap.Ns b m → (hidT s₁.heap H).Ns b m := fun {b m} ⟨o, es, ep, e, d, r⟩ => ⟨o, es, ep, base_of e (noA e d), d, r⟩
  have nK : ∀ b o, K.lookup b = some o → H b = none := fun b o e => by
    cases q : H b with
    | none => rfl
    | some u =>
      rw [hK b u q] at e
      cases e
  have hKb : K.In (hidT s₁.heap H) := fun b o e => base_of (KX b o e) (nK b o e)
  have hM : Mod K mg (hidT s₁.heap H) := ⟨hKb, nsK hns, ⟨mb, nsK hb, hbb⟩, let ⟨mc, h1, h2⟩ := hlim; ⟨mc, nsK h1, h2⟩⟩
  have e0 : Env0 P w K mg (hidT s₁.heap H) callerA [] s₁ H := ⟨rfl, hM, fun b o e => of_hidT e, Nat.le_of_eq (hidT_size _ _), trivial, fun b hb => absurd (show b ∈ ([] : List Addr) from hb) (by simp), hok, .of_eq hg⟩
  have hl : vals.length = ps.length := by rw [wellAll_len hwl]; exact hlen
  refine codeAny_mono ((F _ hKb (nsK hns)).run callerA [] s₁ H ⟨vals, []⟩ vals (vals.map toV) _ _ hr e0 (hbind s₁ vals hl) hV (hsp H _ hO hS)) fun r s' x => ?_
  cases r with
  | error e => exact (hCX H e s' x).elim
  | ok fl =>
    cases fl with
    | next => exact False.elim x
    | brk => exact False.elim x
    | cont => exact False.elim x
    | ret u =>
      obtain ⟨v, H', os, bare, un, hok', r', q⟩ := x
      have kept : ∀ b o, s₁.heap.get? b = some o → s'.heap.get? b = some o := fun b o e => by
        cases q2 : H b with
        | none => exact un.keep b o e q2 (by intro z; exact absurd (show b ∈ ([] : List Addr) from z) (by simp)) (by simp)
        | some u2 =>
          rcases hO b with z | ⟨ob, u3, z⟩
          · rw [q2] at z
            cases z
          · have z2 := un.frzs b ob _ z
            obtain ⟨e1, _⟩ := hok b _ z
            obtain ⟨e2, _⟩ := hok' b _ z2
            rw [e] at e1
            cases e1
            exact e2
      have KX' : K.In s'.heap := fun b o e => kept b o (KX b o e)
      obtain ⟨as, hrd⟩ := Dw.reads (R := R) (cl := cl) hok' KX' d0 v u q r'
      exact ⟨u, as, rfl, hrd, OldK.of_keep kept, os, bare⟩
/-! ### the row -/
theorem layable_weight {ds : List WData} (h : WData.layableAll ds = true) : ∀ d ∈ ds, d.weight ≤ 1048576 := fun d hd =>
  (PySem.W.layableW_iff.mp (List.all_eq_true.mp h d hd)).2.2
theorem encAll_len : ∀ (cs : List Codec) (a : Codec.denoteAll cs), (Codec.encAll cs a).length = cs.length
  | [], _ => rfl
  | c :: cs, a => by
    show (Codec.encAll cs a.2).length + 1 = cs.length + 1
    rw [encAll_len cs a.2]
/-- the goal that k_headS leaves (case hc), from the promise of the row's def: whatever the arguments that the codecs let and the row asks for, the def gives what stands for enc (f ..) -/
theorem walk_spec {r : OpenSpec} {k : Nat} {q : Program} {loose : List Str} {XP : (Str → Option Value) → Heap → Prop} {YP : World → Heap → Prop} {d : DefRec} {K : Params → PySem.W.Frag} {CX : World → CXT} {ps : List Str} {sp : World → Sp}
    (hwell : r.wellSaid = true) (hdf : d.params.defaults = []) (hlen : r.args.length = ps.length) (hr : Room k callerA)
    (hY : ∀ (w : World) (h : Heap), YP w h → (K w.params).In h)
    (F : ∀ (w : World) (mg : Str → Option Value) (fa : Addr) (h : Heap), YP w h → (K w.params).In h → h.Ns mainGlobals mg → mg d.name = some (.ref fa) →
      ∃ fd : FuncData, (∀ (s : Shared) (us : List Value), us.length = ps.length → BindsTo s fd ⟨us, []⟩ (ps.zip us)) ∧
        ∀ base : Heap, (K w.params).In base → base.Ns mainGlobals mg → FnOk r.prog w (K w.params) mg base (CX w) k fa fd ps (sp w))
    (hsp : ∀ (w : World) (H : Hp) (xs : List V) (a : Codec.denoteAll r.args), OnlyF H → Codec.withinAll r.args a = true → Codec.app r.args r.asked a = true → DwAll (K w.params) H xs (Codec.encAll r.args a) →
      sp w xs H (fun v H' => Dw (K w.params) H' v (r.ret.enc (Codec.app r.args r.f a))) fun _ _ _ => False)
    (hCX : ∀ (w : World) (H : Hp) (s : Shared) (e : Value) (s' : Shared), CX w [] H s (fun _ _ _ => False) e s' → False) :
    PySem.W.WalkOS q loose XP YP r d [] (fun f vs => PySem.call f vs) := by
  intro w s_0 s₁ mg mb G Y fa o pm cd doc dV kV ho hd hcd hD hmg hg args vals as hpre hlay hrd hwl hlo
  obtain ⟨a, e1, e2⟩ := PySem.W.os_pre_some hpre
  obtain ⟨e3, hwi⟩ := Codec.encAll_of_decAll r.args args a e1
  subst e3
  have KX := hY w _ Y
  obtain ⟨fd, hb, hF⟩ := F w mg fa _ Y KX G.T.g hmg
  refine PySem.W.enter_call (codeAny_mono (spec_call (R := []) (cl := classAt s_0.heap) (d0 := r.ret.enc (Codec.app r.args r.f a)) KX G.T.g G.T.b G.T.builtins G.T.nolimit hg hwl (pl_encAll _ _) (layable_weight hlay) hr hF hb (by rw [encAll_len]; exact hlen)
    (fun H xs hO hS => hsp w H xs a hO hwi e2 hS) fun H e s' => hCX w H s₁ e s') fun r' s' hq => ?_)
  obtain ⟨u, as', rfl, h1, h2, h3, h4⟩ := hq
  exact ⟨.inl ⟨u, _, as', rfl, fun _ => rfl, h1, (OpenSpec.post_iff hwell hwi _ _).mpr rfl, fun z => Bool.noConfusion (show false = true from z)⟩, h2, h3, h4⟩
/-- the same where the promise hangs on the written part alone -/
theorem walk_specK {r : OpenSpec} {k : Nat} {q : Program} {loose : List Str} {XP : (Str → Option Value) → Heap → Prop} {YP : World → Heap → Prop} {d : DefRec} {K : Params → PySem.W.Frag} {CX : CXT} {ps : List Str} {sp : PySem.W.Frag → Sp}
    (hwell : r.wellSaid = true) (hdf : d.params.defaults = []) (hlen : r.args.length = ps.length) (hr : Room k callerA)
    (hY : ∀ (w : World) (h : Heap), YP w h → (K w.params).In h)
    (F : ∀ (w : World) (mg : Str → Option Value) (fa : Addr) (h : Heap), YP w h → (K w.params).In h → h.Ns mainGlobals mg → mg d.name = some (.ref fa) →
      ∃ fd : FuncData, (∀ (s : Shared) (us : List Value), us.length = ps.length → BindsTo s fd ⟨us, []⟩ (ps.zip us)) ∧
        ∀ base : Heap, (K w.params).In base → base.Ns mainGlobals mg → FnOk r.prog w (K w.params) mg base CX k fa fd ps (sp (K w.params)))
    (hsp : ∀ (K : PySem.W.Frag) (H : Hp) (xs : List V) (a : Codec.denoteAll r.args), OnlyF H → Codec.withinAll r.args a = true → Codec.app r.args r.asked a = true → DwAll K H xs (Codec.encAll r.args a) →
      sp K xs H (fun v H' => Dw K H' v (r.ret.enc (Codec.app r.args r.f a))) fun _ _ _ => False)
    (hCX : ∀ (H : Hp) (s : Shared) (e : Value) (s' : Shared), CX [] H s (fun _ _ _ => False) e s' → False) :
    PySem.W.WalkOS q loose XP YP r d [] (fun f vs => PySem.call f vs) :=
  walk_spec (K := K) (CX := fun _ => CX) (sp := fun w => sp (K w.params)) hwell hdf hlen hr hY F (fun w H xs a h1 h2 h3 h4 => hsp (K w.params) H xs a h1 h2 h3 h4) fun _ H s e s' => hCX H s e s'
end L2
-- rests on (row put in by the clerk, for the bench that shows a file only what it spells): KE.SpHead KE.OsShapes
end
section
set_option Elab.async false
set_option linter.all false
set_option maxRecDepth 100000
set_option maxHeartbeats 2000000
namespace L2
open PySem PySem.Spec PyProof.Rows

theorem Same.new {H : Hp} {p : Addr} {o : HO} (h : H p = none) : Same H (upd H p o) := fun b u e => by
  rw [upd_ne (ne_of_none e h)]
  exact e
theorem take_succ_of {α : Type} : ∀ {l : List α} {i : Nat} {x : α}, l[i]? = some x → l.take (i + 1) = l.take i ++ [x]
  | [], i, x, h => by simp at h
  | a :: l, 0, x, h => by
    have e : a = x := Option.some.inj h
    subst e
    rfl
  | a :: l, i + 1, x, h => by
    have ih := take_succ_of (l := l) (i := i) (x := x) h
    show a :: l.take (i + 1) = a :: l.take i ++ [x]
    rw [ih]
    rfl
/-- a comprehension without tests over a list, its element a plain value -/
theorem lcp_list {K : PySem.W.Frag} {a : Addr} {xs ys : List V} {j : Nat} {te : TE} {vs : List Nat} {σ : St} {H : Hp} {D : Addr} {Qd : Hp → Prop} (hD : H D = none)
    (hx : SqL K H a xs) (hl : ys.length = xs.length) (hz : ys.length ≤ sizeLine) (hw : ∀ x, wipe ((wipe σ vs).set j (some x)) vs = wipe σ vs)
    (he : ∀ (i : Nat) (x y : V) (H' : Hp) (Q' : VK), xs[i]? = some x → ys[i]? = some y → Same H H' → Q' y H' → te ((wipe σ vs).set j (some x)) H' Q')
    (hQ : Qd (upd H D (.lst ys))) :
    ∃ W : Nat → Nat → Hp → Prop, (∃ m, W 0 m (upd H D (.lst []))) ∧ ∀ i m H', W i m H' →
      ((Itl K a).stop i H' ∧ Qd H') ∨ ((Itl K a).go i H' ∧ ∃ Nx : Hp → Prop, (∀ H'', Nx H'' → ∃ m', m' < m ∧ W (i + 1) m' H'') ∧ ∀ x H'', (Itl K a).yld i H' x H'' → gName j x (wipe σ vs) H'' fun σ2 H2 => wipe σ2 vs = wipe σ vs ∧ tYes σ2 H2 fun b H3 =>
        if b = true then te σ2 H3 fun y H4 => ∃ acc, H4 D = some (.lst acc) ∧ acc.length < sizeLine ∧ Nx (upd H4 D (.lst (acc ++ [y]))) else Nx H3) := by
  refine ⟨fun i m H' => m = xs.length - i ∧ i ≤ xs.length ∧ H' = upd H D (.lst (ys.take i)), ⟨xs.length, by omega, Nat.zero_le _, rfl⟩, ?_⟩
  rintro i m H' ⟨rfl, hi, rfl⟩
  have hS : Same H (upd H D (.lst (ys.take i))) := Same.new hD
  have q := hS.seq hx
  by_cases hlt : i < xs.length
  · refine .inr ⟨⟨xs, xs[i], q, by simp [hlt]⟩, fun H'' => H'' = upd H D (.lst (ys.take (i + 1))), fun H'' e => ⟨xs.length - (i + 1), by omega, rfl, hlt, e⟩, fun x H'' y => ?_⟩
    obtain ⟨e, y⟩ := y
    subst e
    have hx2 := y xs q
    obtain ⟨z, hy⟩ : ∃ z, ys[i]? = some z := ⟨_, List.getElem?_eq_getElem (by omega)⟩
    refine ⟨hw x, ?_⟩
    refine he i x z _ _ hx2 hy hS ⟨_, upd_same, ?_, ?_⟩
    · rw [List.length_take]; omega
    · show upd (upd H D _) D _ = _
      rw [upd_upd, take_succ_of hy]
  · have e : i = xs.length := by omega
    subst e
    refine .inl ⟨⟨xs, q, Nat.le_refl _⟩, ?_⟩
    rw [List.take_of_length_le (by omega)]
    exact hQ
/-- .. over range(n) -/
theorem lcp_range {n : Nat} {lo : Int} {ys : List V} {j : Nat} {te : TE} {vs : List Nat} {σ : St} {H : Hp} {D : Addr} {Qd : Hp → Prop} (hD : H D = none)
    (hl : ys.length = n) (hz : ys.length ≤ sizeLine) (hw : ∀ x, wipe ((wipe σ vs).set j (some x)) vs = wipe σ vs)
    (he : ∀ (i : Nat) (y : V) (H' : Hp) (Q' : VK), i < n → ys[i]? = some y → Same H H' → Q' y H' → te ((wipe σ vs).set j (some (.int (lo + (i : Nat))))) H' Q')
    (hQ : Qd (upd H D (.lst ys))) :
    ∃ W : Nat → Nat → Hp → Prop, (∃ m, W 0 m (upd H D (.lst []))) ∧ ∀ i m H', W i m H' →
      ((Itr lo n).stop i H' ∧ Qd H') ∨ ((Itr lo n).go i H' ∧ ∃ Nx : Hp → Prop, (∀ H'', Nx H'' → ∃ m', m' < m ∧ W (i + 1) m' H'') ∧ ∀ x H'', (Itr lo n).yld i H' x H'' → gName j x (wipe σ vs) H'' fun σ2 H2 => wipe σ2 vs = wipe σ vs ∧ tYes σ2 H2 fun b H3 =>
        if b = true then te σ2 H3 fun y H4 => ∃ acc, H4 D = some (.lst acc) ∧ acc.length < sizeLine ∧ Nx (upd H4 D (.lst (acc ++ [y]))) else Nx H3) := by
  refine ⟨fun i m H' => m = n - i ∧ i ≤ n ∧ H' = upd H D (.lst (ys.take i)), ⟨n, by omega, Nat.zero_le _, rfl⟩, ?_⟩
  rintro i m H' ⟨rfl, hi, rfl⟩
  have hS : Same H (upd H D (.lst (ys.take i))) := Same.new hD
  by_cases hlt : i < n
  · refine .inr ⟨hlt, fun H'' => H'' = upd H D (.lst (ys.take (i + 1))), fun H'' e => ⟨n - (i + 1), by omega, rfl, hlt, e⟩, fun x H'' y => ?_⟩
    obtain ⟨e, y⟩ := y
    subst e y
    obtain ⟨z, hy⟩ : ∃ z, ys[i]? = some z := ⟨_, List.getElem?_eq_getElem (by omega)⟩
    refine ⟨hw _, ?_⟩
    refine he i z _ _ hlt hy hS ⟨_, upd_same, ?_, ?_⟩
    · rw [List.length_take]; omega
    · show upd (upd H D _) D _ = _
      rw [upd_upd, take_succ_of hy]
  · have e : i = n := by omega
    subst e
    refine .inl ⟨Nat.le_refl _, ?_⟩
    rw [List.take_of_length_le (by omega)]
    exact hQ
/-- within a comprehension's block: by the def's own K -/
theorem ixK {X : Cx} {K : PySem.W.Frag} (hK : X.K = K) : IxR X (rIxL K) := by
  subst hK
  exact ix_list
theorem fldK {X : Cx} {K : PySem.W.Frag} {e : Expr} {ta : TE} {f : Str} {pos : Pos} (hK : X.K = K) (he : PE X e ta) (hb : attributeBase e f X.env (eval e X.env) = eval e X.env) : PE X (.Attribute e f pos) (tFld K ta f) := by
  subst hK
  exact pe_fld he hb
end L2

end
section
set_option Elab.async false
set_option linter.all false
set_option maxRecDepth 100000
set_option maxHeartbeats 2000000
namespace L2
open PySem PySem.Spec PyProof.Rows
/-! ### min(xs, default = d) -/
theorem minD_args (a v : Value) : argsOk "min" ⟨[a], [(Str.ofString "default", v)]⟩ := by (unfold argsOk); kernel_rfl
section
variable {prog : Program} {w : World} {A : Around} {R : Result → Shared → Prop} {it : Addr} {fp wr : List Addr} {n : Nat} {Pe : Nat → Value → Prop} {St : Nat → Heap → Prop}
theorem minD_loop (x : Str) (dv : Value) (W : Walks prog w A.in1 it fp wr n Pe St) (bt : Nat → Nat → Bool) (hcmp : CmpOf prog w A.in1 .Lt Pe bt) (Z : Addr) (hZ : Z ∉ fp) :
    ∀ (d j : Nat) (s : Shared) (vb : Value) (c : Nat), n - (j + 1) = d → j + 1 ≤ n → St (j + 1) s.heap → Pe (argBest bt j) vb → s.heap.get? Z = some { cls := .type "list", dict := none, data := .seq #[vb, vb] c, slots := #[] } →
    (∀ v h' tk, Pe (argBest bt (n - 1)) v → (∀ b o, b ∉ wr → b ≠ Z → s.heap.get? b = some o → h'.get? b = some o) → R (.ok (.ret v)) { s with heap := h', toks := tk }) →
    codeAny (model prog w) A (.builtin "min.loop" ⟨[.ref it, .none, .ref Z], [(x, dv)]⟩) R s := by
  have nm : (toString "min" ++ toString ".loop" : String) = "min.loop" := by decide
  have hZw : Z ∉ wr := fun h => hZ (W.sub _ h)
  intro d
  induction d with
  | zero =>
    intro j s vb c hd hj st pb gZ fin
    have hin : j + 1 = n := by omega
    refine codeAny_builtin (PySem.F.entry_min_loop) ?_
    rw [Around.under_plainId (PySem.F.plain_min_loop) _]
    show wpAny _ A.in1 (seqItems? (.ref Z) >>= _) _ _ s
    refine wpAny_bind (wpAny_seqItems gZ rfl ?_)
    show wpAny _ A.in1 (tryCatch (pyNext (.ref it)) _ >>= _) _ _ s
    refine wpAny_bind (wpAny_tryCatch (W.done s _ _ (hin ▸ st) fun h' tk keep => ?_))
    have gZ' := keep Z _ hZw gZ
    show wpAny _ A.in1 (updateSeq Z (fun _ => #[]) >>= _) _ _ _
    refine wpAny_bind ?_
    refine wpAny_updateSeq gZ' rfl (wpAny_bind (wpAny_letGo (wpAny_pure ?_)))
    exact fin vb _ tk (by rw [← hin]; exact pb) fun b o hbw hbZ e => (Heap.get?_update_other _ _ (Ne.symm hbZ)).trans (keep b o hbw e)
  | succ d ih =>
    intro j s vb c hd hj st pb gZ fin
    have hlt : j + 1 < n := by omega
    refine codeAny_builtin (PySem.F.entry_min_loop) ?_
    rw [Around.under_plainId (PySem.F.plain_min_loop) _]
    show wpAny _ A.in1 (seqItems? (.ref Z) >>= _) _ _ s
    refine wpAny_bind (wpAny_seqItems gZ rfl ?_)
    show wpAny _ A.in1 (tryCatch (pyNext (.ref it)) _ >>= _) _ _ s
    refine wpAny_bind (wpAny_tryCatch (W.item (j + 1) s _ _ hlt st fun v h' tk pv' st' keep => ?_))
    have gZ' := keep Z _ hZw gZ
    show wpAny _ A.in1 (tryCatch (holding [v, v] (richCompare .Lt v vb >>= _)) _ >>= _) _ _ ({ s with heap := h', toks := tk } : Shared)
    refine wpAny_bind (wpAny_tryCatch (wpAny_holding (wpAny_bind (hcmp (j + 1) (argBest bt j) v vb _ _ _ pv' pb ?_))))
    refine wpAny_bind (wpAny_holding (wpAny_truthy_bool (wpAny_bind (wpAny_letGo (wpAny_pure ?_)))))
    cases hb : bt (j + 1) (argBest bt j) with
    | true =>
      simp only [if_true]
      refine wpAny_bind ?_
      refine wpAny_updateSeq gZ' rfl (wpAny_bind (wpAny_letGo ?_))
      rw [nm]
      refine wpAny_pure ⟨plainId_quiet (PySem.F.plain_min_loop) _, ih (j + 1) _ v _ (by omega) hlt (W.frame _ _ _ st' fun b hbf o e => ?_) (by simp only [argBest, hb, if_true]; exact pv') (Heap.get?_update_self _ gZ' rfl) fun v' h2 tk2 p2 k2 => ?_⟩
      · exact (Heap.get?_update_other _ _ (fun h : Z = b => hZ (by rw [h]; exact hbf))).trans e
      · exact fin v' h2 tk2 p2 fun b o hbw hbZ e => k2 b o hbw hbZ ((Heap.get?_update_other _ _ (Ne.symm hbZ)).trans (keep b o hbw e))
    | false =>
      simp only [Bool.false_eq_true, if_false]
      refine wpAny_bind (wpAny_letGo ?_)
      rw [nm]
      refine wpAny_pure ⟨plainId_quiet (PySem.F.plain_min_loop) _, ih (j + 1) _ vb c (by omega) hlt st' (by simp only [argBest, hb, Bool.false_eq_true, if_false]; exact pb) gZ' fun v' h2 tk2 p2 k2 => ?_⟩
      exact fin v' h2 tk2 p2 fun b o hbw hbZ e => k2 b o hbw hbZ (keep b o hbw e)
theorem minD_first (x : Str) (dv : Value) (W : Walks prog w A.in1 it fp wr n Pe St) (bt : Nat → Nat → Bool) (hcmp : CmpOf prog w A.in1 .Lt Pe bt) (Z : Addr) (hZ : Z ∉ fp) {s : Shared} {c : Nat} (st : St 0 s.heap)
    (gZ : s.heap.get? Z = some { cls := .type "list", dict := none, data := .seq #[] c, slots := #[] })
    (fin : ∀ v h' tk, (if n = 0 then v = dv else Pe (argBest bt (n - 1)) v) → (∀ b o, b ∉ wr → b ≠ Z → s.heap.get? b = some o → h'.get? b = some o) → R (.ok (.ret v)) { s with heap := h', toks := tk }) :
    codeAny (model prog w) A (.builtin "min.loop" ⟨[.ref it, .none, .ref Z], [(x, dv)]⟩) R s := by
  have nm : (toString "min" ++ toString ".loop" : String) = "min.loop" := by decide
  have hZw : Z ∉ wr := fun h => hZ (W.sub _ h)
  refine codeAny_builtin (PySem.F.entry_min_loop) ?_
  rw [Around.under_plainId (PySem.F.plain_min_loop) _]
  show wpAny _ A.in1 (seqItems? (.ref Z) >>= _) _ _ s
  refine wpAny_bind (wpAny_seqItems gZ rfl ?_)
  show wpAny _ A.in1 (tryCatch (pyNext (.ref it)) _ >>= _) _ _ s
  by_cases hn : n = 0
  · refine wpAny_bind (wpAny_tryCatch (W.done s _ _ (hn ▸ st) fun h' tk keep => ?_))
    show wpAny _ A.in1 (rule _ >>= _) _ _ _
    exact wpAny_bind (wpAny_rule (wpAny_pure (fin dv h' tk (by rw [if_pos hn]) fun b o hbw _ e => keep b o hbw e)))
  · have hp : 0 < n := by omega
    refine wpAny_bind (wpAny_tryCatch (W.item 0 s _ _ hp st fun v h' tk pv' st' keep => ?_))
    have gZ' := keep Z _ hZw gZ
    show wpAny _ A.in1 (updateSeq Z (fun _ => #[v, v]) >>= _) _ _ _
    refine wpAny_bind ?_
    refine wpAny_updateSeq gZ' rfl ?_
    rw [nm]
    refine wpAny_pure ⟨plainId_quiet (PySem.F.plain_min_loop) _, minD_loop x dv W bt hcmp Z hZ _ 0 _ v _ rfl hp (W.frame _ _ _ st' fun b hbf o e => ?_) pv' (Heap.get?_update_self _ gZ' rfl) fun v' h2 tk2 p2 k2 => ?_⟩
    · exact (Heap.get?_update_other _ _ (fun h : Z = b => hZ (by rw [h]; exact hbf))).trans e
    · exact fin v' h2 tk2 (by rw [if_neg hn]; exact p2) fun b o hbw hbZ e => k2 b o hbw hbZ ((Heap.get?_update_other _ _ (Ne.symm hbZ)).trans (keep b o hbw e))
end
section
variable {prog : Program} {w : World} {A : Around} {E : Value → Shared → Prop} {s : Shared} {l : Addr} {its : List Value} {ns : List Int} {Q : Value → Shared → Prop}
theorem minD_raw {dv : Value} (hh : A.handled = none) (hl : s.heap.IsList l its.toArray) (hi : IntsAre its ns)
    (h0 : ns = [] → ∀ h' tk, (∀ b o, s.heap.get? b = some o → h'.get? b = some o) → Q dv { s with heap := h', toks := tk })
    (h1 : ∀ h' tk M t', (∀ b o, s.heap.get? b = some o → h'.get? b = some o) → M ∈ ns → (∀ a, a ∈ ns → M ≤ a) → Q (.int M t') { s with heap := h', toks := tk }) :
    wpAny (model prog w) A (call (.builtin "min") [.ref l] [(Str.ofString "default", dv)]) Q E s := by
  have nm : (toString "min" ++ toString ".loop" : String) = "min.loop" := by decide
  obtain ⟨xs, e⟩ := hi.allInts.items
  have hnum : numsOf (intItems xs).toList = ns := by rw [← e]; exact hi.numsOf
  rw [nums_intItems] at hnum
  subst hnum
  rw [e] at hl
  refine kmk_tree (PySem.F.kind_min) (PySem.F.plain_min) (PySem.F.entry_min) (minD_args _ _) ?_
  show wpAny _ A.in1 (Builtin.Builtins.bindParams "min" ["key", "default"] 0 ⟨[], [(Str.ofString "default", dv)]⟩ >>= _) _ _ s
  refine wpAny_bind (wpAny_of_eq (show Builtin.Builtins.bindParams "min" ["key", "default"] 0 ⟨[], [(Str.ofString "default", dv)]⟩ = pure [none, some dv] from rfl) ?_)
  refine wpAny_bind (wpAny_pure ?_)
  refine wpAny_bind (iter_intList hl fun s2 e2 st hfp hlI => ?_)
  refine wpAny_bind (wpAny_newObj_type ?_)
  rw [nm]
  have hZ : s2.heap.objs.size ∉ [s.heap.objs.size, l] := fun hm => Nat.lt_irrefl _ (hfp _ hm)
  have W := Walks.list (prog := prog) (w := w) (A := A.in1) hh s.heap.objs.size l hlI (intItems xs)
  refine wpAny_pure ⟨plainId_quiet (PySem.F.plain_min_loop) _, minD_first _ dv W _ (CmpOf.ints_lt (numAt xs) (fun _ _ => intItems_at)) s2.heap.objs.size hZ (W.frame _ _ _ st fun b _ o q => Heap.get?_push_of_some _ q) (Heap.get?_push_size _ rfl) fun v h' tk hv keep => ?_⟩
  subst e2
  have kept : ∀ b o, s.heap.get? b = some o → h'.get? b = some o := old_kept fun b o hb q => keep b o hb (Nat.ne_of_lt (Heap.lt_size q)) (Heap.get?_push_of_some _ q)
  have hsz : (intItems xs).size = xs.size := by simp [intItems]
  rw [hsz] at hv
  by_cases hx : xs.size = 0
  · rw [if_pos hx] at hv
    subst hv
    refine h0 ?_ h' tk kept
    apply List.eq_nil_of_length_eq_zero
    rw [List.length_map, Array.length_toList]
    exact hx
  · rw [if_neg hx] at hv
    obtain ⟨t, rfl⟩ := intItems_at hv
    obtain ⟨g1, g2⟩ := argBest_lt (numAt xs) (xs.size - 1)
    refine h1 h' tk _ t kept ?_ fun a ha => ?_
    · rw [numAt_eq]
      exact PySem.getD_mem (by rw [List.length_map, Array.length_toList]; omega)
    · obtain ⟨j, hj, rfl⟩ := mem_getD ha
      rw [List.length_map, Array.length_toList] at hj
      rw [← numAt_eq]
      exact g2 j (by omega)
end
section
variable {X : Cx}
/-- f(e, .., k = v, ..), f a built-in function -/
def CallRK (X : Cx) (f : Value) (ks : List Str) (r : List V → List V → Hp → VK → Prop) : Prop :=
  ∀ (pins : List (Addr × Obj)) (s : Shared) (σ : St) (H : Hp) (vs zs : List V) (us ws : List Value) (Q : VK), Inv X pins σ H s → Vals vs us → Vals zs ws → r vs zs H Q → wpAny (model X.prog X.w) X.A (call f us (ks.zip ws)) (EP X pins σ Q) X.xe s
theorem pe_callBK {id : String} {ks : List Str} {r : List V → List V → Hp → VK → Prop} {x : Str} {p pos : Pos} {e : Expr} {es : List Expr} {kws : List Keyword} {t tk : TA} (hc : CallRK X (.builtin id) ks r) (hg : Gl X x) (hm : X.mg x = none) (hv : bootBuiltins x = some (.builtin id)) (ha : PA X (e :: es) t) (hkw : PK X kws tk)
    (hks : (backToKw pos (keywordEach kws X.env)).filterMap (·.1) = ks := by rfl) (hn : x ≠ "__name__" := by decide) (hdb : (x == ("__debug__" : Str)) = false := by decide)
    (he : backTo pos (starEach (e :: es) X.env) = (false, eval e X.env) :: backTo pos (starEach es X.env) := by rfl) (hpl : (backTo pos (starEach (e :: es) X.env)).any (·.1) = false := by rfl)
    (hall : (backToKw pos (keywordEach kws X.env)).all (·.1.isSome) = true := by rfl) (hkn : (backToKw pos (keywordEach kws X.env)).any (·.1.isNone) = false := by rfl) :
    PE X (.Call (.Name x p) (e :: es) kws pos) (fun σ H Q => t σ H fun vs H1 => tk σ H1 fun zs H2 => r vs zs H2 Q) := by
  intro pins s σ H Q I h
  refine wpAny_Call_Name_kw (ld_blt I hg hm hv ?_ hn hdb)
  refine PyProof.Rows.callWith_kw (thn (ha pos pins s σ H _ I h) fun us s1 ⟨vs, H1, I1, ru, q⟩ => thn (hkw pos pins s1 σ H1 _ I1 q) fun ws s2 ⟨zs, H2, I2, rz, q2⟩ => ?_) he hpl hall hkn
  rw [hks]
  exact hc pins s2 σ H2 vs zs us ws Q I2 ru rz q2
/-- min(xs, default = i) of a list of ints -/
def rMinD (K : PySem.W.Frag) : List V → List V → Hp → VK → Prop := fun vs zs H Q => ∃ (a : Addr) (i : Int) (ns : List Int), vs = [V.ref a] ∧ zs = [V.int i] ∧ SqL K H a (ns.map V.int) ∧ ∀ m, (ns = [] ∧ m = i) ∨ (m ∈ ns ∧ ∀ y, y ∈ ns → m ≤ y) → Q (.int m) H
theorem cr_minD (hc : X.calm = true) : CallRK X (.builtin "min") [Str.ofString "default"] (rMinD X.K) := by
  intro pins s σ H vs zs us ws Q I r rz h
  obtain ⟨a, i, ns, rfl, rfl, hs, q⟩ := h
  obtain ⟨its, rv, hl, _⟩ := I.list hs
  rw [Vals.ref1 r]
  cases rz with
  | cons r1 r2 =>
    cases r2
    obtain ⟨t, rfl⟩ := r1
    exact minD_raw (I.ok.hd hc) hl.isList rv.ints (fun e h' tk hk => ⟨.int _, H, I.kept hk, ⟨_, rfl⟩, q _ (.inl ⟨e, rfl⟩)⟩) fun h' tk m t' hk g1 g2 => ⟨.int _, H, I.kept hk, ⟨_, rfl⟩, q m (.inr ⟨g1, g2⟩)⟩
end
/-! ### comprehensions -/
theorem sumK {X : Cx} {K : PySem.W.Frag} (hK : X.K = K) (hc : X.calm = true) : CallR X (.builtin "sum") (rSum K) := by
  subst hK
  exact cr_sum hc
/-- a comprehension with a test over a list, its element the item itself: f tells which stay -/
theorem lcp_filter {α : Type} {K : PySem.W.Frag} {a : Addr} {xs : List α} {u : α → V} {f : α → Bool} {j : Nat} {tt : TT} {te : TE} {vs : List Nat} {σ : St} {H : Hp} {D : Addr} {Qd : Hp → Prop} (hD : H D = none)
    (hx : SqL K H a (xs.map u)) (hz : xs.length ≤ sizeLine) (hw : ∀ x, wipe ((wipe σ vs).set j (some x)) vs = wipe σ vs)
    (ht : ∀ (i : Nat) (x : α) (H' : Hp) (Q' : Bool → Hp → Prop), xs[i]? = some x → Same H H' → Q' (f x) H' → tt ((wipe σ vs).set j (some (u x))) H' Q')
    (he : ∀ (x : V) (H' : Hp) (Q' : VK), Q' x H' → te ((wipe σ vs).set j (some x)) H' Q')
    (hQ : Qd (upd H D (.lst ((xs.filter f).map u)))) :
    ∃ W : Nat → Nat → Hp → Prop, (∃ m, W 0 m (upd H D (.lst []))) ∧ ∀ i m H', W i m H' →
      ((Itl K a).stop i H' ∧ Qd H') ∨ ((Itl K a).go i H' ∧ ∃ Nx : Hp → Prop, (∀ H'', Nx H'' → ∃ m', m' < m ∧ W (i + 1) m' H'') ∧ ∀ x H'', (Itl K a).yld i H' x H'' → gName j x (wipe σ vs) H'' fun σ2 H2 => wipe σ2 vs = wipe σ vs ∧ tt σ2 H2 fun b H3 =>
        if b = true then te σ2 H3 fun y H4 => ∃ acc, H4 D = some (.lst acc) ∧ acc.length < sizeLine ∧ Nx (upd H4 D (.lst (acc ++ [y]))) else Nx H3) := by
  refine ⟨fun i m H' => m = xs.length - i ∧ i ≤ xs.length ∧ H' = upd H D (.lst (((xs.take i).filter f).map u)), ⟨xs.length, by omega, Nat.zero_le _, rfl⟩, ?_⟩
  rintro i m H' ⟨rfl, hi, rfl⟩
  have hS : Same H (upd H D (.lst (((xs.take i).filter f).map u))) := Same.new hD
  have q := hS.seq hx
  by_cases hlt : i < xs.length
  · obtain ⟨z, hz1⟩ : ∃ z, xs[i]? = some z := ⟨_, List.getElem?_eq_getElem hlt⟩
    have hu : (xs.map u)[i]? = some (u z) := by rw [List.getElem?_map, hz1]; rfl
    refine .inr ⟨⟨xs.map u, u z, q, hu⟩, fun H'' => H'' = upd H D (.lst (((xs.take (i + 1)).filter f).map u)), fun H'' e => ⟨xs.length - (i + 1), by omega, rfl, hlt, e⟩, fun x H'' y => ?_⟩
    obtain ⟨e, y⟩ := y
    subst e
    have hx2 := (y _ q).symm.trans hu
    cases hx2
    refine ⟨hw _, ?_⟩
    refine ht i z _ _ hz1 hS ?_
    have et : (xs.take (i + 1)).filter f = (xs.take i).filter f ++ [z].filter f := by rw [take_succ_of hz1, List.filter_append]
    cases hf : f z with
    | true =>
      rw [if_pos rfl]
      refine he _ _ _ ⟨_, upd_same, ?_, ?_⟩
      · rw [List.length_map]
        have := List.length_filter_le f (xs.take i)
        rw [List.length_take] at this
        omega
      · show upd (upd H D _) D _ = _
        rw [upd_upd, et, List.filter_cons_of_pos hf, List.map_append]
        rfl
    | false =>
      rw [if_neg (by decide)]
      show upd H D _ = upd H D _
      rw [et, List.filter_cons_of_neg (by rw [hf]; decide), List.filter_nil, List.append_nil]
  · have e : i = xs.length := by omega
    subst e
    refine .inl ⟨⟨_, q, by rw [List.length_map]; exact Nat.le_refl _⟩, ?_⟩
    rw [List.take_of_length_le (Nat.le_refl _)]
    exact hQ
/-! ### a heap without a place, a heap's new places -/
def hide (L : Addr) (H : Hp) : Hp := fun b => if b = L then none else H b
theorem hide_get {L b : Addr} {H : Hp} {o : HO} (n : b ≠ L) (h : H b = some o) : hide L H b = some o := (if_neg n).trans h
theorem hide_same (L : Addr) (H : Hp) : Same (hide L H) H := fun b o e => by
  unfold hide at e
  by_cases z : b = L
  · rw [if_pos z] at e; cases e
  · rw [if_neg z] at e; exact e
theorem hide_ne {L b : Addr} {H : Hp} {o : HO} (h : hide L H b = some o) : b ≠ L := fun z => by
  unfold hide at h
  rw [if_pos z] at h
  cases h
def newer (H H' : Hp) : Hp := fun b => match H b with
  | none => H' b
  | some _ => none
theorem newer_get {H H' : Hp} {b : Addr} {o : HO} (n : H b = none) (h : H' b = some o) : newer H H' b = some o := by
  unfold newer
  rw [n]
  exact h
theorem newer_old {H H' : Hp} {b : Addr} {o : HO} (h : newer H H' b = some o) : H b = none ∧ H' b = some o := by
  unfold newer at h
  cases e : H b with
  | none => rw [e] at h; exact ⟨rfl, h⟩
  | some u => rw [e] at h; cases h
theorem newer_same (H H' : Hp) : Same (newer H H') H' := fun b o e => (newer_old e).2
theorem newer_from {H H1 H' : Hp} (S : Same H H1) : Same (newer H1 H') (newer H H') := fun b o e => newer_get (S.free (newer_old e).1) (newer_old e).2
theorem newer_to {H H' H2 : Hp} (S : Same H' H2) : Same (newer H H') (newer H H2) := fun b o e => newer_get (newer_old e).1 (S _ _ (newer_old e).2)
theorem newer_hide {H H' : Hp} {L : Addr} {u : HO} (h : H L = some u) : Same (newer H H') (hide L H') := fun b o e => by
  refine hide_get (fun z => ?_) (newer_old e).2
  have q := (newer_old e).1
  rw [z, h] at q
  cases q
end L2

end
section
set_option Elab.async false
set_option linter.all false
set_option maxRecDepth 100000
set_option maxHeartbeats 2000000
namespace Nur
open PySem PySem.Spec PyProof.Rows L2
open PySem.W (Codec)

/-! ### the text by places -/
def top (i : Nat) : Stmt := PySem.Challenge.pw_coneyears_s01_answers.main.body.getD i (.Pass ⟨0, 0, 0, 0⟩)
abbrev sNurI : Stmt := inClass (top 21) 0
abbrev sStoI : Stmt := inClass (top 22) 0
abbrev sSowI : Stmt := inClass (top 23) 0
abbrev sAns : Stmt := top 24
abbrev sCal : Stmt := top 25
abbrev sBeg : Stmt := top 26
abbrev sYrs : Stmt := top 27
abbrev sFol : Stmt := top 28
abbrev sLft : Stmt := top 29
abbrev sBst : Stmt := top 30
abbrev sMor : Stmt := top 31
abbrev sNmw : Stmt := top 32
abbrev sAbv : Stmt := top 33
abbrev sBrs : Stmt := top 34
abbrev sRtd : Stmt := top 35
abbrev sLon : Stmt := top 36
abbrev sMou : Stmt := top 37
abbrev sSt0 : Stmt := top 38
abbrev sThr : Stmt := top 39
abbrev sBeh : Stmt := top 40
abbrev sTak : Stmt := top 41
abbrev sUnl : Stmt := top 42
abbrev sWin : Stmt := top 43
abbrev sLef : Stmt := top 44

/-! ### addresses, and what the top has written -/
structure Adr where
  cN : Addr
  cS : Addr
  cW : Addr
  fNI : Addr
  dNI : FuncData
  fSI : Addr
  dSI : FuncData
  fWI : Addr
  dWI : FuncData
  fCal : Addr
  dCal : FuncData
  fBeg : Addr
  dBeg : FuncData
  fYrs : Addr
  dYrs : FuncData
  fFol : Addr
  dFol : FuncData
  fLft : Addr
  dLft : FuncData
  fBst : Addr
  dBst : FuncData
  fMor : Addr
  dMor : FuncData
  fNmw : Addr
  dNmw : FuncData
  fAbv : Addr
  dAbv : FuncData
  fBrs : Addr
  dBrs : FuncData
  fRtd : Addr
  dRtd : FuncData
  fLon : Addr
  dLon : FuncData
  fMou : Addr
  dMou : FuncData
  fSt0 : Addr
  dSt0 : FuncData
  fThr : Addr
  dThr : FuncData
  fBeh : Addr
  dBeh : FuncData
  fTak : Addr
  dTak : FuncData
  fUnl : Addr
  dUnl : FuncData
  fWin : Addr
  dWin : FuncData
  fLef : Addr
  dLef : FuncData
def IntG (mg : Str → Option Value) (x : Str) (i : Int) : Prop := ∃ t, mg x = some (.int i t)
/-- a def of the text, bound to its name -/
structure Dfn (K : PySem.W.Frag) (mg : Str → Option Value) (x : Str) (st : Stmt) (ps : List Str) (f : Addr) (fd : FuncData) : Prop where
  fn : Fun K x x st f fd
  bn : Binds K fd ps []
  gl : mg x = some (.ref f)
structure Txt (K : PySem.W.Frag) (mg : Str → Option Value) (t : Adr) : Prop where
  nCls : Cls K t.cN
  nMk : Mk K t.cN t.fNI
  nFn : Fun K "__init__" "Nursery.__init__" sNurI t.fNI t.dNI
  nBn : Binds K t.dNI ["self"] []
  nGl : mg "Nursery" = some (.ref t.cN)
  nBeds : NoAttr K t.cN "beds"
  nLoss : NoAttr K t.cN "losses"
  nSeed : NoAttr K t.cN "seedlings"
  nGath : NoAttr K t.cN "gathered"
  nWant : NoAttr K t.cN "wanted"
  sCls : Cls K t.cS
  sMk : Mk K t.cS t.fSI
  sFn : Fun K "__init__" "Stock.__init__" sStoI t.fSI t.dSI
  sBn : Binds K t.dSI ["self", "plants", "bags"] []
  sGl : mg "Stock" = some (.ref t.cS)
  sPlan : NoAttr K t.cS "plants"
  sBags : NoAttr K t.cS "bags"
  wCls : Cls K t.cW
  wMk : Mk K t.cW t.fWI
  wFn : Fun K "__init__" "Sowings.__init__" sSowI t.fWI t.dWI
  wBn : Binds K t.dWI ["self", "row", "stock"] []
  wGl : mg "Sowings" = some (.ref t.cW)
  wRow : NoAttr K t.cW "row"
  wStk : NoAttr K t.cW "stock"
  cal : Dfn K mg "answer_call" sCal ["nursery", "call", "numbers"] t.fCal t.dCal
  beg : Dfn K mg "answer_begins" sBeg ["nursery", "numbers"] t.fBeg t.dBeg
  yrs : Dfn K mg "answer_years" sYrs ["nursery", "numbers"] t.fYrs t.dYrs
  fol : Dfn K mg "answer_follow" sFol ["nursery", "row"] t.fFol t.dFol
  lft : Dfn K mg "answer_lift" sLft ["nursery", "numbers"] t.fLft t.dLft
  bst : Dfn K mg "answer_best" sBst ["nursery"] t.fBst t.dBst
  mor : Dfn K mg "answer_more" sMor ["nursery", "year", "more"] t.fMor t.dMor
  nmw : Dfn K mg "nursery_with_more_wanted" sNmw ["nursery", "year", "more"] t.fNmw t.dNmw
  abv : Dfn K mg "any_above" sAbv ["numbers", "most"] t.fAbv t.dAbv
  brs : Dfn K mg "best_rows" sBrs ["nursery"] t.fBrs t.dBrs
  rtd : Dfn K mg "rows_that_do" sRtd ["nursery"] t.fRtd t.dRtd
  lon : Dfn K mg "sowings_a_year_longer" sLon ["nursery", "begun", "year"] t.fLon t.dLon
  mou : Dfn K mg "most_of_use" sMou ["nursery", "year"] t.fMou t.dMou
  st0 : Dfn K mg "stock_at_beginning" sSt0 ["nursery"] t.fSt0 t.dSt0
  thr : Dfn K mg "stock_behind_three_first" sThr ["nursery", "stock", "year", "sown"] t.fThr t.dThr
  beh : Dfn K mg "stock_behind" sBeh ["nursery", "stock", "year", "sown", "lifted_of_two"] t.fBeh t.dBeh
  tak : Dfn K mg "bags_taken" sTak ["bags", "sown"] t.fTak t.dTak
  unl : Dfn K mg "plants_unlifted" sUnl ["plants", "wanted", "lifted_of_two"] t.fUnl t.dUnl
  win : Dfn K mg "stock_after_winter" sWin ["nursery", "seedlings", "plants", "bags"] t.fWin t.dWin
  lef : Dfn K mg "left_of" sLef ["plants", "loss"] t.fLef t.dLef
  len : mg "len" = none
  any : mg "any" = none
  sum : mg "sum" = none
  min : mg "min" = none
  max : mg "max" = none
  range : mg "range" = none
  list : mg "list" = none
  mBeds : IntG mg "MOST_BEDS" 4
  mLoss : IntG mg "MOST_LOSS" 100
  mAges : IntG mg "MOST_AGES" 4
  mSeed : IntG mg "MOST_SEEDLINGS" 1000
  mYear : IntG mg "MOST_YEARS" 6
  mGath : IntG mg "MOST_GATHERED" 8
  mWant : IntG mg "MOST_WANTED" 100000
  mMore : IntG mg "MOST_WANTED_MORE" 100000
  mTill : IntG mg "YEARS_TILL_LIFTED" 2
  kBeg : IntG mg "BEGINS" 0
  kYrs : IntG mg "YEARS" 1
  kFol : IntG mg "FOLLOW" 2
  kLft : IntG mg "LIFT" 3
  kBst : IntG mg "BEST" 4
  kMor : IntG mg "MORE" 5
  kNot : IntG mg "NOT_AS_TOLD" (-1)
  kNoy : IntG mg "NO_SUCH_YEAR" (-2)
  kNow : IntG mg "NO_ROW_WOULD_DO" (-3)
  kNod : IntG mg "NO_ROW_DOES" (-6)

/-! ### data -/
/-- all but p stays -/
def But (p : Addr) (H H' : Hp) : Prop := ∀ b o, H b = some o → b ≠ p → H' b = some o
theorem But.put {p : Addr} {H : Hp} {o : HO} : But p H (upd H p o) := fun b u e n => by rw [upd_ne n]; exact e
theorem But.new {p a : Addr} {H : Hp} {o : HO} (h : H a = none) : But p H (upd H a o) := fun b u e n => by rw [upd_ne (ne_of_none e h)]; exact e
theorem But.trans {p : Addr} {H H1 H2 : Hp} (x : But p H H1) (y : But p H1 H2) : But p H H2 := fun b o e n => y b o (x b o e n) n
theorem But.free {p q : Addr} {H H1 : Hp} {o : HO} (x : But p H H1) (hp : H1 p = some o) (h : H1 q = none) : H q = none := by
  cases e : H q with
  | none => rfl
  | some u =>
    by_cases z : q = p
    · rw [z, hp] at h; cases h
    · rw [x q u e z] at h; cases h
theorem But.of_same {p : Addr} {H H1 : Hp} (x : Same H H1) : But p H H1 := fun b o e _ => x b o e
def nats (l : List Nat) : List V := l.map fun (n : Nat) => V.int (n : Int)
theorem nats_length (l : List Nat) : (nats l).length = l.length := List.length_map ..
theorem nats_get {l : List Nat} {i n : Nat} (h : l[i]? = some n) : (nats l)[i]? = some (V.int (n : Int)) := by
  unfold nats
  rw [List.getElem?_map, h]
  rfl
theorem nats_ints (l : List Nat) : nats l = (l.map fun (n : Nat) => (n : Int)).map V.int := by
  unfold nats
  rw [List.map_map]
  rfl
/-- the Stock's attributes -/
def sf (a b : Addr) : List (Str × V) := putF "bags" (.ref b) (putF "plants" (.ref a) [])
theorem sf_plants (a b : Addr) : (sf a b).lookup ("plants" : Str) = some (.ref a) := by
  unfold sf
  rw [lookup_putF, if_neg (by decide +kernel), lookup_putF, if_pos rfl]
theorem sf_bags (a b : Addr) : (sf a b).lookup ("bags" : Str) = some (.ref b) := by
  unfold sf
  rw [lookup_putF, if_pos rfl]
/-- a Stock of the state s stands at p -/
def StockAt (C : Addr) (H : Hp) (p : Addr) (s : Si58.Now) : Prop := ∃ dx a b, H p = some (.ins C dx (sf a b)) ∧ H a = some (.lst (nats [s.one, s.two, s.three])) ∧ H b = some (.lst (nats s.store))
theorem StockAt.mono {C : Addr} {H H' : Hp} {p : Addr} {s : Si58.Now} (h : StockAt C H p s) (e : Same H H') : StockAt C H' p s := by
  obtain ⟨dx, a, b, h1, h2, h3⟩ := h
  exact ⟨dx, a, b, e _ _ h1, e _ _ h2, e _ _ h3⟩
/-- the Nursery's attributes -/
def nf (z : Int) (a b c d : Addr) : List (Str × V) := putF "wanted" (.ref d) (putF "gathered" (.ref c) (putF "seedlings" (.ref b) (putF "losses" (.ref a) (putF "beds" (.int z) []))))
theorem nf_beds (z : Int) (a b c d : Addr) : (nf z a b c d).lookup ("beds" : Str) = some (.int z) := by
  unfold nf
  rw [lookup_putF, if_neg (by decide +kernel), lookup_putF, if_neg (by decide +kernel), lookup_putF, if_neg (by decide +kernel), lookup_putF, if_neg (by decide +kernel), lookup_putF, if_pos rfl]
theorem nf_losses (z : Int) (a b c d : Addr) : (nf z a b c d).lookup ("losses" : Str) = some (.ref a) := by
  unfold nf
  rw [lookup_putF, if_neg (by decide +kernel), lookup_putF, if_neg (by decide +kernel), lookup_putF, if_neg (by decide +kernel), lookup_putF, if_pos rfl]
theorem nf_seedlings (z : Int) (a b c d : Addr) : (nf z a b c d).lookup ("seedlings" : Str) = some (.ref b) := by
  unfold nf
  rw [lookup_putF, if_neg (by decide +kernel), lookup_putF, if_neg (by decide +kernel), lookup_putF, if_pos rfl]
theorem nf_gathered (z : Int) (a b c d : Addr) : (nf z a b c d).lookup ("gathered" : Str) = some (.ref c) := by
  unfold nf
  rw [lookup_putF, if_neg (by decide +kernel), lookup_putF, if_pos rfl]
theorem nf_wanted (z : Int) (a b c d : Addr) : (nf z a b c d).lookup ("wanted" : Str) = some (.ref d) := by
  unfold nf
  rw [lookup_putF, if_pos rfl]
/-- the nursery k stands at p -/
structure NurAt (C : Addr) (H : Hp) (p : Addr) (k : Si58.Nursery) : Prop where
  ex : ∃ dx a b c d, H p = some (.ins C dx (nf (k.beds : Int) a b c d)) ∧ H a = some (.lst (nats [k.lost.1, k.lost.2.1, k.lost.2.2])) ∧ H b = some (.lst (nats k.germ)) ∧
    H c = some (.lst (nats (k.years.map (·.1)))) ∧ H d = some (.lst (nats (k.years.map (·.2))))
theorem NurAt.mono {C : Addr} {H H' : Hp} {p : Addr} {k : Si58.Nursery} (h : NurAt C H p k) (e : Same H H') : NurAt C H' p k := by
  obtain ⟨dx, a, b, c, d, h1, h2, h3, h4, h5⟩ := h
  exact ⟨dx, a, b, c, d, e _ _ h1, e _ _ h2, e _ _ h3, e _ _ h4, e _ _ h5⟩
/-- .. and nothing of it stands at o -/
def NurOff (C : Addr) (H : Hp) (p : Addr) (k : Si58.Nursery) (o : Addr) : Prop := ∃ dx a b c d, (H p = some (.ins C dx (nf (k.beds : Int) a b c d)) ∧ H a = some (.lst (nats [k.lost.1, k.lost.2.1, k.lost.2.2])) ∧ H b = some (.lst (nats k.germ)) ∧
    H c = some (.lst (nats (k.years.map (·.1)))) ∧ H d = some (.lst (nats (k.years.map (·.2))))) ∧ p ≠ o ∧ a ≠ o ∧ b ≠ o ∧ c ≠ o ∧ d ≠ o
theorem NurOff.nur {C : Addr} {H : Hp} {p o : Addr} {k : Si58.Nursery} (h : NurOff C H p k o) : NurAt C H p k := by
  obtain ⟨dx, a, b, c, d, h, _⟩ := h
  exact ⟨dx, a, b, c, d, h⟩
theorem NurOff.but {C : Addr} {H H' : Hp} {p o : Addr} {k : Si58.Nursery} (h : NurOff C H p k o) (e : But o H H') : NurOff C H' p k o := by
  obtain ⟨dx, a, b, c, d, ⟨h1, h2, h3, h4, h5⟩, n⟩ := h
  obtain ⟨n0, n1, n2, n3, n4⟩ := id n
  exact ⟨dx, a, b, c, d, ⟨e _ _ h1 n0, e _ _ h2 n1, e _ _ h3 n2, e _ _ h4 n3, e _ _ h5 n4⟩, n⟩
theorem NurOff.mono {C : Addr} {H H' : Hp} {p o : Addr} {k : Si58.Nursery} (h : NurOff C H p k o) (e : Same H H') : NurOff C H' p k o := h.but (But.of_same e)
theorem NurAt.off {C : Addr} {H : Hp} {p o : Addr} {k : Si58.Nursery} (h : NurAt C H p k) (n : H o = none) : NurOff C H p k o := by
  obtain ⟨dx, a, b, c, d, h1, h2, h3, h4, h5⟩ := h
  exact ⟨dx, a, b, c, d, ⟨h1, h2, h3, h4, h5⟩, ne_of_none h1 n, ne_of_none h2 n, ne_of_none h3 n, ne_of_none h4 n, ne_of_none h5 n⟩
/-- what begins and years let stand -/
structure Fine (k : Si58.Nursery) : Prop where
  beds : k.beds ≤ 4
  l1 : k.lost.1 ≤ 100
  l2 : k.lost.2.1 ≤ 100
  l3 : k.lost.2.2 ≤ 100
  ages : 1 ≤ k.germ.length ∧ k.germ.length ≤ 4
  germ : ∀ g ∈ k.germ, g ≤ 1000
  years : k.years.length ≤ 6

section
variable {P : Program} {w : World} {K : PySem.W.Frag} {mg : Str → Option Value} {base : Heap} {t : Adr}

/-! ### left_of -/
def spLef : Sp := fun vs H Q _ => ∃ (n r : Nat), vs = [.int n, .int r] ∧ r ≤ 100 ∧ Q (.int (Si58.left r n : Nat)) H
theorem scLef : FnScope ["plants", "loss"] ["plants", "loss"] (defScope sLef) := ⟨rfl, rfl, rfl, by decide +kernel, rfl, by decide +kernel, by decide +kernel⟩
theorem left_int (r n : Nat) (h : r ≤ 100) : ((Si58.left r n : Nat) : Int) = (n : Int) - (n : Int) * (r : Int) / 100 := by
  unfold Si58.left
  have h2 : n * r / 100 ≤ n := by
    have : n * r ≤ n * 100 := Nat.mul_le_mul_left n h
    omega
  rw [Int.ofNat_sub h2]
  simp [Int.natCast_ediv]
theorem ok_lef (T : Txt K mg t) : FnOk P w K mg base CX0 1 t.fLef t.dLef ["plants", "loss"] spLef := by
  refine T.lef.fn.ok scLef (fun vs H Q E h => ?_) (fun cdv A outer s H vs Q E hr h => ?_)
  · obtain ⟨n, r, rfl, _⟩ := h
    rfl
  · obtain ⟨n, r, rfl, hr100, k⟩ := h
    refine ⟨_, pss_one (ps_ret (pe_op op_sub (pv 0) (pe_op op_fdiv (pe_op op_mul (pv 0) (pv 1)) pe_int))), ?_⟩
    refine ⟨_, rfl, _, rfl, _, rfl, _, _, rfl, rfl, .inr ⟨by omega, by omega⟩, _, _, rfl, rfl, ⟨by decide, by decide⟩, _, _, rfl, rfl, ?_⟩
    have e := left_int r n hr100
    rw [e] at k
    exact k

/-! ### any_above -/
def spAbv : Sp := fun vs H Q _ => ∃ (a : Addr) (ns : List Nat) (m : Nat), vs = [.ref a, .int m] ∧ H a = some (.lst (nats ns)) ∧ ns.length ≤ 100 ∧ ∀ H', Same H H' → Q (.bl (ns.any fun n => decide (m < n))) H'
theorem scAbv : FnScope ["numbers", "most", "number"] ["numbers", "most"] (defScope sAbv) := ⟨rfl, rfl, rfl, by decide +kernel, rfl, by decide +kernel, by decide +kernel⟩
theorem ok_abv (T : Txt K mg t) : FnOk P w K mg base CX0 1 t.fAbv t.dAbv ["numbers", "most"] spAbv := by
  refine T.abv.fn.ok scAbv (fun vs H Q E h => ?_) (fun cdv A outer s H vs Q E hr h => ?_)
  · obtain ⟨a, ns, m, rfl, _⟩ := h
    rfl
  · obtain ⟨a, ns, m, rfl, hs, hlen, k⟩ := h
    refine ⟨_, pss_one (ps_ret (pe_callB (cr_any rfl) rfl T.any (by rfl) (pa_cons (pe_lc (own := [("number", 2)]) rfl scAbv.nd (pi_list (pv 0)) (show BlkOk ["numbers", "most", "number"] (defScope sAbv) _ [("number", 2)] from ⟨rfl, by decide +kernel, by decide +kernel, by decide +kernel, by decide +kernel⟩)
      (fun _ _ _ _ _ => pg_name (i := 2) scAbv.nd rfl (Or.inl rfl)) (fun _ _ _ _ _ => pts_nil) (fun _ _ _ _ _ => pe_cmpR op_gt (pv 2) (pv 1) (nomark _))) pa_nil))), ?_⟩
    have hlen2 : ns.length ≤ sizeLine := Nat.le_trans hlen (by decide)
    refine ⟨_, rfl, a, rfl, ⟨_, SqL.of hs⟩, fun D hD => lcp_list (ys := (ns.map fun n => decide (m < n)).map V.bl) hD (SqL.of hs) (by simp [nats]) (by simpa using hlen2) ?_ ?_ ?_⟩
    · exact fun x => rfl
    · intro i x y H' Q' hx hy hS q
      unfold nats at hx
      rw [List.getElem?_map] at hx
      rw [List.getElem?_map, List.getElem?_map] at hy
      cases e : ns[i]? with
      | none => rw [e] at hx; cases hx
      | some n =>
        rw [e] at hx hy
        cases hx
        cases hy
        refine ⟨_, rfl, _, rfl, _, _, rfl, rfl, ?_⟩
        have e2 : decide ((m : Int) < (n : Int)) = decide (m < n) := by simp
        show Q' (V.bl (decide ((m : Int) < (n : Int)))) H'
        rw [e2]
        exact q
    · refine ⟨D, _, rfl, SqL.of upd_same, ?_⟩
      have e := k _ (Same.new (o := .lst ((ns.map fun n => decide (m < n)).map V.bl)) hD)
      rw [List.any_map]
      exact e

/-! ### Nursery(), Stock(..) -/
def spNI (C : Addr) : Sp := fun vs H Q _ => ∃ (p dx : Addr), vs = [.ref p] ∧ H p = some (.ins C dx []) ∧ ∀ H' : Hp, NurAt C H' p Si58.init → (∀ b o, H b = some o → b ≠ p → H' b = some o) → Q .non H'
theorem scNI : FnScope ["self"] ["self"] (defScope sNurI) := ⟨rfl, rfl, rfl, by decide +kernel, rfl, by decide +kernel, by decide +kernel⟩
theorem ok_ni (T : Txt K mg t) : FnOk P w K mg base CX0 1 t.fNI t.dNI ["self"] (spNI t.cN) := by
  refine T.nFn.ok scNI (fun vs H Q E h => ?_) (fun cdv A outer s H vs Q E hr h => ?_)
  · obtain ⟨p, dx, rfl, _⟩ := h
    rfl
  · obtain ⟨p, dx, rfl, hp, k⟩ := h
    refine ⟨_, pss_cons (ps_fld (pv 0) pe_int rfl) (pss_cons (ps_fld (pv 0) (pe_lst (pa_cons pe_int (pa_cons pe_int (pa_cons pe_int pa_nil)))) rfl) (pss_cons (ps_fld (pv 0) (pe_lst (pa_cons pe_int pa_nil)) rfl)
      (pss_cons (ps_fld (pv 0) (pe_lst pa_nil) rfl) (pss_one (ps_fld (pv 0) (pe_lst pa_nil) rfl))))), ?_⟩
    refine ⟨_, rfl, p, t.cN, dx, [], rfl, hp, T.nCls, T.nBeds, (by show 0 < 1000; decide), ?_⟩
    have k0 : But p H (upd H p (.ins t.cN dx (putF "beds" (.int 1) []))) := But.put
    have p0 : upd H p (.ins t.cN dx (putF "beds" (.int 1) [])) p = some (.ins t.cN dx (putF "beds" (.int 1) [])) := upd_same
    generalize upd H p (.ins t.cN dx (putF "beds" (.int 1) [])) = H0 at k0 p0 ⊢
    refine ⟨by show 3 ≤ sizeLine; decide, fun a ha => ?_⟩
    have na : p ≠ a := ne_of_none p0 ha
    refine ⟨_, rfl, p, t.cN, dx, _, rfl, Eq.trans (upd_ne na) p0, T.nCls, T.nLoss, (by show 1 < 1000; decide), ?_⟩
    obtain ⟨H1, e1⟩ : ∃ H1, H1 = upd (upd H0 a (.lst [.int 0, .int 0, .int 0])) p (.ins t.cN dx (putF "losses" (.ref a) (putF "beds" (.int 1) []))) := ⟨_, rfl⟩
    have k1 : But p H0 H1 := by rw [e1]; exact (But.new ha).trans But.put
    have p1 : H1 p = some (.ins t.cN dx (putF "losses" (.ref a) (putF "beds" (.int 1) []))) := by rw [e1]; exact upd_same
    have a1 : H1 a = some (.lst [.int 0, .int 0, .int 0]) := by rw [e1, upd_ne na.symm]; exact upd_same
    rw [← e1]
    refine ⟨by show 1 ≤ sizeLine; decide, fun b hb => ?_⟩
    have nb : p ≠ b := ne_of_none p1 hb
    refine ⟨_, rfl, p, t.cN, dx, _, rfl, Eq.trans (upd_ne nb) p1, T.nCls, T.nSeed, (by show 2 < 1000; decide), ?_⟩
    obtain ⟨H2, e2⟩ : ∃ H2, H2 = upd (upd H1 b (.lst [.int 1])) p (.ins t.cN dx (putF "seedlings" (.ref b) (putF "losses" (.ref a) (putF "beds" (.int 1) [])))) := ⟨_, rfl⟩
    have k2 : But p H1 H2 := by rw [e2]; exact (But.new hb).trans But.put
    have p2 : H2 p = some (.ins t.cN dx (putF "seedlings" (.ref b) (putF "losses" (.ref a) (putF "beds" (.int 1) [])))) := by rw [e2]; exact upd_same
    have b2 : H2 b = some (.lst [.int 1]) := by rw [e2, upd_ne nb.symm]; exact upd_same
    rw [← e2]
    refine ⟨by show 0 ≤ sizeLine; decide, fun c hc => ?_⟩
    have nc : p ≠ c := ne_of_none p2 hc
    refine ⟨_, rfl, p, t.cN, dx, _, rfl, Eq.trans (upd_ne nc) p2, T.nCls, T.nGath, (by show 3 < 1000; decide), ?_⟩
    obtain ⟨H3, e3⟩ : ∃ H3, H3 = upd (upd H2 c (.lst [])) p (.ins t.cN dx (putF "gathered" (.ref c) (putF "seedlings" (.ref b) (putF "losses" (.ref a) (putF "beds" (.int 1) []))))) := ⟨_, rfl⟩
    have k3 : But p H2 H3 := by rw [e3]; exact (But.new hc).trans But.put
    have p3 : H3 p = some (.ins t.cN dx (putF "gathered" (.ref c) (putF "seedlings" (.ref b) (putF "losses" (.ref a) (putF "beds" (.int 1) []))))) := by rw [e3]; exact upd_same
    have c3 : H3 c = some (.lst []) := by rw [e3, upd_ne nc.symm]; exact upd_same
    rw [← e3]
    refine ⟨by show 0 ≤ sizeLine; decide, fun d hd => ?_⟩
    have nd : p ≠ d := ne_of_none p3 hd
    refine ⟨_, rfl, p, t.cN, dx, _, rfl, Eq.trans (upd_ne nd) p3, T.nCls, T.nWant, (by show 4 < 1000; decide), ?_⟩
    obtain ⟨H4, e4⟩ : ∃ H4, H4 = upd (upd H3 d (.lst [])) p (.ins t.cN dx (nf 1 a b c d)) := ⟨_, rfl⟩
    have k4 : But p H3 H4 := by rw [e4]; exact (But.new hd).trans But.put
    have p4 : H4 p = some (.ins t.cN dx (nf 1 a b c d)) := by rw [e4]; exact upd_same
    have d4 : H4 d = some (.lst []) := by rw [e4, upd_ne nd.symm]; exact upd_same
    show Q .non (upd (upd H3 d (.lst [])) p (.ins t.cN dx (nf 1 a b c d)))
    rw [← e4]
    exact k H4 ⟨dx, a, b, c, d, p4, k4 _ _ (k3 _ _ (k2 _ _ a1 na.symm) na.symm) na.symm, k4 _ _ (k3 _ _ b2 nb.symm) nb.symm, k4 _ _ c3 nc.symm, d4⟩ (((k0.trans k1).trans k2).trans (k3.trans k4))

def spSI (C : Addr) : Sp := fun vs H Q _ => ∃ (p dx a b : Addr), vs = [.ref p, .ref a, .ref b] ∧ H p = some (.ins C dx []) ∧ ∀ H' : Hp, H' p = some (.ins C dx (sf a b)) → But p H H' → Q .non H'
theorem scSI : FnScope ["self", "plants", "bags"] ["self", "plants", "bags"] (defScope sStoI) := ⟨rfl, rfl, rfl, by decide +kernel, rfl, by decide +kernel, by decide +kernel⟩
theorem ok_si (T : Txt K mg t) : FnOk P w K mg base CX0 1 t.fSI t.dSI ["self", "plants", "bags"] (spSI t.cS) := by
  refine T.sFn.ok scSI (fun vs H Q E h => ?_) (fun cdv A outer s H vs Q E hr h => ?_)
  · obtain ⟨p, dx, a, b, rfl, _⟩ := h
    rfl
  · obtain ⟨p, dx, a, b, rfl, hp, k⟩ := h
    refine ⟨_, pss_cons (ps_fld (pv 0) (pv 1) rfl) (pss_one (ps_fld (pv 0) (pv 2) rfl)), ?_⟩
    refine ⟨_, rfl, _, rfl, p, t.cS, dx, [], rfl, hp, T.sCls, T.sPlan, (by show 0 < 1000; decide), ?_⟩
    refine ⟨_, rfl, _, rfl, p, t.cS, dx, _, rfl, upd_same, T.sCls, T.sBags, (by show 1 < 1000; decide), ?_⟩
    exact k _ upd_same (But.put.trans But.put)

/-! ### Sowings(..) -/
def wf (a b : Addr) : List (Str × V) := putF "stock" (.ref b) (putF "row" (.ref a) [])
theorem wf_row (a b : Addr) : (wf a b).lookup ("row" : Str) = some (.ref a) := by
  unfold wf
  rw [lookup_putF, if_neg (by decide +kernel), lookup_putF, if_pos rfl]
theorem wf_stock (a b : Addr) : (wf a b).lookup ("stock" : Str) = some (.ref b) := by
  unfold wf
  rw [lookup_putF, if_pos rfl]
def spWI (C : Addr) : Sp := fun vs H Q _ => ∃ (p dx a b : Addr), vs = [.ref p, .ref a, .ref b] ∧ H p = some (.ins C dx []) ∧ ∀ H' : Hp, H' p = some (.ins C dx (wf a b)) → But p H H' → Q .non H'
theorem scWI : FnScope ["self", "row", "stock"] ["self", "row", "stock"] (defScope sSowI) := ⟨rfl, rfl, rfl, by decide +kernel, rfl, by decide +kernel, by decide +kernel⟩
theorem ok_wi (T : Txt K mg t) : FnOk P w K mg base CX0 1 t.fWI t.dWI ["self", "row", "stock"] (spWI t.cW) := by
  refine T.wFn.ok scWI (fun vs H Q E h => ?_) (fun cdv A outer s H vs Q E hr h => ?_)
  · obtain ⟨p, dx, a, b, rfl, _⟩ := h
    rfl
  · obtain ⟨p, dx, a, b, rfl, hp, k⟩ := h
    refine ⟨_, pss_cons (ps_fld (pv 0) (pv 1) rfl) (pss_one (ps_fld (pv 0) (pv 2) rfl)), ?_⟩
    refine ⟨_, rfl, _, rfl, p, t.cW, dx, [], rfl, hp, T.wCls, T.wRow, (by show 0 < 1000; decide), ?_⟩
    refine ⟨_, rfl, _, rfl, p, t.cW, dx, _, rfl, upd_same, T.wCls, T.wStk, (by show 1 < 1000; decide), ?_⟩
    exact k _ upd_same (But.put.trans But.put)

/-! ### plants_unlifted -/
def spUnl : Sp := fun vs H Q _ => ∃ (a : Addr) (o tw th wt u : Nat), vs = [.ref a, .int wt, .int u] ∧ H a = some (.lst (nats [o, tw, th])) ∧
  ∀ H', Same H H' → (wt < u ∨ tw < u ∨ th < wt - u → Q .non H') ∧ (¬ (wt < u ∨ tw < u ∨ th < wt - u) → ∀ q, H' q = some (.lst (nats [o, tw - u, th - (wt - u)])) → Q (.ref q) H')
theorem scUnl : FnScope ["plants", "wanted", "lifted_of_two", "lifted_of_three"] ["plants", "wanted", "lifted_of_two"] (defScope sUnl) := ⟨rfl, rfl, rfl, by decide +kernel, rfl, by decide +kernel, by decide +kernel⟩
theorem ok_unl (T : Txt K mg t) : FnOk P w K mg base CX0 1 t.fUnl t.dUnl ["plants", "wanted", "lifted_of_two"] spUnl := by
  refine T.unl.fn.ok scUnl (fun vs H Q E h => ?_) (fun cdv A outer s H vs Q E hr h => ?_)
  · obtain ⟨a, o, tw, th, wt, u, rfl, _⟩ := h
    rfl
  · obtain ⟨a, o, tw, th, wt, u, rfl, hs, k⟩ := h
    refine ⟨_, pss_cons (ps_if (PW.pt (pw_or (pt_cmpR op_gt (pv 2) (pv 1) (nomark _)) (pw_or1 (pt_cmpR op_gt (pv 2) (pe_ix ix_list (pv 0) pe_int (fun _ _ => rfl)) (nomark _))))) (pss_one (ps_ret pe_non)) pss_nil)
      (pss_cons (ps_set (i := 3) scUnl.nd rfl (Or.inl rfl) (pe_op op_sub (pv 1) (pv 2)))
      (pss_cons (ps_if (pt_cmpR op_gt (pv 3) (pe_ix ix_list (pv 0) pe_int (fun _ _ => rfl)) (nomark _)) (pss_one (ps_ret pe_non)) pss_nil)
      (pss_one (ps_ret (pe_lst (pa_cons (pe_ix ix_list (pv 0) pe_int (fun _ _ => rfl)) (pa_cons (pe_op op_sub (pe_ix ix_list (pv 0) pe_int (fun _ _ => rfl)) (pv 2)) (pa_cons (pe_op op_sub (pe_ix ix_list (pv 0) pe_int (fun _ _ => rfl)) (pv 3)) pa_nil)))))))), ?_⟩
    refine ⟨_, rfl, _, rfl, _, _, rfl, rfl, _, rfl, ?_⟩
    refine ite2 (fun hc => ?_) (fun hc => ?_)
    · have hc : (wt : Int) < (u : Int) := of_decide_eq_true hc
      exact iteT ((k H (Same.refl H)).1 (.inl (by omega)))
    have hc1 : ¬ (wt : Int) < (u : Int) := fun z => hc (decide_eq_true z)
    refine ⟨_, rfl, _, rfl, a, _, 1, _, rfl, rfl, SqL.of hs, at_of (j := 1) rfl (nats_get rfl), _, _, rfl, rfl, _, rfl, ?_⟩
    refine ite2 (fun hc => ?_) (fun hc => ?_)
    · have hc : (tw : Int) < (u : Int) := of_decide_eq_true hc
      exact (k H (Same.refl H)).1 (.inr (.inl (by omega)))
    have hc2 : ¬ (tw : Int) < (u : Int) := fun z => hc (decide_eq_true z)
    refine ⟨_, rfl, _, rfl, _, _, rfl, rfl, ?_⟩
    refine ⟨_, rfl, _, rfl, a, _, 2, _, rfl, rfl, SqL.of hs, at_of (j := 2) rfl (nats_get rfl), _, _, rfl, rfl, _, rfl, ?_⟩
    refine ite2 (fun hc => ?_) (fun hc => ?_)
    · have hc : ((th : Int) < (wt : Int) - (u : Int)) := of_decide_eq_true hc
      exact (k H (Same.refl H)).1 (.inr (.inr (by omega)))
    have hc3 : ¬ ((th : Int) < (wt : Int) - (u : Int)) := fun z => hc (decide_eq_true z)
    refine ⟨_, rfl, a, _, 0, _, rfl, rfl, SqL.of hs, at_of (j := 0) rfl (nats_get rfl), _, rfl, a, _, 1, _, rfl, rfl, SqL.of hs, at_of (j := 1) rfl (nats_get rfl), _, rfl, _, _, rfl, rfl,
      _, rfl, a, _, 2, _, rfl, rfl, SqL.of hs, at_of (j := 2) rfl (nats_get rfl), _, rfl, _, _, rfl, rfl, (by show 3 ≤ sizeLine; decide), fun q hq => ?_⟩
    refine (k _ (Same.new hq)).2 (by omega) q ?_
    refine Eq.trans upd_same ?_
    have e1 : (tw : Int) - (u : Int) = ((tw - u : Nat) : Int) := by omega
    have e2 : (th : Int) - ((wt : Int) - (u : Int)) = ((th - (wt - u) : Nat) : Int) := by omega
    show some (HO.lst [V.int (o : Int), V.int _, V.int _]) = some (HO.lst [V.int (o : Int), V.int _, V.int _])
    rw [← e1, ← e2]

end
end Nur

end
section
set_option Elab.async false
set_option linter.all false
set_option maxRecDepth 100000
set_option maxHeartbeats 2000000
namespace Nur
open PySem PySem.Spec PyProof.Rows L2
open PySem.W (Codec)
section
variable {P : Program} {w : World} {K : PySem.W.Frag} {mg : Str → Option Value} {base : Heap} {t : Adr}
/-! ### bags_taken -/
/-- how many bags of each are sown, the first first -/
def takes : List Nat → Nat → List Nat
  | [], _ => []
  | b :: r, n => min b n :: takes r (n - min b n)
theorem takes_length : ∀ (l : List Nat) (n : Nat), (takes l n).length = l.length
  | [], _ => rfl
  | b :: r, n => by
    show (takes r _).length + 1 = r.length + 1
    rw [takes_length r]
theorem takes_get : ∀ {l : List Nat} {n i b : Nat}, l[i]? = some b → (takes l n)[i]? = some (min b (n - ((takes l n).take i).sum))
  | [], _, _, _, h => by simp at h
  | c :: r, n, 0, b, h => by
    have e : c = b := Option.some.inj h
    subst e
    show some (min c n) = some (min c (n - 0))
    rw [Nat.sub_zero]
  | c :: r, n, i + 1, b, h => by
    have ih := takes_get (l := r) (n := n - min c n) (i := i) (b := b) h
    show (takes r (n - min c n))[i]? = some (min b (n - (min c n :: (takes r (n - min c n)).take i).sum))
    rw [ih, List.sum_cons, Nat.sub_sub]
theorem sum_take_nat : ∀ {l : List Nat} {i x : Nat}, l[i]? = some x → (l.take (i + 1)).sum = (l.take i).sum + x
  | [], i, x, h => by simp at h
  | a :: r, 0, x, h => by
    have e : a = x := Option.some.inj h
    subst e
    simp
  | a :: r, i + 1, x, h => by
    have ih := sum_take_nat (l := r) (i := i) (x := x) h
    show (a :: r.take (i + 1)).sum = (a :: r.take i).sum + x
    rw [List.sum_cons, List.sum_cons, ih]
    omega
theorem set_last_zero (k v : Nat) (r : List Nat) : (List.replicate (k + 1) 0 ++ r).set k v = List.replicate k 0 ++ v :: r := by
  rw [List.replicate_succ', List.append_assoc, List.set_append_right _ _ (by simp)]
  simp
theorem nats_set (l : List Nat) (i v : Nat) : (nats l).set i (.int (v : Int)) = nats (l.set i v) := by
  unfold nats
  rw [List.map_set]
theorem min_int (a b : Nat) : (if (b : Int) < (a : Int) then (b : Int) else (a : Int)) = ((min a b : Nat) : Int) := by
  split <;> omega
def taken (l : List Nat) (n : Nat) : List Nat := (takes l.reverse n).reverse
theorem taken_length (l : List Nat) (n : Nat) : (taken l n).length = l.length := by
  unfold taken
  rw [List.length_reverse, takes_length, List.length_reverse]
def spTak : Sp := fun vs H Q _ => ∃ (a : Addr) (l : List Nat) (n : Nat), vs = [.ref a, .int n] ∧ H a = some (.lst (nats l)) ∧ l.length ≤ 4 ∧ ∀ H' q, Same H H' → H' q = some (.lst (nats (taken l n))) → Q (.ref q) H'
theorem scTak : FnScope ["bags", "sown", "taken", "missing", "age"] ["bags", "sown"] (defScope sTak) := ⟨rfl, rfl, rfl, by decide +kernel, rfl, by decide +kernel, by decide +kernel⟩
theorem ok_tak (T : Txt K mg t) : FnOk P w K mg base CX0 1 t.fTak t.dTak ["bags", "sown"] spTak := by
  refine T.tak.fn.ok scTak (fun vs H Q E h => ?_) (fun cdv A outer s H vs Q E hr h => ?_)
  · obtain ⟨a, l, n, rfl, _⟩ := h
    rfl
  · obtain ⟨a, l, n, rfl, hs, hlen, k⟩ := h
    refine ⟨_, pss_cons (ps_set (i := 2) scTak.nd rfl (Or.inl rfl) (pe_op op_rep (pe_lst (pa_cons pe_int pa_nil)) (pe_callB call_len_seq (by rfl) T.len PySem.boot_len (pa_cons (pv 0) pa_nil))))
      (pss_cons (ps_set (i := 3) scTak.nd rfl (Or.inl rfl) (pv 1))
      (pss_cons (ps_for PassesOwn.never rfl (pi_range3 rfl T.range (pa_cons (pe_op op_sub (pe_callB call_len_seq (by rfl) T.len PySem.boot_len (pa_cons (pv 0) pa_nil)) pe_int) (pa_cons (pe_un un_neg pe_int) (pa_cons (pe_un un_neg pe_int) pa_nil)))) (pg_name (i := 4) scTak.nd rfl (Or.inl rfl))
        (pss_cons (ps_asg (pe_callB (call_min2 rfl) rfl T.min (by rfl) (pa_cons (pe_ix ix_list (pv 0) (pv 4) (fun _ _ => rfl)) (pa_cons (pv 3) pa_nil))) (pg_sub (pv 2) (pv 4) set_list))
        (pss_one (ps_set (i := 3) scTak.nd rfl (Or.inl rfl) (pe_op op_sub (pv 3) (pe_ix ix_list (pv 2) (pv 4) (fun _ _ => rfl)))))))
      (pss_one (ps_ret (pv 2))))), ?_⟩
    refine ⟨(by show 1 ≤ sizeLine; decide), fun z hz => ?_⟩
    have hs1 : upd H z (.lst [.int 0]) a = some (.lst (nats l)) := by rw [upd_ne (ne_of_none hs hz)]; exact hs
    have hz1 : ([V.int 0] : List V).length * ((nats l).length : Int).toNat ≤ sizeLine := by
      have e : 100 ≤ sizeLine := by decide
      rw [nats_length]
      show 1 * _ ≤ _
      omega
    refine ⟨_, rfl, a, _, rfl, .inl (SqL.of hs1), z, _, _, rfl, rfl, upd_same, (by rw [nats_length]; omega), (by rw [nats_length]; omega), hz1, fun q hq => ?_⟩
    have S1 : Same H (upd H z (.lst [.int 0])) := Same.new hz
    have S2 : Same H (upd (upd H z (.lst [.int 0])) q (.lst (List.replicate ((nats l).length : Int).toNat [V.int 0]).flatten)) := S1.trans (Same.new hq)
    have e0 : (List.replicate ((nats l).length : Int).toNat [V.int 0]).flatten = nats (List.replicate l.length 0 ++ ((takes l.reverse n).take 0).reverse) := by
      rw [nats_length, Int.toNat_natCast, List.take_zero, List.reverse_nil, List.append_nil]
      unfold nats
      rw [List.map_replicate]
      clear hs hlen k hs1 hq S2
      induction l.length with
      | zero => rfl
      | succ m ih => rw [List.replicate_succ, List.flatten_cons, ih, List.replicate_succ]; rfl
    rw [e0] at S2 ⊢
    have hqn : H q = none := S1.free hq
    -- missing = sown; the loop
    refine ⟨_, rfl, ?_⟩
    obtain ⟨H1, e1⟩ : ∃ H1, H1 = upd (upd H z (.lst [.int 0])) q (.lst (nats (List.replicate l.length 0 ++ ((takes l.reverse n).take 0).reverse))) := ⟨_, rfl⟩
    have hq1 : H1 q = some (.lst (nats (List.replicate l.length 0 ++ ((takes l.reverse n).take 0).reverse))) := by rw [e1]; exact upd_same
    rw [← e1] at S2
    rw [← e1]
    clear e1 hq
    have ha1 : H1 a = some (.lst (nats l)) := S2 _ _ hs
    have eN : ((((nats l).length : Int) - 1) - (-1)).toNat = l.length := by rw [nats_length]; omega
    refine ⟨_, rfl, a, _, rfl, .inl (SqL.of ha1), _, _, rfl, rfl, _, rfl, _, rfl, _, _, _, _, rfl, RgC.neg (by rw [nats_length]; omega) (by rw [nats_length]; omega) (by decide) (by decide), ?_⟩
    rw [eN]
    refine for_rangeC (fun i σ H' => ∃ v4 : Option V, σ = [some (.ref a), some (.int (n : Int)), some (.ref q), some (.int ((n - ((takes l.reverse n).take i).sum : Nat) : Int)), v4] ∧ Same H H' ∧
      H' q = some (.lst (nats (List.replicate (l.length - i) 0 ++ ((takes l.reverse n).take i).reverse)))) ⟨none, rfl, S2, hq1⟩ ?_ ?_
    · rintro i σ H' hi ⟨v4, rfl, S3, hq3⟩
      have ha3 := S3 _ _ hs
      obtain ⟨b, hb⟩ : ∃ b, l.reverse[i]? = some b := ⟨_, List.getElem?_eq_getElem (by rw [List.length_reverse]; exact hi)⟩
      have hb2 : l[l.length - 1 - i]? = some b := by rw [List.getElem?_reverse hi] at hb; exact hb
      have ei : (((nats l).length : Int) - 1) + (i : Int) * (-1) = ((l.length - 1 - i : Nat) : Int) := by rw [nats_length]; omega
      have hg := takes_get (n := n) hb
      rw [ei]
      refine ⟨_, rfl, _, rfl, a, _, _, _, rfl, rfl, SqL.of ha3, at_of rfl (nats_get hb2), _, rfl, _, _, rfl, ?_⟩
      rw [min_int]
      have ej : l.length - i = (l.length - 1 - i) + 1 := by omega
      have el : (nats (List.replicate (l.length - i) 0 ++ ((takes l.reverse n).take i).reverse)).length = l.length := by
        rw [nats_length, List.length_append, List.length_replicate, List.length_reverse, List.length_take, takes_length, List.length_reverse]
        omega
      refine ⟨_, rfl, _, rfl, q, _, _, l.length - 1 - i, rfl, rfl, hq3, (by rw [el]; unfold ixN; rw [if_pos (by omega), if_pos (by omega)]; simp), ?_⟩
      rw [nats_set, ej, set_last_zero]
      have et : (takes l.reverse n).take (i + 1) = (takes l.reverse n).take i ++ [min b (n - ((takes l.reverse n).take i).sum)] := take_succ_of hg
      have es := sum_take_nat hg
      have er : List.replicate (l.length - 1 - i) 0 ++ (min b (n - ((takes l.reverse n).take i).sum)) :: ((takes l.reverse n).take i).reverse = List.replicate (l.length - (i + 1)) 0 ++ ((takes l.reverse n).take (i + 1)).reverse := by
        rw [et, List.reverse_append]
        congr 2
        omega
      rw [er]
      have eg : (List.replicate (l.length - (i + 1)) 0 ++ ((takes l.reverse n).take (i + 1)).reverse)[l.length - 1 - i]? = some (min b (n - ((takes l.reverse n).take i).sum)) := by
        rw [← er, List.getElem?_append_right (by simp)]
        simp
      refine ⟨_, rfl, _, rfl, _, rfl, q, _, _, _, rfl, rfl, SqL.of upd_same, at_of rfl (nats_get eg), _, _, rfl, rfl, ?_⟩
      refine ⟨some (.int ((l.length - 1 - i : Nat) : Int)), ?_, fun b o e => by rw [upd_ne (ne_of_none e hqn)]; exact S3 b o e, upd_same⟩
      have ez : ((n - ((takes l.reverse n).take i).sum : Nat) : Int) - ((min b (n - ((takes l.reverse n).take i).sum) : Nat) : Int) = ((n - ((takes l.reverse n).take (i + 1)).sum : Nat) : Int) := by
        rw [es]
        omega
      rw [← ez]
      rfl
    · rintro σ H' ⟨v4, rfl, S3, hq3⟩
      refine ⟨_, rfl, ?_⟩
      refine k H' q S3 ?_
      rw [hq3, Nat.sub_self, List.take_of_length_le (by rw [takes_length, List.length_reverse]; exact Nat.le_refl _)]
      rfl
end
end Nur

end
section
set_option Elab.async false
set_option linter.all false
set_option maxRecDepth 100000
set_option maxHeartbeats 2000000
namespace Nur
open PySem PySem.Spec PyProof.Rows L2
open PySem.W (Codec)
section
variable {P : Program} {w : World} {K : PySem.W.Frag} {mg : Str → Option Value} {base : Heap} {t : Adr}
/-! ### stock_at_beginning -/
def spSt0 (C CS : Addr) : Sp := fun vs H Q _ => ∃ (p : Addr) (k : Si58.Nursery), vs = [.ref p] ∧ NurAt C H p k ∧ Fine k ∧ ∀ H' q, Same H H' → StockAt CS H' q k.empty → Q (.ref q) H'
theorem scSt0 : FnScope ["nursery"] ["nursery"] (defScope sSt0) := ⟨rfl, rfl, rfl, by decide +kernel, rfl, by decide +kernel, by decide +kernel⟩
theorem flat_zeros (n : Nat) : (List.replicate n [V.int 0]).flatten = nats (List.replicate n 0) := by
  unfold nats
  rw [List.map_replicate]
  induction n with
  | zero => rfl
  | succ m ih => rw [List.replicate_succ, List.flatten_cons, ih, List.replicate_succ]; rfl
theorem ok_st0 (T : Txt K mg t) : FnOk P w K mg base CX0 3 t.fSt0 t.dSt0 ["nursery"] (spSt0 t.cN t.cS) := by
  have GS : FnOk P w K mg base CX0 1 t.fSI t.dSI ["self", "plants", "bags"] (spSI t.cS) := ok_si T
  refine T.st0.fn.ok scSt0 (fun vs H Q E h => ?_) (fun cdv A outer s H vs Q E hr h => ?_)
  · obtain ⟨p, k, rfl, _⟩ := h
    rfl
  · obtain ⟨p, k, rfl, ⟨dx, a, b, c, d, hp, hA, hB, hC, hD⟩, fine, kk⟩ := h
    refine ⟨_, pss_one (ps_ret (pe_make T.sMk GS hr rfl T.sGl T.sBn .nil pass0 (pa_cons (pe_lst (pa_cons pe_int (pa_cons pe_int (pa_cons pe_int pa_nil))))
      (pa_cons (pe_op op_rep (pe_lst (pa_cons pe_int pa_nil)) (pe_callB call_len_seq (by rfl) T.len PySem.boot_len (pa_cons (pe_fld (pv 0) rfl) pa_nil))) pa_nil)))), ?_⟩
    refine ⟨(by show 3 ≤ sizeLine; decide), fun x hx => ?_⟩
    refine ⟨(by show 1 ≤ sizeLine; decide), fun z hz => ?_⟩
    have S1 : Same H (upd H x (.lst [.int 0, .int 0, .int 0])) := Same.new hx
    have S2 := S1.trans (Same.new (o := .lst [.int 0]) hz)
    have x2 : upd (upd H x (.lst [.int 0, .int 0, .int 0])) z (.lst [.int 0]) x = some (.lst [.int 0, .int 0, .int 0]) := by
      rw [upd_ne (ne_of_none upd_same hz)]; exact upd_same
    have z2 : upd (upd H x (.lst [.int 0, .int 0, .int 0])) z (.lst [.int 0]) z = some (.lst [.int 0]) := upd_same
    generalize upd (upd H x (.lst [.int 0, .int 0, .int 0])) z (.lst [.int 0]) = H2 at S2 x2 z2 ⊢
    have hz1 : ([V.int 0] : List V).length * ((nats k.germ).length : Int).toNat ≤ sizeLine := by
      have e : 100 ≤ sizeLine := by decide
      have := fine.ages
      rw [nats_length]
      show 1 * _ ≤ _
      omega
    have := fine.ages
    refine ⟨_, rfl, p, t.cN, dx, _, _, rfl, S2 _ _ hp, T.nCls, T.nSeed, nf_seedlings .., b, _, rfl, .inl (SqL.of (S2 _ _ hB)), z, _, _, rfl, rfl, z2, (by rw [nats_length]; omega), (by rw [nats_length]; omega), hz1, fun q hq => ?_⟩
    rw [nats_length, Int.toNat_natCast, flat_zeros]
    intro y dy ny ndy ney
    refine ⟨y, dy, x, q, rfl, upd_same, fun H5 h5 k5 => ⟨rfl, ?_⟩⟩
    have S3 := S2.trans (Same.new (o := .lst (nats (List.replicate k.germ.length 0))) hq)
    have x3 : upd H2 q (.lst (nats (List.replicate k.germ.length 0))) x = _ := Eq.trans (upd_ne (ne_of_none x2 hq)) x2
    have q3 : upd H2 q (.lst (nats (List.replicate k.germ.length 0))) q = _ := upd_same
    have S5 := Same.made ny ndy k5
    exact kk H5 y (S3.trans S5) ⟨dy, x, q, h5, S5 _ _ x3, S5 _ _ q3⟩

/-! ### stock_after_winter -/
def spWin (C CS : Addr) : Sp := fun vs H Q _ => ∃ (p a b : Addr) (k : Si58.Nursery) (n o tw th : Nat) (l : List Nat), vs = [.ref p, .int n, .ref a, .ref b] ∧ NurAt C H p k ∧ Fine k ∧ H a = some (.lst (nats [o, tw, th])) ∧ H b = some (.lst (nats l)) ∧ l.length ≤ 4 ∧
  ∀ H' q, Same H H' → StockAt CS (newer H H') q ⟨0 :: l.dropLast, Si58.left k.lost.1 n, Si58.left k.lost.2.1 o, Si58.left k.lost.2.2 tw⟩ → Q (.ref q) H'
theorem scWin : FnScope ["nursery", "seedlings", "plants", "bags", "grown"] ["nursery", "seedlings", "plants", "bags"] (defScope sWin) := ⟨rfl, rfl, rfl, by decide +kernel, rfl, by decide +kernel, by decide +kernel⟩
theorem cut_last (l : List Nat) : cutV (nats l) none (some (-1)) = nats l.dropLast := by
  unfold cutV HT.sIx
  show List.take ((if (-1 : Int) < 0 then (-1 + ((nats l).length : Int)).toNat else min (-1 : Int).toNat (nats l).length) - 0) (List.drop 0 (nats l)) = nats l.dropLast
  rw [if_pos (by decide), List.drop_zero, nats_length, Nat.sub_zero, List.dropLast_eq_take]
  unfold nats
  rw [← List.map_take]
  congr 2
  omega
theorem ok_win (T : Txt K mg t) : FnOk P w K mg base CX0 3 t.fWin t.dWin ["nursery", "seedlings", "plants", "bags"] (spWin t.cN t.cS) := by
  have GS : FnOk P w K mg base CX0 1 t.fSI t.dSI ["self", "plants", "bags"] (spSI t.cS) := ok_si T
  have GL : FnOk P w K mg base CX0 1 t.fLef t.dLef ["plants", "loss"] spLef := ok_lef T
  refine T.win.fn.ok scWin (fun vs H Q E h => ?_) (fun cdv A outer s H vs Q E hr h => ?_)
  · obtain ⟨p, a, b, k, n, o, tw, th, l, rfl, _⟩ := h
    rfl
  · obtain ⟨p, a, b, k, n, o, tw, th, l, rfl, ⟨dx, a1, b1, c1, d1, hp, hA, hB, hC, hD⟩, fine, ha, hb, hl, kk⟩ := h
    have hr1 : Room 1 _ := hr.mono (by decide)
    refine ⟨_, pss_cons (ps_set (i := 4) scWin.nd rfl (Or.inl rfl) (pe_lst (pa_cons (pe_call GL hr1 rfl T.lef.gl T.lef.fn.kp T.lef.bn .nil pass0 (pa_cons (pv 1) (pa_cons (pe_ix ix_list (pe_fld (pv 0) rfl) pe_int (fun _ _ => rfl)) pa_nil)))
        (pa_cons (pe_call GL hr1 rfl T.lef.gl T.lef.fn.kp T.lef.bn .nil pass0 (pa_cons (pe_ix ix_list (pv 2) pe_int (fun _ _ => rfl)) (pa_cons (pe_ix ix_list (pe_fld (pv 0) rfl) pe_int (fun _ _ => rfl)) pa_nil)))
        (pa_cons (pe_call GL hr1 rfl T.lef.gl T.lef.fn.kp T.lef.bn .nil pass0 (pa_cons (pe_ix ix_list (pv 2) pe_int (fun _ _ => rfl)) (pa_cons (pe_ix ix_list (pe_fld (pv 0) rfl) pe_int (fun _ _ => rfl)) pa_nil))) pa_nil)))))
      (pss_one (ps_ret (pe_make T.sMk GS hr rfl T.sGl T.sBn .nil pass0 (pa_cons (pv 4) (pa_cons (pe_op op_cat (pe_lst (pa_cons pe_int pa_nil)) (pe_slice sl_list (pv 3) po_none (po_some (pe_un un_neg pe_int)))) pa_nil))))), ?_⟩
    refine ⟨_, rfl, _, rfl, p, t.cN, dx, _, _, rfl, hp, T.nCls, T.nLoss, nf_losses .., a1, _, 0, _, rfl, rfl, SqL.of hA, at_of (j := 0) rfl (nats_get rfl), n, k.lost.1, rfl, fine.l1, ?_⟩
    refine ⟨_, rfl, a, _, 0, _, rfl, rfl, SqL.of ha, at_of (j := 0) rfl (nats_get rfl), _, rfl, p, t.cN, dx, _, _, rfl, hp, T.nCls, T.nLoss, nf_losses .., a1, _, 1, _, rfl, rfl, SqL.of hA, at_of (j := 1) rfl (nats_get rfl), o, k.lost.2.1, rfl, fine.l2, ?_⟩
    refine ⟨_, rfl, a, _, 1, _, rfl, rfl, SqL.of ha, at_of (j := 1) rfl (nats_get rfl), _, rfl, p, t.cN, dx, _, _, rfl, hp, T.nCls, T.nLoss, nf_losses .., a1, _, 2, _, rfl, rfl, SqL.of hA, at_of (j := 2) rfl (nats_get rfl), tw, k.lost.2.2, rfl, fine.l3, ?_⟩
    refine ⟨(by show 3 ≤ sizeLine; decide), fun g hg => ?_⟩
    refine ⟨_, rfl, ?_⟩
    have S1 : Same H (upd H g (.lst (nats [Si58.left k.lost.1 n, Si58.left k.lost.2.1 o, Si58.left k.lost.2.2 tw]))) := Same.new hg
    have g1 : upd H g (.lst (nats [Si58.left k.lost.1 n, Si58.left k.lost.2.1 o, Si58.left k.lost.2.2 tw])) g = some (.lst (nats [Si58.left k.lost.1 n, Si58.left k.lost.2.1 o, Si58.left k.lost.2.2 tw])) := upd_same
    show tCons _ _ _ (upd H g (.lst (nats [Si58.left k.lost.1 n, Si58.left k.lost.2.1 o, Si58.left k.lost.2.2 tw]))) _
    generalize upd H g (.lst (nats [Si58.left k.lost.1 n, Si58.left k.lost.2.1 o, Si58.left k.lost.2.2 tw])) = H1 at S1 g1 ⊢
    refine ⟨(by show 1 ≤ sizeLine; decide), fun z hz => ?_⟩
    have S2 : Same H1 (upd H1 z (.lst [.int 0])) := Same.new hz
    have z2 : upd H1 z (.lst [.int 0]) z = some (.lst [.int 0]) := upd_same
    generalize upd H1 z (.lst [.int 0]) = H2 at S2 z2 ⊢
    refine ⟨_, rfl, _, rfl, _, rfl, b, _, rfl, SqL.of (S2 _ _ (S1 _ _ hb)), fun c hc => ?_⟩
    show rCat _ _ (upd H2 c (.lst (cutV (nats l) none (some (-1))))) _
    rw [cut_last]
    have S3 : Same H2 (upd H2 c (.lst (nats l.dropLast))) := Same.new hc
    have c3 : upd H2 c (.lst (nats l.dropLast)) c = some (.lst (nats l.dropLast)) := upd_same
    generalize upd H2 c (.lst (nats l.dropLast)) = H3 at S3 c3 ⊢
    have hz1 : ([V.int 0] : List V).length + (nats l.dropLast).length ≤ sizeLine := by
      have e : 100 ≤ sizeLine := by decide
      rw [nats_length, List.length_dropLast]
      show 1 + _ ≤ _
      omega
    refine ⟨z, c, _, _, rfl, rfl, S3 _ _ z2, c3, hz1, fun q hq => ?_⟩
    have S4 : Same H3 (upd H3 q (.lst (nats (0 :: l.dropLast)))) := Same.new hq
    have q4 : upd H3 q (.lst (nats (0 :: l.dropLast))) q = some (.lst (nats (0 :: l.dropLast))) := upd_same
    show tNil _ (upd H3 q (.lst (nats (0 :: l.dropLast)))) _
    generalize upd H3 q (.lst (nats (0 :: l.dropLast))) = H4 at S4 q4 ⊢
    intro y dy ny ndy ney
    refine ⟨y, dy, g, q, rfl, upd_same, fun H5 h5 k5 => ⟨rfl, ?_⟩⟩
    have S5 := Same.made ny ndy k5
    have S03 := (S1.trans S2).trans S3
    exact kk H5 y ((S03.trans S4).trans S5) ⟨dy, g, q, newer_get ((S03.trans S4).free ny) h5, newer_get hg (S5 _ _ (S4 _ _ (S3 _ _ (S2 _ _ g1)))), newer_get (S03.free hq) (S5 _ _ q4)⟩
end
end Nur

end
section
set_option Elab.async false
set_option linter.all false
set_option maxRecDepth 100000
set_option maxHeartbeats 2000000
namespace Nur
/-! ### the mathematics of a year -/
theorem sow_eq : ∀ (l : List (Nat × Nat)) (n : Nat), Si58.sow l n = if n ≤ (l.map (·.1)).sum then
    some (List.zipWith (fun a b => a - b) (l.map (·.1)) (takes (l.map (·.1)) n), (List.zipWith (fun a b => a * b) (takes (l.map (·.1)) n) (l.map (·.2))).sum) else none
  | [], 0 => rfl
  | [], n + 1 => rfl
  | x :: l, n => by
    show (Si58.sow l (n - min x.1 n)).map _ = _
    rw [sow_eq l]
    have es : ((x :: l).map (·.1)).sum = x.1 + (l.map (·.1)).sum := by simp
    rw [es]
    by_cases h : n - min x.1 n ≤ (l.map (·.1)).sum
    · rw [if_pos h, if_pos (by omega)]
      rfl
    · rw [if_neg h, if_neg (by omega)]
      rfl
theorem sum_rev (l : List Nat) : l.reverse.sum = l.sum := by
  induction l with
  | nil => rfl
  | cons a r ih => rw [List.reverse_cons, List.sum_append, ih]; simp; omega
theorem zipWith_rev {f : Nat → Nat → Nat} {l m : List Nat} (h : l.length = m.length) : List.zipWith f l.reverse m.reverse = (List.zipWith f l m).reverse := by
  rw [List.reverse_zipWith h]
/-- so many bags of bs sown, the oldest first, by germ g -/
theorem sow_rev (bs g : List Nat) (n : Nat) (h : bs.length = g.length) : Si58.sow (bs.zip g).reverse n = if n ≤ bs.sum then
    some ((List.zipWith (fun a b => a - b) bs (taken bs n)).reverse, (List.zipWith (fun a b => a * b) (taken bs n) g).sum) else none := by
  rw [sow_eq]
  have e1 : ((bs.zip g).reverse.map (·.1)) = bs.reverse := by
    rw [List.map_reverse]
    congr 1
    exact List.map_fst_zip (by omega)
  have e2 : ((bs.zip g).reverse.map (·.2)) = g.reverse := by
    rw [List.map_reverse]
    congr 1
    exact List.map_snd_zip (by omega)
  rw [e1, e2, sum_rev]
  have e3 : takes bs.reverse n = (taken bs n).reverse := by
    unfold taken
    rw [List.reverse_reverse]
  rw [e3, zipWith_rev (by rw [taken_length]), zipWith_rev (by rw [taken_length, h]), sum_rev]
theorem gathered_length (l : List Nat) (h : Nat) : (Si58.gathered l h).length = l.length := by
  cases l <;> rfl
/-- a year whose lifted plants are fine -/
theorem year_eq (k : Si58.Nursery) (s : Si58.Now) (h wt x u : Nat) (hl : s.store.length = k.germ.length) : k.year s h wt x u =
    if k.beds < x ∨ (Si58.gathered s.store h).sum < x ∨ wt < u ∨ s.two < u ∨ s.three < wt - u then none else
      some ⟨0 :: (List.zipWith (fun a b => a - b) (Si58.gathered s.store h) (taken (Si58.gathered s.store h) x)).dropLast,
        Si58.left k.lost.1 ((List.zipWith (fun a b => a * b) (taken (Si58.gathered s.store h) x) k.germ).sum), Si58.left k.lost.2.1 s.one, Si58.left k.lost.2.2 (s.two - u)⟩ := by
  unfold Si58.Nursery.year
  rw [sow_rev _ _ _ (by rw [gathered_length, hl])]
  by_cases h1 : k.beds < x ∨ wt < u ∨ s.two < u ∨ s.three < wt - u
  · rw [if_pos h1, if_pos (by omega)]
  · rw [if_neg h1]
    by_cases h2 : x ≤ (Si58.gathered s.store h).sum
    · rw [if_pos h2, if_neg (by omega)]
      simp
    · rw [if_neg h2, if_pos (by omega)]
      rfl
theorem year_first (k : Si58.Nursery) (s : Si58.Now) (h wt x : Nat) (hl : s.store.length = k.germ.length) : k.year s h wt x (s.besides wt) =
    if k.beds < x ∨ (Si58.gathered s.store h).sum < x ∨ s.two < wt - s.three then none else
      some ⟨0 :: (List.zipWith (fun a b => a - b) (Si58.gathered s.store h) (taken (Si58.gathered s.store h) x)).dropLast,
        Si58.left k.lost.1 ((List.zipWith (fun a b => a * b) (taken (Si58.gathered s.store h) x) k.germ).sum), Si58.left k.lost.2.1 s.one, Si58.left k.lost.2.2 (s.two - (wt - s.three))⟩ := by
  rw [year_eq k s h wt x _ hl]
  unfold Si58.Now.besides
  by_cases c : k.beds < x ∨ (Si58.gathered s.store h).sum < x ∨ s.two < wt - s.three
  · rw [if_pos c, if_pos (by omega)]
  · rw [if_neg c, if_neg (by omega)]
/-- as many ages as are told, whatever the year -/
theorem year_store {k : Si58.Nursery} {s t : Si58.Now} {h wt x u : Nat} (hl : s.store.length = k.germ.length) (h1 : 1 ≤ k.germ.length) (e : k.year s h wt x u = some t) : t.store.length = k.germ.length := by
  rw [year_eq k s h wt x u hl] at e
  split at e
  · cases e
  · cases e
    show (List.dropLast _).length + 1 = _
    rw [List.length_dropLast, List.length_zipWith, gathered_length, taken_length, gathered_length, hl]
    omega
end Nur

end
section
set_option Elab.async false
set_option linter.all false
set_option maxRecDepth 100000
set_option maxHeartbeats 2000000
namespace Nur
open PySem PySem.Spec PyProof.Rows L2
open PySem.W (Codec)
section
variable {P : Program} {w : World} {K : PySem.W.Frag} {mg : Str → Option Value} {base : Heap} {t : Adr}
/-! ### stock_behind -/
theorem sum_cast (l : List Nat) : (l.map fun (n : Nat) => (n : Int)).sum = (l.sum : Int) := by
  induction l with
  | nil => rfl
  | cons a r ih => rw [List.map_cons, List.sum_cons, List.sum_cons, ih]; omega
theorem taken_le {l : List Nat} {n i b : Nat} (h : l[i]? = some b) : ∃ v, (taken l n)[i]? = some v ∧ v ≤ b := by
  have hi : i < l.length := (List.getElem?_eq_some_iff.mp h).1
  have h2 : l.reverse[l.length - 1 - i]? = some b := by
    rw [List.getElem?_reverse (by omega)]
    rw [show l.length - 1 - (l.length - 1 - i) = i by omega]
    exact h
  have g := takes_get (n := n) h2
  refine ⟨_, ?_, Nat.min_le_left _ (n - ((takes l.reverse n).take (l.length - 1 - i)).sum)⟩
  unfold taken
  rw [List.getElem?_reverse (by rw [takes_length, List.length_reverse]; exact hi), takes_length, List.length_reverse]
  exact g
theorem cut_from (l : List Nat) : cutV (nats l) (some 1) none = nats (l.drop 1) := by
  unfold cutV HT.sIx
  show List.take ((nats l).length - (if (1 : Int) < 0 then _ else min (1 : Int).toNat (nats l).length)) (List.drop (if (1 : Int) < 0 then _ else min (1 : Int).toNat (nats l).length) (nats l)) = nats (l.drop 1)
  rw [if_neg (by decide), nats_length]
  cases l with
  | nil => rfl
  | cons a r =>
    have e : min (1 : Int).toNat (a :: r).length = 1 := by
      show min 1 (r.length + 1) = 1
      omega
    rw [e]
    show List.take (r.length + 1 - 1) (nats r) = nats r
    exact List.take_of_length_le (by rw [nats_length]; omega)
/-- what is promised of a year: none, or the stock behind it, all of it new -/
def YearEnd (CS : Addr) (H : Hp) (Q : VK) : Option Si58.Now → Prop
  | none => ∀ H', Same H H' → Q .non H'
  | some s => ∀ H' q, Same H H' → StockAt CS (newer H H') q s → Q (.ref q) H'
theorem YearEnd.from {CS : Addr} {H H1 : Hp} {Q : VK} {r : Option Si58.Now} (S : Same H H1) (h : YearEnd CS H Q r) : YearEnd CS H1 Q r := by
  cases r with
  | none => exact fun H' S' => h H' (S.trans S')
  | some s => exact fun H' q S' hq => h H' q (S.trans S') (hq.mono (newer_from S))
def spBeh (C CS : Addr) : Sp := fun vs H Q _ => ∃ (p a : Addr) (k : Si58.Nursery) (s : Si58.Now) (i x u : Nat) (y : Nat × Nat), vs = [.ref p, .ref a, .int i, .int x, .int u] ∧ NurAt C H p k ∧ Fine k ∧ StockAt CS H a s ∧ s.store.length = k.germ.length ∧ k.years[i]? = some y ∧
  YearEnd CS H Q (k.year s y.1 y.2 x u)
abbrev nBeh : List Str := ["nursery", "stock", "year", "sown", "lifted_of_two", "bags", "plants", "taken", "seedlings", "unsown", "age"]
theorem scBeh : FnScope nBeh ["nursery", "stock", "year", "sown", "lifted_of_two"] (defScope sBeh) := ⟨rfl, rfl, rfl, by decide +kernel, rfl, by decide +kernel, by decide +kernel⟩
theorem ok_beh (T : Txt K mg t) : FnOk P w K mg base CX0 4 t.fBeh t.dBeh ["nursery", "stock", "year", "sown", "lifted_of_two"] (spBeh t.cN t.cS) := by
  have GW : FnOk P w K mg base CX0 3 t.fWin t.dWin ["nursery", "seedlings", "plants", "bags"] (spWin t.cN t.cS) := ok_win T
  have GT : FnOk P w K mg base CX0 1 t.fTak t.dTak ["bags", "sown"] spTak := ok_tak T
  have GU : FnOk P w K mg base CX0 1 t.fUnl t.dUnl ["plants", "wanted", "lifted_of_two"] spUnl := ok_unl T
  refine T.beh.fn.ok scBeh (fun vs H Q E h => ?_) (fun cdv A outer s H vs Q E hr h => ?_)
  · obtain ⟨p, a, k, s, i, x, u, y, rfl, _⟩ := h
    rfl
  · obtain ⟨p, a, k, sn, i, x, u, y, rfl, ⟨dx, a1, b1, c1, d1, hp, hA, hB, hC, hD⟩, fine, ⟨dy, sa, sb, hy, hsa, hsb⟩, hst, hyr, kk⟩ := h
    have hr1 : Room 1 _ := hr.mono (by decide)
    refine ⟨_, pss_cons (ps_set (i := 5) scBeh.nd rfl (Or.inr rfl) (pe_op op_cat (pe_lst (pa_cons (pe_op op_add (pe_ix ix_list (pe_fld (pv 1) rfl) pe_int (fun _ _ => rfl)) (pe_ix ix_list (pe_fld (pv 0) rfl) (pv 2) (fun _ _ => rfl))) pa_nil)) (pe_slice sl_list (pe_fld (pv 1) rfl) (po_some pe_int) po_none)))
      (pss_cons (ps_if (PW.pt (pw_or (pt_cmpR op_gt (pv 3) (pe_fld (pv 0) rfl) (nomark _)) (pw_or1 (pt_cmpR op_gt (pv 3) (pe_callB (cr_sum rfl) rfl T.sum (by rfl) (pa_cons (pv 5) pa_nil)) (nomark _))))) (pss_one (ps_ret pe_non)) pss_nil)
      (pss_cons (ps_set (i := 6) scBeh.nd rfl (Or.inl rfl) (pe_call GU hr1 rfl T.unl.gl T.unl.fn.kp T.unl.bn .nil pass0 (pa_cons (pe_fld (pv 1) rfl) (pa_cons (pe_ix ix_list (pe_fld (pv 0) rfl) (pv 2) (fun _ _ => rfl)) (pa_cons (pv 4) pa_nil)))))
      (pss_cons (ps_if (pt_cmpR op_isN (pv 6) pe_non (nomark _)) (pss_one (ps_ret pe_non)) pss_nil)
      (pss_cons (ps_set (i := 7) scBeh.nd rfl (Or.inr rfl) (pe_call GT hr1 rfl T.tak.gl T.tak.fn.kp T.tak.bn .nil pass0 (pa_cons (pv 5) (pa_cons (pv 3) pa_nil))))
      (pss_cons (ps_set (i := 8) scBeh.nd rfl (Or.inl rfl) (pe_callB (cr_sum rfl) rfl T.sum (by rfl) (pa_cons (pe_lc (own := [("age", 10)]) rfl scBeh.nd (pi_range1 rfl T.range (pa_cons (pe_callB call_len_seq (by rfl) T.len PySem.boot_len (pa_cons (pv 7) pa_nil)) pa_nil))
          (show BlkOk nBeh (defScope sBeh) _ [("age", 10)] from ⟨rfl, by decide +kernel, by decide +kernel, by decide +kernel, by decide +kernel⟩)
          (fun _ _ _ _ _ => pg_name (i := 10) scBeh.nd rfl (Or.inl rfl)) (fun _ _ _ _ _ => pts_nil) (fun _ _ _ _ _ => pe_op op_mul (pe_ix (ixK (K := K) rfl) (pv 7) (pv 10) (fun _ _ => rfl)) (pe_ix (ixK (K := K) rfl) (fldK (K := K) rfl (pv 0) rfl) (pv 10) (fun _ _ => rfl)))) pa_nil)))
      (pss_cons (ps_setLc (i := 9) (own := [("age", 10)]) rfl scBeh.nd rfl rfl rfl (pi_range1 rfl T.range (pa_cons (pe_callB call_len_seq (by rfl) T.len PySem.boot_len (pa_cons (pv 5) pa_nil)) pa_nil))
          (show BlkOk nBeh (defScope sBeh) _ [("age", 10)] from ⟨rfl, by decide +kernel, by decide +kernel, by decide +kernel, by decide +kernel⟩)
          (fun _ _ _ _ _ => pg_name (i := 10) scBeh.nd rfl (Or.inl rfl)) (fun _ _ _ _ _ => pts_nil) (fun _ _ _ _ _ => pe_op op_sub (pe_ix (ixK (K := K) rfl) (pv 5) (pv 10) (fun _ _ => rfl)) (pe_ix (ixK (K := K) rfl) (pv 7) (pv 10) (fun _ _ => rfl))))
      (pss_one (ps_ret (pe_call GW hr rfl T.win.gl T.win.fn.kp T.win.bn .nil pass0 (pa_cons (pv 0) (pa_cons (pv 8) (pa_cons (pv 6) (pa_cons (pv 9) pa_nil)))))))))))))
      , ?_⟩
    have hag := fine.ages
    obtain ⟨s0, hs0⟩ : ∃ s0, sn.store[0]? = some s0 := ⟨_, List.getElem?_eq_getElem (by omega)⟩
    have hg1 : (k.years.map (·.1))[i]? = some y.1 := by rw [List.getElem?_map, hyr]; rfl
    have hw1 : (k.years.map (·.2))[i]? = some y.2 := by rw [List.getElem?_map, hyr]; rfl
    -- bags = [..] + ..
    refine ⟨_, rfl, a, t.cS, dy, _, _, rfl, hy, T.sCls, T.sBags, sf_bags .., sb, _, 0, _, rfl, rfl, SqL.of hsb, at_of (j := 0) rfl (nats_get hs0),
      _, rfl, p, t.cN, dx, _, _, rfl, hp, T.nCls, T.nGath, nf_gathered .., _, rfl, c1, _, i, _, rfl, rfl, SqL.of hC, at_of (j := i) rfl (nats_get hg1), _, _, rfl, rfl, (by show 1 ≤ sizeLine; decide), fun z hz => ?_⟩
    have S1 : Same H (upd H z (.lst [.int ((s0 : Int) + (y.1 : Int))])) := Same.new hz
    have z1 : upd H z (.lst [.int ((s0 : Int) + (y.1 : Int))]) z = some (.lst [.int ((s0 : Int) + (y.1 : Int))]) := upd_same
    show tSl _ _ _ _ _ (upd H z (.lst [.int ((s0 : Int) + (y.1 : Int))])) _
    generalize upd H z (.lst [.int ((s0 : Int) + (y.1 : Int))]) = H1 at S1 z1 ⊢
    refine ⟨_, rfl, a, t.cS, dy, _, _, rfl, S1 _ _ hy, T.sCls, T.sBags, sf_bags .., _, rfl, sb, _, rfl, SqL.of (S1 _ _ hsb), fun c hc => ?_⟩
    rw [cut_from]
    have S2 : Same H1 (upd H1 c (.lst (nats (sn.store.drop 1)))) := Same.new hc
    have c2 : upd H1 c (.lst (nats (sn.store.drop 1))) c = some (.lst (nats (sn.store.drop 1))) := upd_same
    generalize upd H1 c (.lst (nats (sn.store.drop 1))) = H2 at S2 c2 ⊢
    have hz1 : ([V.int ((s0 : Int) + (y.1 : Int))] : List V).length + (nats (sn.store.drop 1)).length ≤ sizeLine := by
      have e : 100 ≤ sizeLine := by decide
      rw [nats_length, List.length_drop]
      show 1 + _ ≤ _
      omega
    refine ⟨z, c, _, _, rfl, rfl, S2 _ _ z1, c2, hz1, fun q hq => ?_⟩
    have eB : ([V.int ((s0 : Int) + (y.1 : Int))] : List V) ++ nats (sn.store.drop 1) = nats (Si58.gathered sn.store y.1) := by
      cases e : sn.store with
      | nil => rw [e] at hs0; simp at hs0
      | cons h r =>
        rw [e] at hs0
        have e2 : h = s0 := Option.some.inj hs0
        subst e2
        rfl
    rw [eB]
    obtain ⟨B, hB0⟩ : ∃ B, B = Si58.gathered sn.store y.1 := ⟨_, rfl⟩
    have hBl : B.length = k.germ.length := by rw [hB0, gathered_length, hst]
    rw [← hB0]
    have S3 : Same H2 (upd H2 q (.lst (nats B))) := Same.new hq
    have q3 : upd H2 q (.lst (nats B)) q = some (.lst (nats B)) := upd_same
    generalize upd H2 q (.lst (nats B)) = H3 at S3 q3 ⊢
    have S03 : Same H H3 := (S1.trans S2).trans S3
    rw [year_eq k sn y.1 y.2 x u hst, ← hB0] at kk
    -- if sown > nursery.beds or sown > sum(bags)
    refine ⟨_, rfl, _, rfl, p, t.cN, dx, _, _, rfl, S03 _ _ hp, T.nCls, T.nBeds, nf_beds .., _, _, rfl, rfl, _, rfl, ?_⟩
    refine ite2 (fun hc => ?_) (fun hc => ?_)
    · have hc : (k.beds : Int) < (x : Int) := of_decide_eq_true hc
      rw [if_pos (by omega)] at kk
      exact iteT (kk H3 S03)
    have hc1 : ¬ (k.beds : Int) < (x : Int) := fun z => hc (decide_eq_true z)
    refine ⟨_, rfl, _, rfl, q, B.map fun (n : Nat) => (n : Int), rfl, SqL.of (by rw [← nats_ints]; exact q3), _, _, rfl, rfl, _, rfl, ?_⟩
    rw [sum_cast]
    refine ite2 (fun hc => ?_) (fun hc => ?_)
    · have hc : (B.sum : Int) < (x : Int) := of_decide_eq_true hc
      rw [if_pos (by omega)] at kk
      exact kk H3 S03
    have hc2 : ¬ (B.sum : Int) < (x : Int) := fun z => hc (decide_eq_true z)
    -- plants = plants_unlifted(..)
    refine ⟨_, rfl, a, t.cS, dy, _, _, rfl, S03 _ _ hy, T.sCls, T.sPlan, sf_plants .., _, rfl, p, t.cN, dx, _, _, rfl, S03 _ _ hp, T.nCls, T.nWant, nf_wanted .., _, rfl, d1, _, i, _, rfl, rfl, SqL.of (S03 _ _ hD), at_of (j := i) rfl (nats_get hw1), _, rfl,
      sa, sn.one, sn.two, sn.three, y.2, u, rfl, S03 _ _ hsa, fun H4 S4 => ⟨fun hlt => ?_, fun hnl pl hpl => ?_⟩⟩
    · refine ⟨_, rfl, rfl, _, rfl, ?_⟩
      rw [if_pos (by omega)] at kk
      exact iteT (kk H4 (S03.trans S4))
    refine ⟨_, rfl, rfl, _, rfl, ?_⟩
    refine iteF ?_
    rw [if_neg (by omega)] at kk
    have S04 := S03.trans S4
    -- taken = bags_taken(bags, sown)
    refine ⟨_, rfl, _, rfl, q, B, x, rfl, S4 _ _ q3, by omega, fun H5 tk S5 htk => ?_⟩
    have S05 := S04.trans S5
    obtain ⟨G, hG⟩ : ∃ G, G = List.zipWith (fun a b => a * b) (taken B x) k.germ := ⟨_, rfl⟩
    have hGl : G.length = k.germ.length := by rw [hG, List.length_zipWith, taken_length, hBl, Nat.min_self]
    rw [← hG] at kk
    obtain ⟨U, hU⟩ : ∃ U, U = List.zipWith (fun a b => a - b) B (taken B x) := ⟨_, rfl⟩
    have hUl : U.length = k.germ.length := by rw [hU, List.length_zipWith, taken_length, hBl, Nat.min_self]
    rw [← hU] at kk
    have h100 : 100 ≤ sizeLine := by decide
    -- seedlings = sum([..])
    refine ⟨_, rfl, tk, _, rfl, .inl (SqL.of htk), _, rfl, (by rw [nats_length]; omega), (by rw [nats_length, taken_length]; omega), fun D hD5 => lcp_range (ys := nats G) hD5 (by rw [nats_length, hGl, nats_length, Int.toNat_natCast, taken_length, hBl]) (by rw [nats_length, hGl]; omega) ?_ ?_ ?_⟩
    · exact fun x => rfl
    · intro j v H' Q' hj hv hS qq
      rw [nats_length, Int.toNat_natCast, taken_length, hBl] at hj
      obtain ⟨b, hb⟩ : ∃ b, B[j]? = some b := ⟨_, List.getElem?_eq_getElem (by omega)⟩
      obtain ⟨tv, htv, _⟩ := taken_le (n := x) hb
      obtain ⟨g, hg⟩ : ∃ g, k.germ[j]? = some g := ⟨_, List.getElem?_eq_getElem hj⟩
      have hgl := fine.germ g (List.mem_of_getElem? hg)
      have eG : G[j]? = some (tv * g) := by rw [hG, List.getElem?_zipWith, htv, hg]
      rw [nats_get eG] at hv
      cases hv
      refine ⟨_, rfl, _, rfl, tk, _, _, _, rfl, rfl, SqL.of (hS _ _ htk), at_of (j := j) (by omega) (nats_get htv), _, rfl, p, t.cN, dx, _, _, rfl, hS _ _ (S05 _ _ hp), T.nCls, T.nSeed, nf_seedlings .., _, rfl, b1, _, _, _, rfl, rfl, SqL.of (hS _ _ (S05 _ _ hB)), at_of (j := j) (by omega) (nats_get hg),
        _, _, rfl, rfl, .inr ⟨by omega, by omega⟩, ?_⟩
      show Q' (V.int ((tv : Int) * (g : Int))) H'
      rw [← Int.natCast_mul]
      exact qq
    refine ⟨D, G.map fun (n : Nat) => (n : Int), rfl, SqL.of (by rw [← nats_ints]; exact upd_same), ?_⟩
    rw [sum_cast]
    have S6 : Same H5 (upd H5 D (.lst (nats G))) := Same.new hD5
    generalize upd H5 D (.lst (nats G)) = H6 at S6 ⊢
    have S06 := S05.trans S6
    -- unsown = [..]
    have q6 := S6 _ _ (S5 _ _ (S4 _ _ q3))
    have tk6 := S6 _ _ htk
    refine ⟨_, rfl, q, _, rfl, .inl (SqL.of q6), _, rfl, (by rw [nats_length]; omega), (by rw [nats_length]; omega), fun D2 hD6 => lcp_range (ys := nats U) hD6 (by rw [nats_length, hUl, nats_length, Int.toNat_natCast, hBl]) (by rw [nats_length, hUl]; omega) ?_ ?_ ?_⟩
    · exact fun x => rfl
    · intro j v H' Q' hj hv hS qq
      rw [nats_length, Int.toNat_natCast, hBl] at hj
      obtain ⟨b, hb⟩ : ∃ b, B[j]? = some b := ⟨_, List.getElem?_eq_getElem (by omega)⟩
      obtain ⟨tv, htv, hle⟩ := taken_le (n := x) hb
      have eU : U[j]? = some (b - tv) := by rw [hU, List.getElem?_zipWith, hb, htv]
      rw [nats_get eU] at hv
      cases hv
      refine ⟨_, rfl, _, rfl, q, _, _, _, rfl, rfl, SqL.of (hS _ _ q6), at_of (j := j) (by omega) (nats_get hb), _, rfl, _, rfl, tk, _, _, _, rfl, rfl, SqL.of (hS _ _ tk6), at_of (j := j) (by omega) (nats_get htv), _, _, rfl, rfl, ?_⟩
      show Q' (V.int ((b : Int) - (tv : Int))) H'
      rw [← Int.ofNat_sub hle]
      exact qq
    have S7 : Same H6 (upd H6 D2 (.lst (nats U))) := Same.new hD6
    have u7 : upd H6 D2 (.lst (nats U)) D2 = some (.lst (nats U)) := upd_same
    generalize upd H6 D2 (.lst (nats U)) = H7 at S7 u7 ⊢
    have S07 := S06.trans S7
    refine ⟨_, rfl, _, rfl, _, rfl, _, rfl, p, pl, D2, k, G.sum, sn.one, sn.two - u, sn.three - (y.2 - u), U, rfl, ⟨dx, a1, b1, c1, d1, S07 _ _ hp, S07 _ _ hA, S07 _ _ hB, S07 _ _ hC, S07 _ _ hD⟩, fine, S7 _ _ (S6 _ _ (S5 _ _ hpl)), u7, by omega, fun H8 r S8 hr8 => ?_⟩
    exact kk H8 r (S07.trans S8) (hr8.mono (newer_from S07))

/-! ### stock_behind_three_first -/
def spThr (C CS : Addr) : Sp := fun vs H Q _ => ∃ (p a : Addr) (k : Si58.Nursery) (s : Si58.Now) (i x : Nat) (y : Nat × Nat), vs = [.ref p, .ref a, .int i, .int x] ∧ NurAt C H p k ∧ Fine k ∧ StockAt CS H a s ∧ s.store.length = k.germ.length ∧ k.years[i]? = some y ∧
  YearEnd CS H Q (k.year s y.1 y.2 x (s.besides y.2))
theorem scThr : FnScope ["nursery", "stock", "year", "sown", "lifted_of_two"] ["nursery", "stock", "year", "sown"] (defScope sThr) := ⟨rfl, rfl, rfl, by decide +kernel, rfl, by decide +kernel, by decide +kernel⟩
theorem ok_thr (T : Txt K mg t) : FnOk P w K mg base CX0 5 t.fThr t.dThr ["nursery", "stock", "year", "sown"] (spThr t.cN t.cS) := by
  have GB : FnOk P w K mg base CX0 4 t.fBeh t.dBeh ["nursery", "stock", "year", "sown", "lifted_of_two"] (spBeh t.cN t.cS) := ok_beh T
  refine T.thr.fn.ok scThr (fun vs H Q E h => ?_) (fun cdv A outer s H vs Q E hr h => ?_)
  · obtain ⟨p, a, k, s, i, x, y, rfl, _⟩ := h
    rfl
  · obtain ⟨p, a, k, sn, i, x, y, rfl, hN, fine, hS, hst, hyr, kk⟩ := h
    obtain ⟨dx, a1, b1, c1, d1, hp, hA, hB, hC, hD⟩ := id hN
    obtain ⟨dy, sa, sb, hy, hsa, hsb⟩ := id hS
    have hw1 : (k.years.map (·.2))[i]? = some y.2 := by rw [List.getElem?_map, hyr]; rfl
    refine ⟨_, pss_cons (ps_set (i := 4) scThr.nd rfl (Or.inl rfl) (pe_callB (call_max2 rfl) rfl T.max (by rfl) (pa_cons (pe_op op_sub (pe_ix ix_list (pe_fld (pv 0) rfl) (pv 2) (fun _ _ => rfl)) (pe_ix ix_list (pe_fld (pv 1) rfl) pe_int (fun _ _ => rfl))) (pa_cons pe_int pa_nil))))
      (pss_one (ps_ret (pe_call GB hr rfl T.beh.gl T.beh.fn.kp T.beh.bn .nil pass0 (pa_cons (pv 0) (pa_cons (pv 1) (pa_cons (pv 2) (pa_cons (pv 3) (pa_cons (pv 4) pa_nil)))))))), ?_⟩
    refine ⟨_, rfl, p, t.cN, dx, _, _, rfl, hp, T.nCls, T.nWant, nf_wanted .., _, rfl, d1, _, i, _, rfl, rfl, SqL.of hD, at_of (j := i) rfl (nats_get hw1),
      _, rfl, a, t.cS, dy, _, _, rfl, hy, T.sCls, T.sPlan, sf_plants .., sa, _, 2, _, rfl, rfl, SqL.of hsa, at_of (j := 2) rfl (nats_get rfl), _, _, rfl, rfl, _, _, rfl, ?_⟩
    have e : (if (0 : Int) > (y.2 : Int) - (sn.three : Int) then (0 : Int) else (y.2 : Int) - (sn.three : Int)) = ((sn.besides y.2 : Nat) : Int) := by
      unfold Si58.Now.besides
      split <;> omega
    rw [e]
    exact ⟨_, rfl, _, rfl, _, rfl, _, rfl, _, rfl, p, a, k, sn, i, x, sn.besides y.2, y, rfl, hN, fine, hS, hst, hyr, kk⟩
end
end Nur

end
section
set_option Elab.async false
set_option linter.all false
set_option maxRecDepth 100000
set_option maxHeartbeats 2000000
namespace Nur
open PySem PySem.Spec PyProof.Rows L2
open PySem.W (Codec)
section
variable {P : Program} {w : World} {K : PySem.W.Frag} {mg : Str → Option Value} {base : Heap} {t : Adr}
/-! ### answers, cuts -/
/-- what is answered stands as a list at q -/
def AnsAt (H : Hp) (q : Addr) (r : Si58.Ans) : Prop := H q = some (.lst ((r.v :: r.l).map V.int))
theorem sIx_nat (n d i : Nat) : HT.sIx n d (some (i : Int)) = min i n := by
  unfold HT.sIx
  show (if ((i : Int) < 0) then _ else min (i : Int).toNat n) = min i n
  rw [if_neg (by omega), Int.toNat_natCast]
theorem cut_nat (l : List Nat) (i j : Nat) : cutV (nats l) (some (i : Int)) (some (j : Int)) = nats ((l.drop (min i l.length)).take (min j l.length - min i l.length)) := by
  unfold cutV
  rw [sIx_nat, sIx_nat, nats_length]
  unfold nats
  rw [← List.map_drop, ← List.map_take]
theorem cut_nat_end (l : List Nat) (i : Nat) : cutV (nats l) (some (i : Int)) none = nats (l.drop (min i l.length)) := by
  unfold cutV
  rw [sIx_nat, nats_length]
  show List.take (l.length - _) _ = _
  unfold nats
  rw [← List.map_drop, List.take_of_length_le]
  rw [List.length_map, List.length_drop]
  omega
theorem any_above_all (l : List Nat) (m : Nat) : (l.any fun n => decide (m < n)) = !(l.all fun x => decide (x ≤ m)) := by
  induction l with
  | nil => rfl
  | cons a r ih =>
    rw [List.any_cons, List.all_cons, ih, Bool.not_and]
    congr 1
    by_cases h : m < a
    · rw [decide_eq_true h, decide_eq_false (by omega)]; rfl
    · rw [decide_eq_false h, decide_eq_true (by omega)]; rfl

theorem nf_put_beds (z z' : Int) (a b c d : Addr) : putF "beds" (.int z') (nf z a b c d) = nf z' a b c d := by rfl
theorem nf_put_losses (z : Int) (a b c d a' : Addr) : putF "losses" (.ref a') (nf z a b c d) = nf z a' b c d := by rfl
theorem nf_put_seedlings (z : Int) (a b c d a' : Addr) : putF "seedlings" (.ref a') (nf z a b c d) = nf z a a' c d := by rfl
theorem nf_put_gathered (z : Int) (a b c d a' : Addr) : putF "gathered" (.ref a') (nf z a b c d) = nf z a b a' d := by rfl
theorem nf_put_wanted (z : Int) (a b c d a' : Addr) : putF "wanted" (.ref a') (nf z a b c d) = nf z a b c a' := by rfl
theorem nf_len (z : Int) (a b c d : Addr) : (nf z a b c d).length < 1000 := by
  show 5 < 1000
  decide

/-! ### answer_begins -/
def spBeg (C : Addr) : Sp := fun vs H Q _ => ∃ (p a o : Addr) (uo : HO) (k : Si58.Nursery) (b r1 r2 r3 : Nat) (g : List Nat), vs = [.ref p, .ref a] ∧ NurOff C H p k o ∧ H o = some uo ∧ H a = some (.lst (nats (b :: r1 :: r2 :: r3 :: g))) ∧ g.length ≤ 6 ∧
  ∀ H' q, H q = none → But p H H' → NurOff C H' p (Si58.step k (.begins b (r1, r2, r3) g)).1 o → AnsAt H' q (Si58.step k (.begins b (r1, r2, r3) g)).2 → Q (.ref q) H'
theorem scBeg : FnScope ["nursery", "numbers", "beds", "losses", "seedlings"] ["nursery", "numbers"] (defScope sBeg) := ⟨rfl, rfl, rfl, by decide +kernel, rfl, by decide +kernel, by decide +kernel⟩
theorem ok_beg (T : Txt K mg t) : FnOk P w K mg base CX0 2 t.fBeg t.dBeg ["nursery", "numbers"] (spBeg t.cN) := by
  have GA : FnOk P w K mg base CX0 1 t.fAbv t.dAbv ["numbers", "most"] spAbv := ok_abv T
  obtain ⟨tk1, m1⟩ := T.mBeds
  obtain ⟨tk2, m2⟩ := T.mLoss
  obtain ⟨tk3, m3⟩ := T.mAges
  obtain ⟨tk4, m4⟩ := T.mSeed
  obtain ⟨tk5, m5⟩ := T.kNot
  refine T.beg.fn.ok scBeg (fun vs H Q E h => ?_) (fun cdv A outer s H vs Q E hr h => ?_)
  · obtain ⟨p, a, o, uo, k, b, r1, r2, r3, g, rfl, _⟩ := h
    rfl
  · obtain ⟨p, a, o, uo, k, b, r1, r2, r3, g, rfl, hN, huo, ha, hgl, kk⟩ := h
    refine ⟨_, pss_cons (ps_set (i := 2) scBeg.nd rfl (Or.inl rfl) (pe_ix ix_list (pv 1) pe_int (fun _ _ => rfl)))
      (pss_cons (ps_set (i := 3) scBeg.nd rfl (Or.inl rfl) (pe_slice sl_list (pv 1) (po_some pe_int) (po_some pe_int)))
      (pss_cons (ps_set (i := 4) scBeg.nd rfl (Or.inl rfl) (pe_slice sl_list (pv 1) (po_some pe_int) po_none))
      (pss_cons (ps_if (PW.pt (pw_or (pt_cmpR op_gt (pv 2) (pe_glob (v := .int 4) rfl m1 ⟨tk1, rfl⟩) (nomark _)) (pw_or1 (pt_val (pe_call GA hr rfl T.abv.gl T.abv.fn.kp T.abv.bn .nil pass0 (pa_cons (pv 3) (pa_cons (pe_glob (v := .int 100) rfl m2 ⟨tk2, rfl⟩) pa_nil))))))) (pss_one (ps_ret (pe_lst (pa_cons (pe_glob (v := .int (-1)) rfl m5 ⟨tk5, rfl⟩) pa_nil)))) pss_nil)
      (pss_cons (ps_if (PW.pt (pw_or (pt_cmpR op_lt (pe_callB call_len_seq (by rfl) T.len PySem.boot_len (pa_cons (pv 4) pa_nil)) pe_int (nomark _)) (pw_or (pt_cmpR op_gt (pe_callB call_len_seq (by rfl) T.len PySem.boot_len (pa_cons (pv 4) pa_nil)) (pe_glob (v := .int 4) rfl m3 ⟨tk3, rfl⟩) (nomark _)) (pw_or1 (pt_val (pe_call GA hr rfl T.abv.gl T.abv.fn.kp T.abv.bn .nil pass0 (pa_cons (pv 4) (pa_cons (pe_glob (v := .int 1000) rfl m4 ⟨tk4, rfl⟩) pa_nil)))))))) (pss_one (ps_ret (pe_lst (pa_cons (pe_glob (v := .int (-1)) rfl m5 ⟨tk5, rfl⟩) pa_nil)))) pss_nil)
      (pss_cons (ps_fld (pv 0) (pv 2) rfl)
      (pss_cons (ps_fld (pv 0) (pv 3) rfl)
      (pss_cons (ps_fld (pv 0) (pv 4) rfl)
      (pss_cons (ps_fld (pv 0) (pe_lst pa_nil) rfl)
      (pss_cons (ps_fld (pv 0) (pe_lst pa_nil) rfl)
      (pss_one (ps_ret (pe_lst (pa_cons (pe_callB call_len_seq (by rfl) T.len PySem.boot_len (pa_cons (pv 4) pa_nil)) pa_nil))))))))))))), ?_⟩
    have h100 : 100 ≤ sizeLine := by decide
    -- what is left as it was, refused
    have bad : Si58.step k (.begins b (r1, r2, r3) g) = (k, Si58.ok (-1)) → ∀ H', Same H H' → ∀ q, H' q = none → Q (.ref q) (upd H' q (.lst [.int (-1)])) := fun e H' S q hq => by
      refine kk _ q (S.free hq) (But.of_same (S.trans (Same.new hq))) ?_ ?_
      · rw [e]
        exact hN.mono (S.trans (Same.new hq))
      · rw [e]
        exact upd_same
    refine ⟨_, rfl, a, _, 0, _, rfl, rfl, SqL.of ha, at_of (j := 0) rfl (nats_get rfl), ?_⟩
    refine ⟨_, rfl, _, rfl, _, rfl, a, _, rfl, SqL.of ha, fun l hl => ?_⟩
    have e1 : cutV (nats (b :: r1 :: r2 :: r3 :: g)) (some 1) (some 4) = nats [r1, r2, r3] := by
      have e := cut_nat (b :: r1 :: r2 :: r3 :: g) 1 4
      have e2 : min 1 (b :: r1 :: r2 :: r3 :: g).length = 1 := by simp
      have e3 : min 4 (b :: r1 :: r2 :: r3 :: g).length = 4 := by simp
      rw [e2, e3] at e
      exact e
    rw [e1]
    have S1 : Same H (upd H l (.lst (nats [r1, r2, r3]))) := Same.new hl
    have l1 : upd H l (.lst (nats [r1, r2, r3])) l = some (.lst (nats [r1, r2, r3])) := upd_same
    generalize upd H l (.lst (nats [r1, r2, r3])) = H1 at S1 l1 ⊢
    refine ⟨_, rfl, _, rfl, a, _, rfl, SqL.of (S1 _ _ ha), fun d hd => ?_⟩
    have e2 : cutV (nats (b :: r1 :: r2 :: r3 :: g)) (some 4) none = nats g := by
      have e := cut_nat_end (b :: r1 :: r2 :: r3 :: g) 4
      have e3 : min 4 (b :: r1 :: r2 :: r3 :: g).length = 4 := by simp
      rw [e3] at e
      exact e
    rw [e2]
    have S2 : Same H1 (upd H1 d (.lst (nats g))) := Same.new hd
    have d2 : upd H1 d (.lst (nats g)) d = some (.lst (nats g)) := upd_same
    generalize upd H1 d (.lst (nats g)) = H2 at S2 d2 ⊢
    have S02 := S1.trans S2
    have l2 := S2 _ _ l1
    -- beds > MOST_BEDS or ..
    refine ⟨_, rfl, _, _, rfl, rfl, _, rfl, ?_⟩
    refine ite2 (fun hc => ?_) (fun hc => ?_)
    · have hc : (4 : Int) < (b : Int) := of_decide_eq_true hc
      have e : Si58.step k (.begins b (r1, r2, r3) g) = (k, Si58.ok (-1)) := if_pos (.inl (show 4 < b by omega))
      refine iteT ⟨(by show 1 ≤ sizeLine; decide), fun q hq => bad e H2 S02 q hq⟩
    have hc1 : ¬ (4 : Int) < (b : Int) := fun z => hc (decide_eq_true z)
    refine ⟨_, rfl, l, [r1, r2, r3], 100, rfl, l2, by show 3 ≤ 100; decide, fun H3 S3 => ⟨_, rfl, ?_⟩⟩
    have S03 := S02.trans S3
    refine ite2 (fun hc => ?_) (fun hc => ?_)
    · have e : Si58.step k (.begins b (r1, r2, r3) g) = (k, Si58.ok (-1)) := by
        refine if_pos ?_
        show 4 < b ∨ 100 < r1 ∨ 100 < r2 ∨ 100 < r3 ∨ _
        simp at hc
        omega
      exact ⟨(by show 1 ≤ sizeLine; decide), fun q hq => bad e H3 S03 q hq⟩
    have hc2 : r1 ≤ 100 ∧ r2 ≤ 100 ∧ r3 ≤ 100 := by
      simp at hc
      omega
    -- len(seedlings) < 1 or ..
    have d3 := S3 _ _ d2
    refine ⟨_, rfl, d, _, rfl, .inl (SqL.of d3), _, _, rfl, rfl, _, rfl, ?_⟩
    rw [nats_length]
    refine ite2 (fun hc => ?_) (fun hc => ?_)
    · have hc : ((g.length : Int) < 1) := of_decide_eq_true hc
      have e : Si58.step k (.begins b (r1, r2, r3) g) = (k, Si58.ok (-1)) := by
        refine if_pos ?_
        have e0 : g = [] := List.length_eq_zero_iff.mp (by omega)
        exact .inr (.inr (.inr (.inr (.inl e0))))
      exact iteT ⟨(by show 1 ≤ sizeLine; decide), fun q hq => bad e H3 S03 q hq⟩
    have hc3 : ¬ ((g.length : Int) < 1) := fun z => hc (decide_eq_true z)
    refine ⟨_, rfl, d, _, rfl, .inl (SqL.of d3), _, _, rfl, rfl, _, rfl, ?_⟩
    rw [nats_length]
    refine ite2 (fun hc => ?_) (fun hc => ?_)
    · have hc : ((4 : Int) < (g.length : Int)) := of_decide_eq_true hc
      have e : Si58.step k (.begins b (r1, r2, r3) g) = (k, Si58.ok (-1)) := by
        refine if_pos ?_
        exact .inr (.inr (.inr (.inr (.inr (.inl (show 4 < g.length by omega))))))
      exact iteT ⟨(by show 1 ≤ sizeLine; decide), fun q hq => bad e H3 S03 q hq⟩
    have hc4 : ¬ ((4 : Int) < (g.length : Int)) := fun z => hc (decide_eq_true z)
    refine ⟨_, rfl, d, g, 1000, rfl, d3, by omega, fun H4 S4 => ⟨_, rfl, ?_⟩⟩
    have S04 := S03.trans S4
    rw [any_above_all]
    refine ite2 (fun hc => ?_) (fun hc => ?_)
    · have e : Si58.step k (.begins b (r1, r2, r3) g) = (k, Si58.ok (-1)) := by
        refine if_pos ?_
        refine .inr (.inr (.inr (.inr (.inr (.inr ?_)))))
        have hc : (!(g.all fun x => decide (x ≤ 1000))) = true := hc
        show (g.all fun x => decide (x ≤ 1000)) = false
        rw [Bool.not_eq_true'] at hc
        exact hc
      exact ⟨(by show 1 ≤ sizeLine; decide), fun q hq => bad e H4 S04 q hq⟩
    have e : Si58.step k (.begins b (r1, r2, r3) g) = (⟨b, g, (r1, r2, r3), []⟩, Si58.ok g.length) := by
      refine if_neg ?_
      rintro (z | z | z | z | z | z | z)
      · exact absurd (show 4 < b from z) (by omega)
      · exact absurd (show 100 < r1 from z) (by omega)
      · exact absurd (show 100 < r2 from z) (by omega)
      · exact absurd (show 100 < r3 from z) (by omega)
      · rw [z] at hc3
        exact hc3 (by decide)
      · exact absurd (show 4 < g.length from z) (by omega)
      · exact hc (by rw [show (g.all fun x => decide (x ≤ 1000)) = false from z]; rfl)
    rw [e] at kk
    obtain ⟨dx, a1, b1, c1, d1, ⟨hp, _⟩, npo, _⟩ := hN
    have p4 := S04 _ _ hp
    have l4 := S4 _ _ (S3 _ _ l2)
    have d4 := S4 _ _ d3
    have npl : l ≠ p := ne_of l4 p4 (by intro z; cases z)
    have npd : d ≠ p := ne_of d4 p4 (by intro z; cases z)
    -- nursery.beds = beds; ..
    refine ⟨_, rfl, _, rfl, p, t.cN, dx, _, rfl, p4, T.nCls, T.nBeds, nf_len .., ?_⟩
    rw [nf_put_beds]
    refine ⟨_, rfl, _, rfl, p, t.cN, dx, _, rfl, upd_same, T.nCls, T.nLoss, nf_len .., ?_⟩
    rw [nf_put_losses, upd_upd]
    refine ⟨_, rfl, _, rfl, p, t.cN, dx, _, rfl, upd_same, T.nCls, T.nSeed, nf_len .., ?_⟩
    rw [nf_put_seedlings, upd_upd]
    have B5 : But p H4 (upd H4 p (.ins t.cN dx (nf (b : Int) l d c1 d1))) := But.put
    have p5 : upd H4 p (.ins t.cN dx (nf (b : Int) l d c1 d1)) p = some (.ins t.cN dx (nf (b : Int) l d c1 d1)) := upd_same
    generalize upd H4 p (.ins t.cN dx (nf (b : Int) l d c1 d1)) = H5 at B5 p5 ⊢
    refine ⟨Nat.zero_le _, fun u hu => ?_⟩
    have npu : u ≠ p := fun z => by rw [z, p5] at hu; cases hu
    refine ⟨_, rfl, p, t.cN, dx, _, rfl, Eq.trans (upd_ne npu.symm) p5, T.nCls, T.nGath, nf_len .., ?_⟩
    rw [nf_put_gathered]
    have B6 : But p H5 (upd (upd H5 u (.lst [])) p (.ins t.cN dx (nf (b : Int) l d u d1))) := (But.new hu).trans But.put
    have p6 : upd (upd H5 u (.lst [])) p (.ins t.cN dx (nf (b : Int) l d u d1)) p = some (.ins t.cN dx (nf (b : Int) l d u d1)) := upd_same
    have u6 : upd (upd H5 u (.lst [])) p (.ins t.cN dx (nf (b : Int) l d u d1)) u = some (.lst []) := Eq.trans (upd_ne npu) upd_same
    generalize upd (upd H5 u (.lst [])) p (.ins t.cN dx (nf (b : Int) l d u d1)) = H6 at B6 p6 u6 ⊢
    refine ⟨Nat.zero_le _, fun v hv => ?_⟩
    have npv : v ≠ p := fun z => by rw [z, p6] at hv; cases hv
    refine ⟨_, rfl, p, t.cN, dx, _, rfl, Eq.trans (upd_ne npv.symm) p6, T.nCls, T.nWant, nf_len .., ?_⟩
    rw [nf_put_wanted]
    have B7 : But p H6 (upd (upd H6 v (.lst [])) p (.ins t.cN dx (nf (b : Int) l d u v))) := (But.new hv).trans But.put
    have p7 : upd (upd H6 v (.lst [])) p (.ins t.cN dx (nf (b : Int) l d u v)) p = some (.ins t.cN dx (nf (b : Int) l d u v)) := upd_same
    have v7 : upd (upd H6 v (.lst [])) p (.ins t.cN dx (nf (b : Int) l d u v)) v = some (.lst []) := Eq.trans (upd_ne npv) upd_same
    generalize upd (upd H6 v (.lst [])) p (.ins t.cN dx (nf (b : Int) l d u v)) = H7 at B7 p7 v7 ⊢
    have B47 : But p H4 H7 := (B5.trans B6).trans B7
    have d7 := B47 _ _ d4 npd
    refine ⟨_, rfl, d, _, rfl, .inl (SqL.of d7), (by show 1 ≤ sizeLine; decide), fun q hq => ?_⟩
    rw [nats_length]
    have S8 : Same H7 (upd H7 q (.lst [.int (g.length : Int)])) := Same.new hq
    refine kk _ q (((But.of_same S04).trans B47).free p7 hq) (((But.of_same S04).trans B47).trans (But.of_same S8)) ?_ upd_same
    have o5 := B5 _ _ (S04 _ _ huo) npo.symm
    have o6 := B6 _ _ o5 npo.symm
    exact ⟨dx, l, d, u, v, ⟨S8 _ _ p7, S8 _ _ (B47 _ _ l4 npl), S8 _ _ d7, S8 _ _ (B7 _ _ u6 npu), S8 _ _ v7⟩, npo, (ne_of_none huo hl).symm, (ne_of_none (S1 _ _ huo) hd).symm, (ne_of_none o5 hu).symm, (ne_of_none o6 hv).symm⟩
end
end Nur

end
section
set_option Elab.async false
set_option linter.all false
set_option maxRecDepth 100000
set_option maxHeartbeats 2000000
namespace L2
open PySem PySem.Spec PyProof.Rows
/-! ### a slice with a step -/
def stepV {α : Type} (xs : List α) (lo hi st : Option Int) : List α :=
  (sliceRange (sliceBounds lo hi st xs.length).1 (sliceBounds lo hi st xs.length).2.1 (sliceBounds lo hi st xs.length).2.2).filterMap fun i => xs[i]?
theorem vals_pick {xs : List V} {us : List Value} (r : Vals xs us) : ∀ is : List Nat, Vals (is.filterMap fun i => xs[i]?) (is.filterMap fun i => us[i]?)
  | [] => .nil
  | i :: is => by
    cases e : xs[i]? with
    | none =>
      have e2 := r.none_of e
      rw [List.filterMap_cons, List.filterMap_cons, e, e2]
      exact vals_pick r is
    | some x =>
      obtain ⟨u, hu, ru⟩ := r.get e
      rw [List.filterMap_cons, List.filterMap_cons, e, hu]
      exact .cons ru (vals_pick r is)
def rStp (K : PySem.W.Frag) : V → Option Int → Option Int → Option Int → Hp → VK → Prop := fun x lo hi st H Q => ∃ a xs, x = .ref a ∧ SqL K H a xs ∧ st ≠ some 0 ∧ ∀ p, H p = none → Q (.ref p) (upd H p (.lst (stepV xs lo hi st)))
def tStp (K : PySem.W.Frag) (te : TE) (tl th ts : TO) : TE := fun σ H Q => te σ H fun x H1 => tl σ H1 fun l H2 => th σ H2 fun u H3 => ts σ H3 fun c H4 => rStp K x l u c H4 Q
theorem pe_step {X : Cx} {e : Expr} {te : TE} {lo hi : Option Expr} {st : Expr} {tl th ts : TO} {pos p2 : Pos} (he : PE X e te) (hl : PO X lo tl) (hu : PO X hi th) (hs : PO X (some st) ts) : PE X (.Subscript e (.Slice lo hi (some st) p2) pos) (tStp X.K te tl th ts) := by
  intro pins s σ H Q I h
  refine Subscript_ (thn (he pins s σ H _ I h) fun v s1 ⟨x, H1, I1, r1, q1⟩ => ?_)
  refine wpAny_Slice (thn (hl pins s1 σ H1 _ I1 q1) fun vl s2 ⟨l, H2, I2, pl, q2⟩ => thn (hu pins s2 σ H2 _ I2 q2) fun vu s3 ⟨u, H3, I3, pu, q3⟩ => thn (hs pins s3 σ H3 _ I3 q3) fun vc s4 ⟨c, H4, I4, pc, q4⟩ => ?_)
  obtain ⟨a, xs, rfl, hx, h0, q⟩ := q4
  cases r1
  have I5 : Inv X pins σ H4 { s4 with heap := s4.heap.push { cls := .type "slice", data := .fields #[vl, vu, vc] } } := I4.kept (t' := s4.toks) fun b ob q => Heap.get?_push_of_some _ q
  obtain ⟨its, r, ht, hz⟩ := I5.list hx
  have hlen := r.length
  have hg : wpAny (model X.prog X.w) X.A (getItem (.ref a) (.ref s4.heap.objs.size)) (EP X pins σ Q) X.xe { s4 with heap := s4.heap.push { cls := .type "slice", data := .fields #[vl, vu, vc] } } := by
    refine wpAny_getItem_list_slice ht.isList (Heap.IsSliceOf.new ..) pl pu pc h0 ?_ (by rw [List.size_toArray] <;> omega)
    have e1 : slicePick its.toArray l u c = (stepV its l u c).toArray := by
      unfold slicePick stepV
      rw [List.size_toArray]
      congr 1
      exact congrArg (fun f => List.filterMap f _) (funext fun i => List.getElem?_toArray)
    have hv : Vals (stepV xs l u c) (stepV its l u c) := by
      unfold stepV
      rw [hlen]
      exact vals_pick r _
    have hsz := slicePick_size_le its.toArray l u c
    rw [e1, List.size_toArray, List.size_toArray] at hsz
    rw [e1]
    refine ⟨.ref (s4.heap.push { cls := .type "slice", data := .fields #[vl, vu, vc] }).objs.size, _, I5.laid (t' := s4.toks) (o := .lst (stepV xs l u c)) (fun b ob q => Heap.get?_push_of_some _ q) (Nat.le_refl _) ?_, rfl, q _ (I5.hok.fresh (Nat.le_refl _))⟩
    exact ⟨by have := hv.length; omega, _, 0, hv, Heap.get?_push_size _ rfl⟩
  show wpAny (model X.prog X.w) X.A (subscriptTail e (.Slice lo hi (some st) p2) (.ref a) (.ref s4.heap.objs.size)) (EP X pins σ Q) X.xe { s4 with heap := s4.heap.push { cls := .type "slice", data := .fields #[vl, vu, vc] } }
  exact tail_any (ops := [.ref a, .ref s4.heap.objs.size]) ht.isList.typeIs slot_list_getitem.lookup hg (by with_unfolding_all rfl)
theorem pick_gen {α : Type} {f : Nat → Option α} {ys : List α} : ∀ k : Nat, (∀ i, i < k → f i = ys[i]?) → (List.range k).filterMap f = ys.take k
  | 0, _ => by simp
  | k + 1, h => by
    rw [List.range_succ, List.filterMap_append, pick_gen k (fun i hi => h i (by omega)), List.take_add_one]
    congr 1
    rw [List.filterMap_cons, h k (by omega)]
    cases ys[k]? <;> rfl
/-- every other one of a list of pairs laid flat -/
theorem step_two {α : Type} {xs ys : List α} {m c : Nat} (hl : xs.length = 2 * m) (hy : ys.length = m) (hc : c ≤ 1) (h : ∀ i, i < m → xs[2 * i + c]? = ys[i]?) : stepV xs (some (c : Int)) none (some 2) = ys := by
  have e : sliceBounds (some (c : Int)) none (some 2) xs.length = (((min c (2 * m) : Nat) : Int), ((2 * m : Nat) : Int), (2 : Int)) := by
    simp only [sliceBounds, Option.getD_some, show (2 : Int) > 0 by decide, if_true, hl]
    have h1 : ¬ ((c : Int) < 0) := by omega
    rw [if_neg h1]
    congr 1
    omega
  unfold stepV
  rw [e]
  show (sliceRange ((min c (2 * m) : Nat) : Int) ((2 * m : Nat) : Int) 2).filterMap _ = ys
  unfold sliceRange
  rw [if_pos (by decide)]
  have en : (if ((min c (2 * m) : Nat) : Int) < ((2 * m : Nat) : Int) then (((2 * m : Nat) : Int) - ((min c (2 * m) : Nat) : Int) + 2 - 1) / 2 else 0).toNat = m := by
    split <;> omega
  show ((List.range (if ((min c (2 * m) : Nat) : Int) < ((2 * m : Nat) : Int) then (((2 * m : Nat) : Int) - ((min c (2 * m) : Nat) : Int) + 2 - 1) / 2 else 0).toNat).map _).filterMap _ = ys
  rw [en, List.filterMap_map, pick_gen (ys := ys) m, List.take_of_length_le (by omega)]
  intro i hi
  show xs[(((min c (2 * m) : Nat) : Int) + 2 * (i : Int)).toNat]? = ys[i]?
  rw [← h i hi]
  congr 1
  omega
end L2

end
section
set_option Elab.async false
set_option linter.all false
set_option maxRecDepth 100000
set_option maxHeartbeats 2000000
namespace Nur
open PySem PySem.Spec PyProof.Rows L2
open PySem.W (Codec)
section
variable {P : Program} {w : World} {K : PySem.W.Frag} {mg : Str → Option Value} {base : Heap} {t : Adr}

/-! ### answer_years -/
/-- two numbers a year, laid flat -/
def flat (l : List (Nat × Nat)) : List Nat := l.flatMap fun y => [y.1, y.2]
theorem flat_length : ∀ l : List (Nat × Nat), (flat l).length = 2 * l.length
  | [] => rfl
  | y :: r => by
    show (y.1 :: y.2 :: flat r).length = 2 * (r.length + 1)
    rw [List.length_cons, List.length_cons, flat_length r]
    omega
theorem flat_fst : ∀ (l : List (Nat × Nat)) (i : Nat), (flat l)[2 * i + 0]? = (l.map (·.1))[i]?
  | [], i => rfl
  | y :: r, 0 => rfl
  | y :: r, i + 1 => by
    show (y.1 :: y.2 :: flat r)[2 * i + 1 + 1]? = (r.map (·.1))[i]?
    rw [List.getElem?_cons_succ, List.getElem?_cons_succ]
    exact flat_fst r i
theorem flat_snd : ∀ (l : List (Nat × Nat)) (i : Nat), (flat l)[2 * i + 1]? = (l.map (·.2))[i]?
  | [], i => rfl
  | y :: r, 0 => rfl
  | y :: r, i + 1 => by
    show (y.1 :: y.2 :: flat r)[2 * i + 1 + 1 + 1]? = (r.map (·.2))[i]?
    rw [List.getElem?_cons_succ, List.getElem?_cons_succ]
    exact flat_snd r i
theorem step_flat0 (l : List (Nat × Nat)) : stepV (nats (flat l)) (some 0) none (some 2) = nats (l.map (·.1)) := by
  refine step_two (m := l.length) (c := 0) (by rw [nats_length, flat_length]) (by rw [nats_length, List.length_map]) (by decide) fun i hi => ?_
  unfold nats
  rw [List.getElem?_map, List.getElem?_map, flat_fst]
theorem step_flat1 (l : List (Nat × Nat)) : stepV (nats (flat l)) (some 1) none (some 2) = nats (l.map (·.2)) := by
  refine step_two (m := l.length) (c := 1) (by rw [nats_length, flat_length]) (by rw [nats_length, List.length_map]) (by decide) fun i hi => ?_
  unfold nats
  rw [List.getElem?_map, List.getElem?_map, flat_snd]
theorem all_pairs (l : List (Nat × Nat)) : (l.all fun y => decide (y.1 ≤ Si58.BAGS) && decide (y.2 ≤ Si58.WANT)) = (((l.map (·.1)).all fun x => decide (x ≤ 8)) && ((l.map (·.2)).all fun x => decide (x ≤ 100000))) := by
  induction l with
  | nil => rfl
  | cons y r ih =>
    rw [List.all_cons, ih, List.map_cons, List.map_cons, List.all_cons, List.all_cons]
    show (decide (y.1 ≤ 8) && decide (y.2 ≤ 100000) && _) = _
    cases decide (y.1 ≤ 8) <;> cases decide (y.2 ≤ 100000) <;> simp
def spYrs (C : Addr) : Sp := fun vs H Q _ => ∃ (p a o : Addr) (uo : HO) (k : Si58.Nursery) (l : List (Nat × Nat)), vs = [.ref p, .ref a] ∧ NurOff C H p k o ∧ H o = some uo ∧ H a = some (.lst (nats (flat l))) ∧ l.length ≤ 8 ∧
  ∀ H' q, H q = none → But p H H' → NurOff C H' p (Si58.step k (.years l)).1 o → AnsAt H' q (Si58.step k (.years l)).2 → Q (.ref q) H'
theorem scYrs : FnScope ["nursery", "numbers", "gathered", "wanted"] ["nursery", "numbers"] (defScope sYrs) := ⟨rfl, rfl, rfl, by decide +kernel, rfl, by decide +kernel, by decide +kernel⟩
theorem ok_yrs (T : Txt K mg t) : FnOk P w K mg base CX0 2 t.fYrs t.dYrs ["nursery", "numbers"] (spYrs t.cN) := by
  have GA : FnOk P w K mg base CX0 1 t.fAbv t.dAbv ["numbers", "most"] spAbv := ok_abv T
  obtain ⟨tk1, m1⟩ := T.mYear
  obtain ⟨tk2, m2⟩ := T.mGath
  obtain ⟨tk3, m3⟩ := T.mWant
  obtain ⟨tk5, m5⟩ := T.kNot
  refine T.yrs.fn.ok scYrs (fun vs H Q E h => ?_) (fun cdv A outer s H vs Q E hr h => ?_)
  · obtain ⟨p, a, o, uo, k, l, rfl, _⟩ := h
    rfl
  · obtain ⟨p, a, o, uo, k, l, rfl, hN, huo, ha, hll, kk⟩ := h
    refine ⟨_, pss_cons (ps_set (i := 2) scYrs.nd rfl (Or.inl rfl) (pe_step (pv 1) (po_some pe_int) po_none (po_some pe_int)))
      (pss_cons (ps_set (i := 3) scYrs.nd rfl (Or.inl rfl) (pe_step (pv 1) (po_some pe_int) po_none (po_some pe_int)))
      (pss_cons (ps_if (PW.pt (pw_or (pt_cmpR op_gt (pe_callB call_len_seq (by rfl) T.len PySem.boot_len (pa_cons (pv 2) pa_nil)) (pe_glob (v := .int 6) rfl m1 ⟨tk1, rfl⟩) (nomark _)) (pw_or (pt_val (pe_call GA hr rfl T.abv.gl T.abv.fn.kp T.abv.bn .nil pass0 (pa_cons (pv 2) (pa_cons (pe_glob (v := .int 8) rfl m2 ⟨tk2, rfl⟩) pa_nil)))) (pw_or1 (pt_val (pe_call GA hr rfl T.abv.gl T.abv.fn.kp T.abv.bn .nil pass0 (pa_cons (pv 3) (pa_cons (pe_glob (v := .int 100000) rfl m3 ⟨tk3, rfl⟩) pa_nil)))))))) (pss_one (ps_ret (pe_lst (pa_cons (pe_glob (v := .int (-1)) rfl m5 ⟨tk5, rfl⟩) pa_nil)))) pss_nil)
      (pss_cons (ps_fld (pv 0) (pv 2) rfl)
      (pss_cons (ps_fld (pv 0) (pv 3) rfl)
      (pss_one (ps_ret (pe_lst (pa_cons (pe_callB call_len_seq (by rfl) T.len PySem.boot_len (pa_cons (pv 2) pa_nil)) pa_nil)))))))), ?_⟩
    have h100 : 100 ≤ sizeLine := by decide
    have bad : Si58.step k (.years l) = (k, Si58.ok (-1)) → ∀ H', Same H H' → ∀ q, H' q = none → Q (.ref q) (upd H' q (.lst [.int (-1)])) := fun e H' S q hq => by
      refine kk _ q (S.free hq) (But.of_same (S.trans (Same.new hq))) ?_ ?_
      · rw [e]
        exact hN.mono (S.trans (Same.new hq))
      · rw [e]
        exact upd_same
    refine ⟨_, rfl, _, rfl, _, rfl, a, _, rfl, SqL.of ha, by decide, fun g hg => ?_⟩
    rw [step_flat0]
    have S1 : Same H (upd H g (.lst (nats (l.map (·.1))))) := Same.new hg
    have g1 : upd H g (.lst (nats (l.map (·.1)))) g = some (.lst (nats (l.map (·.1)))) := upd_same
    generalize upd H g (.lst (nats (l.map (·.1)))) = H1 at S1 g1 ⊢
    refine ⟨_, rfl, _, rfl, _, rfl, a, _, rfl, SqL.of (S1 _ _ ha), by decide, fun d hd => ?_⟩
    rw [step_flat1]
    have S2 : Same H1 (upd H1 d (.lst (nats (l.map (·.2))))) := Same.new hd
    have d2 : upd H1 d (.lst (nats (l.map (·.2)))) d = some (.lst (nats (l.map (·.2)))) := upd_same
    generalize upd H1 d (.lst (nats (l.map (·.2)))) = H2 at S2 d2 ⊢
    have S02 := S1.trans S2
    have g2 := S2 _ _ g1
    refine ⟨_, rfl, g, _, rfl, .inl (SqL.of g2), _, _, rfl, rfl, _, rfl, ?_⟩
    rw [nats_length, List.length_map]
    refine ite2 (fun hc => ?_) (fun hc => ?_)
    · have hc : (6 : Int) < (l.length : Int) := of_decide_eq_true hc
      have e : Si58.step k (.years l) = (k, Si58.ok (-1)) := if_pos (.inl (show 6 < l.length by omega))
      exact iteT ⟨(by show 1 ≤ sizeLine; decide), fun q hq => bad e H2 S02 q hq⟩
    have hc1 : ¬ (6 : Int) < (l.length : Int) := fun z => hc (decide_eq_true z)
    refine ⟨_, rfl, g, l.map (·.1), 8, rfl, g2, by rw [List.length_map]; omega, fun H3 S3 => ⟨_, rfl, ?_⟩⟩
    have S03 := S02.trans S3
    rw [any_above_all]
    refine ite2 (fun hc => ?_) (fun hc => ?_)
    · have e : Si58.step k (.years l) = (k, Si58.ok (-1)) := by
        refine if_pos (.inr ?_)
        rw [all_pairs]
        have hc : (!((l.map (·.1)).all fun x => decide (x ≤ 8))) = true := hc
        rw [Bool.not_eq_true'] at hc
        rw [hc]
        rfl
      exact iteT ⟨(by show 1 ≤ sizeLine; decide), fun q hq => bad e H3 S03 q hq⟩
    have hc2 : ((l.map (·.1)).all fun x => decide (x ≤ 8)) = true := by simpa using hc
    refine ⟨_, rfl, d, l.map (·.2), 100000, rfl, S3 _ _ d2, by rw [List.length_map]; omega, fun H4 S4 => ⟨_, rfl, ?_⟩⟩
    have S04 := S03.trans S4
    rw [any_above_all]
    refine ite2 (fun hc => ?_) (fun hc => ?_)
    · have e : Si58.step k (.years l) = (k, Si58.ok (-1)) := by
        refine if_pos (.inr ?_)
        rw [all_pairs]
        have hc : (!((l.map (·.2)).all fun x => decide (x ≤ 100000))) = true := hc
        rw [Bool.not_eq_true'] at hc
        rw [hc, Bool.and_false]
      exact ⟨(by show 1 ≤ sizeLine; decide), fun q hq => bad e H4 S04 q hq⟩
    have hc3 : ((l.map (·.2)).all fun x => decide (x ≤ 100000)) = true := by simpa using hc
    have e : Si58.step k (.years l) = ({ k with years := l }, Si58.ok l.length) := by
      refine if_neg ?_
      rintro (z | z)
      · exact absurd (show 6 < l.length from z) (by omega)
      · rw [all_pairs, hc2, hc3] at z
        cases z
    rw [e] at kk
    obtain ⟨dx, a1, b1, c1, d1, ⟨hp, hA, hB, hC, hD⟩, npo, nao, nbo, _⟩ := hN
    have p4 := S04 _ _ hp
    have g4 := S4 _ _ (S3 _ _ g2)
    have d4 := S4 _ _ (S3 _ _ d2)
    have A4 := S04 _ _ hA
    have B4 := S04 _ _ hB
    have npg : g ≠ p := ne_of g4 p4 (by intro z; cases z)
    have npd : d ≠ p := ne_of d4 p4 (by intro z; cases z)
    have npA : a1 ≠ p := ne_of A4 p4 (by intro z; cases z)
    have npB : b1 ≠ p := ne_of B4 p4 (by intro z; cases z)
    refine ⟨_, rfl, _, rfl, p, t.cN, dx, _, rfl, p4, T.nCls, T.nGath, nf_len .., ?_⟩
    rw [nf_put_gathered]
    refine ⟨_, rfl, _, rfl, p, t.cN, dx, _, rfl, upd_same, T.nCls, T.nWant, nf_len .., ?_⟩
    rw [nf_put_wanted, upd_upd]
    have B5 : But p H4 (upd H4 p (.ins t.cN dx (nf (k.beds : Int) a1 b1 g d))) := But.put
    have p5 : upd H4 p (.ins t.cN dx (nf (k.beds : Int) a1 b1 g d)) p = some (.ins t.cN dx (nf (k.beds : Int) a1 b1 g d)) := upd_same
    generalize upd H4 p (.ins t.cN dx (nf (k.beds : Int) a1 b1 g d)) = H5 at B5 p5 ⊢
    refine ⟨_, rfl, g, _, rfl, .inl (SqL.of (B5 _ _ g4 npg)), (by show 1 ≤ sizeLine; decide), fun q hq => ?_⟩
    rw [nats_length, List.length_map]
    have S6 : Same H5 (upd H5 q (.lst [.int (l.length : Int)])) := Same.new hq
    refine kk _ q (((But.of_same S04).trans B5).free p5 hq) (((But.of_same S04).trans B5).trans (But.of_same S6)) ?_ upd_same
    exact ⟨dx, a1, b1, g, d, ⟨S6 _ _ p5, S6 _ _ (B5 _ _ A4 npA), S6 _ _ (B5 _ _ B4 npB), S6 _ _ (B5 _ _ g4 npg), S6 _ _ (B5 _ _ d4 npd)⟩, npo, nao, nbo, (ne_of_none huo hg).symm, (ne_of_none (S1 _ _ huo) hd).symm⟩
end
end Nur

end
section
set_option Elab.async false
set_option linter.all false
set_option maxRecDepth 100000
set_option maxHeartbeats 2000000
namespace Nur
open PySem PySem.Spec PyProof.Rows L2
open PySem.W (Codec)
section
variable {P : Program} {w : World} {K : PySem.W.Frag} {mg : Str → Option Value} {base : Heap} {t : Adr}

/-! ### answer_follow -/
theorem follow_drop {k : Si58.Nursery} {ys : List (Nat × Nat)} {row : List Nat} {i x : Nat} {y : Nat × Nat} (hy : ys[i]? = some y) (hx : row[i]? = some x) (s : Si58.Now) :
    k.follow (ys.drop i) (row.drop i) s = match k.year s y.1 y.2 x (s.besides y.2) with
      | some t => ((k.follow (ys.drop (i + 1)) (row.drop (i + 1)) t).1 + 1, (k.follow (ys.drop (i + 1)) (row.drop (i + 1)) t).2)
      | none => (0, s) := by
  obtain ⟨h1, e1⟩ := List.getElem?_eq_some_iff.mp hy
  obtain ⟨h2, e2⟩ := List.getElem?_eq_some_iff.mp hx
  rw [List.drop_eq_getElem_cons h1, List.drop_eq_getElem_cons h2, e1, e2]
  rfl
/-- a list of whole numbers that are answered -/
theorem ints_nats (l : List Nat) : (Si58.ints l).map V.int = nats l := by
  unfold Si58.ints nats
  rw [List.map_map]
  rfl
def spFol (C : Addr) : Sp := fun vs H Q _ => ∃ (p a : Addr) (k : Si58.Nursery) (row : List Nat), vs = [.ref p, .ref a] ∧ NurAt C H p k ∧ Fine k ∧ H a = some (.lst (nats row)) ∧
  ∀ H' q, H q = none → Same H H' → AnsAt H' q (Si58.step k (.follow row)).2 → Q (.ref q) H'
theorem scFol : FnScope ["nursery", "row", "stock", "done", "sown", "behind"] ["nursery", "row"] (defScope sFol) := ⟨rfl, rfl, rfl, by decide +kernel, rfl, by decide +kernel, by decide +kernel⟩
theorem ok_fol (T : Txt K mg t) : FnOk P w K mg base CX0 6 t.fFol t.dFol ["nursery", "row"] (spFol t.cN) := by
  have GB : FnOk P w K mg base CX0 5 t.fThr t.dThr ["nursery", "stock", "year", "sown"] (spThr t.cN t.cS) := ok_thr T
  have GS : FnOk P w K mg base CX0 3 t.fSt0 t.dSt0 ["nursery"] (spSt0 t.cN t.cS) := ok_st0 T
  obtain ⟨tk5, m5⟩ := T.kNot
  refine T.fol.fn.ok scFol (fun vs H Q E h => ?_) (fun cdv A outer s H vs Q E hr h => ?_)
  · obtain ⟨p, a, k, row, rfl, _⟩ := h
    rfl
  · obtain ⟨p, a, k, row, rfl, hN, fine, ha, kk⟩ := h
    have hr3 : Room 3 _ := hr.mono (by decide)
    refine ⟨_, pss_cons (ps_if (pt_cmpR op_ne (pe_callB call_len_seq (by rfl) T.len PySem.boot_len (pa_cons (pv 1) pa_nil)) (pe_callB call_len_seq (by rfl) T.len PySem.boot_len (pa_cons (pe_fld (pv 0) rfl) pa_nil)) (nomark _)) (pss_one (ps_ret (pe_lst (pa_cons (pe_glob (v := .int (-1)) rfl m5 ⟨tk5, rfl⟩) pa_nil)))) pss_nil)
      (pss_cons (ps_set (i := 2) scFol.nd rfl (Or.inl rfl) (pe_call GS hr3 rfl T.st0.gl T.st0.fn.kp T.st0.bn .nil pass0 (pa_cons (pv 0) pa_nil)))
      (pss_cons (ps_set (i := 3) scFol.nd rfl (Or.inl rfl) pe_int)
      (pss_cons (ps_for PassesOwn.never rfl (pi_list (pv 1)) (pg_name (i := 4) scFol.nd rfl (Or.inl rfl)) (pss_cons (ps_set (i := 5) scFol.nd rfl (Or.inl rfl) (pe_call GB hr rfl T.thr.gl T.thr.fn.kp T.thr.bn .nil pass0 (pa_cons (pv 0) (pa_cons (pv 2) (pa_cons (pv 3) (pa_cons (pv 4) pa_nil))))))
      (pss_cons (ps_if (pt_cmpR op_isN (pv 5) pe_non (nomark _)) (pss_one ps_break) pss_nil)
      (pss_cons (ps_set (i := 2) scFol.nd rfl (Or.inl rfl) (pv 5))
      (pss_one (ps_set (i := 3) scFol.nd rfl (Or.inl rfl) (pe_op op_add (pv 3) pe_int)))))))
      (pss_one (ps_ret (pe_op op_cat (pe_op op_cat (pe_lst (pa_cons (pv 3) pa_nil)) (pe_fld (pv 2) rfl)) (pe_fld (pv 2) rfl))))))), ?_⟩
    have h100 : 100 ≤ sizeLine := by decide
    obtain ⟨dx, a1, b1, c1, d1, hp, hA, hB, hC, hD⟩ := id hN
    refine ⟨_, rfl, a, _, rfl, .inl (SqL.of ha), _, rfl, p, t.cN, dx, _, _, rfl, hp, T.nCls, T.nGath, nf_gathered .., c1, _, rfl, .inl (SqL.of hC), rfl, _, rfl, ?_⟩
    rw [nats_length, nats_length, List.length_map]
    refine ite2 (fun hc => ?_) (fun hc => ?_)
    · have hc : ¬ row.length = k.years.length := by
        intro z
        rw [z] at hc
        simp at hc
      have e : Si58.step k (.follow row) = (k, Si58.ok (-1)) := if_pos hc
      refine ⟨(by show 1 ≤ sizeLine; decide), fun q hq => ?_⟩
      refine kk _ q hq (Same.new hq) ?_
      rw [e]
      exact upd_same
    have hlen : row.length = k.years.length := by
      by_cases z : row.length = k.years.length
      · exact z
      · exact absurd (show (!decide (V.int (row.length : Int) = V.int (k.years.length : Int))) = true by simp; omega) hc
    have e : Si58.step k (.follow row) = (k, ⟨((k.follow k.years row k.empty).1 : Nat), Si58.ints ([(k.follow k.years row k.empty).2.one, (k.follow k.years row k.empty).2.two, (k.follow k.years row k.empty).2.three] ++ (k.follow k.years row k.empty).2.store)⟩) := if_neg (by rw [hlen]; simp)
    rw [e] at kk
    clear e
    have hyl := fine.years
    have hag := fine.ages
    -- stock = stock_at_beginning(nursery); done = 0
    refine ⟨_, rfl, p, k, rfl, hN, fine, fun H1 st S1 hst => ?_⟩
    -- the loop
    refine ⟨_, rfl, a, rfl, ⟨_, SqL.of (S1 _ _ ha)⟩, ?_⟩
    refine (fun (hfin : ∀ (σ : L2.St) (H' : Hp), (∃ (st : Addr) (d : Nat) (sn : Si58.Now) (v4 v5 : Option V), σ = [some (.ref p), some (.ref a), some (.ref st), some (.int (d : Int)), v4, v5] ∧ Same H H' ∧ StockAt t.cS H' st sn ∧ k.follow k.years row k.empty = (d, sn) ∧ d ≤ 6 ∧ sn.store.length = k.germ.length) → (_ : L2.St → Hp → Prop) σ H') => for_list (K := K) (a := a) (xs := nats row) (fun i σ H' => ∃ (st : Addr) (sn : Si58.Now) (v4 v5 : Option V), σ = [some (.ref p), some (.ref a), some (.ref st), some (.int (i : Int)), v4, v5] ∧ Same H H' ∧ StockAt t.cS H' st sn ∧ sn.store.length = k.germ.length ∧
        k.follow k.years row k.empty = (i + (k.follow (k.years.drop i) (row.drop i) sn).1, (k.follow (k.years.drop i) (row.drop i) sn).2))
      ⟨st, k.empty, none, none, rfl, S1, hst, List.length_replicate .., by rw [List.drop_zero, List.drop_zero, Nat.zero_add]⟩ (fun i σ H' _ ⟨_, _, _, _, _, S, _⟩ => SqL.of (S _ _ ha)) ?turn (fun σ H' q => hfin σ H' ?last)) ?fin
    case turn =>
      rintro i y σ H' hi ⟨st, sn, v4, v5, rfl, S, hst, hsl, hfo⟩
      obtain ⟨x, hx, rfl⟩ : ∃ x : Nat, row[i]? = some x ∧ y = V.int (x : Int) := by
        unfold nats at hi
        rw [List.getElem?_map] at hi
        cases e : row[i]? with
        | none =>
          rw [e] at hi
          cases hi
        | some z =>
          rw [e] at hi
          exact ⟨z, rfl, (Option.some.inj hi).symm⟩
      have hil : i < row.length := (List.getElem?_eq_some_iff.mp hx).1
      obtain ⟨yy, hyy⟩ : ∃ yy, k.years[i]? = some yy := ⟨_, List.getElem?_eq_getElem (by omega)⟩
      rw [follow_drop hyy hx] at hfo
      refine ⟨_, rfl, _, rfl, _, rfl, _, rfl, p, st, k, sn, i, x, yy, rfl, hN.mono S, fine, hst, hsl, hyy, ?_⟩
      cases hye : k.year sn yy.1 yy.2 x (sn.besides yy.2) with
      | none =>
        rw [hye] at hfo
        intro H2 S2
        refine ⟨_, rfl, rfl, _, rfl, ?_⟩
        refine iteT ?_
        exact hfin _ _ ⟨st, i, sn, _, _, rfl, S.trans S2, hst.mono S2, hfo, by omega, hsl⟩
      | some tn =>
        rw [hye] at hfo
        intro H2 q S2 hq2
        refine ⟨_, rfl, rfl, _, rfl, ?_⟩
        refine iteF ?_
        refine ⟨_, rfl, _, rfl, _, _, rfl, rfl, ?_⟩
        refine ⟨q, tn, _, _, rfl, S.trans S2, hq2.mono (newer_same _ _), year_store hsl hag.1 hye, ?_⟩
        rw [hfo]
        show (i + ((k.follow (k.years.drop (i + 1)) (row.drop (i + 1)) tn).1 + 1), _) = _
        rw [← Nat.add_assoc, Nat.add_right_comm]
    case last =>
      obtain ⟨st, sn, v4, v5, e, S, hst, hsl, hfo⟩ := q
      rw [nats_length] at e hfo
      refine ⟨st, row.length, sn, v4, v5, e, S, hst, ?_, by omega, hsl⟩
      rw [hfo, List.drop_of_length_le (show row.length ≤ row.length from Nat.le_refl _), List.drop_of_length_le (show k.years.length ≤ row.length by omega)]
      rfl
    case fin =>
      rintro σ H2 ⟨st, d, sn, v4, v5, rfl, S, ⟨dy, sa, sb, hy, hsa, hsb⟩, hfo, hd, hsl⟩
      refine ⟨_, rfl, (by show 1 ≤ sizeLine; decide), fun z hz => ?_⟩
      have S2 : Same H2 (upd H2 z (.lst [.int (d : Int)])) := Same.new hz
      have z2 : upd H2 z (.lst [.int (d : Int)]) z = some (.lst [.int (d : Int)]) := upd_same
      generalize upd H2 z (.lst [.int (d : Int)]) = H3 at S2 z2 ⊢
      refine ⟨_, rfl, st, t.cS, dy, _, _, rfl, S2 _ _ hy, T.sCls, T.sPlan, sf_plants .., z, sa, _, _, rfl, rfl, z2, S2 _ _ hsa, (by show 4 ≤ sizeLine; decide), fun c hc => ?_⟩
      have S3 : Same H3 (upd H3 c (.lst (nats [d, sn.one, sn.two, sn.three]))) := Same.new hc
      have c3 : upd H3 c (.lst (nats [d, sn.one, sn.two, sn.three])) c = some (.lst (nats [d, sn.one, sn.two, sn.three])) := upd_same
      show tFld _ _ _ _ (upd H3 c (.lst (nats [d, sn.one, sn.two, sn.three]))) _
      generalize upd H3 c (.lst (nats [d, sn.one, sn.two, sn.three])) = H4 at S3 c3 ⊢
      have hz1 : (nats [d, sn.one, sn.two, sn.three]).length + (nats sn.store).length ≤ sizeLine := by
        rw [nats_length, nats_length]
        show 4 + _ ≤ _
        omega
      refine ⟨_, rfl, st, t.cS, dy, _, _, rfl, S3 _ _ (S2 _ _ hy), T.sCls, T.sBags, sf_bags .., c, sb, _, _, rfl, rfl, c3, S3 _ _ (S2 _ _ hsb), hz1, fun q hq => ?_⟩
      refine kk _ q (((S.trans S2).trans S3).free hq) (((S.trans S2).trans S3).trans (Same.new hq)) ?_
      refine Eq.trans upd_same ?_
      rw [hfo]
      show some (HO.lst (nats [d, sn.one, sn.two, sn.three] ++ nats sn.store)) = some (HO.lst (V.int (d : Int) :: (Si58.ints ([sn.one, sn.two, sn.three] ++ sn.store)).map V.int))
      rw [ints_nats]
      rfl
end
end Nur

end
section
set_option Elab.async false
set_option linter.all false
set_option maxRecDepth 100000
set_option maxHeartbeats 2000000
namespace Nur
/-! ### calls out of the flat list -/
def ofNats (l : List Nat) : List Int := l.map fun (n : Nat) => (n : Int)
theorem ofNats_toNat (l : List Nat) : (ofNats l).map Int.toNat = l := by
  unfold ofNats
  rw [List.map_map]
  induction l with
  | nil => rfl
  | cons a r ih => rw [List.map_cons, ih]; rfl
theorem pairsOf_flat : ∀ {r : List Nat} {l : List (Nat × Nat)}, Si58Neutral.pairsOf r = some l → r = flat l
  | [], l, h => by
    have e : ([] : List (Nat × Nat)) = l := Option.some.inj h
    subst e
    rfl
  | [_], l, h => by cases h
  | a :: b :: r, l, h => by
    have h' : (Si58Neutral.pairsOf r).map (fun l => (a, b) :: l) = some l := h
    cases e : Si58Neutral.pairsOf r with
    | none => rw [e] at h'; cases h'
    | some m =>
      rw [e] at h'
      have e2 : (a, b) :: m = l := Option.some.inj h'
      subst e2
      rw [pairsOf_flat e]
      rfl
/-- the kinds of calls -/
inductive IsCall : Nat → List Nat → Si58.Call → Prop
  | begins (b r1 r2 r3 : Nat) (g : List Nat) (h : g.length ≤ 6) : IsCall 0 (b :: r1 :: r2 :: r3 :: g) (.begins b (r1, r2, r3) g)
  | years (l : List (Nat × Nat)) (h : l.length ≤ 8) : IsCall 1 (flat l) (.years l)
  | follow (r : List Nat) (h : r.length ≤ 8) : IsCall 2 r (.follow r)
  | lift (l : List (Nat × Nat)) (h : l.length ≤ 8) : IsCall 3 (flat l) (.lift l)
  | best : IsCall 4 [] .best
  | more (i n : Nat) : IsCall 5 [i, n] (.more i n)
theorem callOf_is {c : Nat} {as : List Nat} {q : Si58.Call} (h : Si58Neutral.callOf (ofNats (c :: as)) = some q) : IsCall c as q := by
  unfold Si58Neutral.callOf at h
  rw [ofNats_toNat] at h
  match c, as, h with
  | 0, b :: r1 :: r2 :: r3 :: g, h =>
    have h : (if g.length ≤ 6 then some (Si58.Call.begins b (r1, r2, r3) g) else none) = some q := h
    by_cases hg : g.length ≤ 6
    · rw [if_pos hg] at h
      cases h
      exact .begins b r1 r2 r3 g hg
    · rw [if_neg hg] at h
      cases h
  | 0, [], h => cases h
  | 0, [_], h => cases h
  | 0, [_, _], h => cases h
  | 0, [_, _, _], h => cases h
  | 1, r, h =>
    have h : (if r.length ≤ 16 then (Si58Neutral.pairsOf r).map Si58.Call.years else none) = some q := h
    by_cases hg : r.length ≤ 16
    · rw [if_pos hg] at h
      cases e : Si58Neutral.pairsOf r with
      | none => rw [e] at h; cases h
      | some l =>
        rw [e] at h
        cases h
        have e2 := pairsOf_flat e
        subst e2
        rw [flat_length] at hg
        exact .years l (by omega)
    · rw [if_neg hg] at h
      cases h
  | 2, r, h =>
    have h : (if r.length ≤ 8 then some (Si58.Call.follow r) else none) = some q := h
    by_cases hg : r.length ≤ 8
    · rw [if_pos hg] at h
      cases h
      exact .follow r hg
    · rw [if_neg hg] at h
      cases h
  | 3, r, h =>
    have h : (if r.length ≤ 16 then (Si58Neutral.pairsOf r).map Si58.Call.lift else none) = some q := h
    by_cases hg : r.length ≤ 16
    · rw [if_pos hg] at h
      cases e : Si58Neutral.pairsOf r with
      | none => rw [e] at h; cases h
      | some l =>
        rw [e] at h
        cases h
        have e2 := pairsOf_flat e
        subst e2
        rw [flat_length] at hg
        exact .lift l (by omega)
    · rw [if_neg hg] at h
      cases h
  | 4, [], h =>
    cases h
    exact .best
  | 4, _ :: _, h => cases h
  | 5, [i, n], h =>
    cases h
    exact .more i n
  | 5, [], h => cases h
  | 5, [_], h => cases h
  | 5, _ :: _ :: _ :: _, h => cases h
  | n + 6, _, h => cases h
/-- one call of one row at the head of the list -/
theorem call_one {l : List Int} {c : List (List Int)} {t : List Int} (h : PyWide.call l = some (c, t)) (h1 : c.length = 1) : ∃ p ns, c = [p :: ns] ∧ l = p :: ((ns.length : Int) :: (ns ++ 0 :: t)) := by
  cases l with
  | nil => cases h
  | cons p r =>
    have h' : (match PyFlat.row r with
      | none => none
      | some (_, []) => none
      | some (ns, k :: t) => if 0 ≤ k then (match PyFlat.rows k.toNat t with
        | none => none
        | some (xs, u) => some ((p :: ns) :: xs, u)) else none) = some (c, t) := h
    cases r with
    | nil => cases h'
    | cons n r =>
      by_cases hn : 0 ≤ n ∧ n.toNat ≤ r.length
      · have e : PyFlat.row (n :: r) = some (r.take n.toNat, r.drop n.toNat) := if_pos hn
        rw [e] at h'
        cases e2 : r.drop n.toNat with
        | nil => rw [e2] at h'; cases h'
        | cons k t' =>
          rw [e2] at h'
          have h2 : (if 0 ≤ k then (match PyFlat.rows k.toNat t' with
            | none => none
            | some (xs, u) => some ((p :: r.take n.toNat) :: xs, u)) else none) = some (c, t) := h'
          by_cases hk : 0 ≤ k
          · rw [if_pos hk] at h2
            cases e3 : PyFlat.rows k.toNat t' with
            | none => rw [e3] at h2; cases h2
            | some q =>
              obtain ⟨xs, u⟩ := q
              rw [e3] at h2
              obtain ⟨e4, e5⟩ := Prod.mk.inj (Option.some.inj (show some ((p :: r.take n.toNat) :: xs, u) = some (c, t) from h2))
              subst e4
              subst e5
              have e6 : xs = [] := by
                cases xs with
                | nil => rfl
                | cons x xs => simp at h1
              subst e6
              have hk0 : k.toNat = 0 := by
                cases hkn : k.toNat with
                | zero => rfl
                | succ m =>
                  rw [hkn] at e3
                  have e3' : (match PyFlat.row t' with
                    | none => none
                    | some (x, s) => match PyFlat.rows m s with
                      | none => none
                      | some (xs, t) => some (x :: xs, t)) = some (([] : List (List Int)), u) := e3
                  cases e7 : PyFlat.row t' with
                  | none => rw [e7] at e3'; cases e3'
                  | some y =>
                    obtain ⟨y1, y2⟩ := y
                    rw [e7] at e3'
                    have e3'' : (match PyFlat.rows m y2 with
                      | none => none
                      | some (xs, t) => some (y1 :: xs, t)) = some (([] : List (List Int)), u) := e3'
                    cases e8 : PyFlat.rows m y2 with
                    | none => rw [e8] at e3''; cases e3''
                    | some z =>
                      rw [e8] at e3''
                      obtain ⟨z1, z2⟩ := z
                      cases e3''
              have hk1 : k = 0 := by omega
              rw [hk0] at e3
              have e9 : t' = u := (Prod.mk.inj (Option.some.inj (show some (([] : List (List Int)), t') = some (([] : List (List Int)), u) from e3))).2
              subst e9
              subst hk1
              refine ⟨p, r.take n.toNat, rfl, ?_⟩
              have el : (r.take n.toNat).length = n.toNat := by rw [List.length_take]; omega
              rw [el, ← e2, List.take_append_drop]
              congr 2
              omega
          · rw [if_neg hk] at h2; cases h2
      · have e : PyFlat.row (n :: r) = none := if_neg hn
        rw [e] at h'
        cases h'
theorem calls_nil {f : Nat} {cs : List (List (List Int))} (h : PyWide.calls f [] = some cs) : cs = [] := by
  cases f <;> exact (Option.some.inj h).symm
theorem calls_cons {f : Nat} {x : Int} {r : List Int} {cs : List (List (List Int))} (h : PyWide.calls f (x :: r) = some cs) : ∃ f' c t cs', PyWide.call (x :: r) = some (c, t) ∧ PyWide.calls f' t = some cs' ∧ cs = c :: cs' := by
  cases f with
  | zero => cases h
  | succ f =>
    have h' : (match PyWide.call (x :: r) with
      | none => none
      | some (d, t) => match PyWide.calls f t with
        | none => none
        | some ds => some (d :: ds)) = some cs := h
    cases e : PyWide.call (x :: r) with
    | none => rw [e] at h'; cases h'
    | some q =>
      obtain ⟨d, t⟩ := q
      rw [e] at h'
      have h2 : (match PyWide.calls f t with
        | none => none
        | some ds => some (d :: ds)) = some cs := h'
      cases e2 : PyWide.calls f t with
      | none => rw [e2] at h2; cases h2
      | some ds =>
        rw [e2] at h2
        exact ⟨f, d, t, ds, rfl, e2, (Option.some.inj h2).symm⟩
end Nur

end
section
set_option Elab.async false
set_option linter.all false
set_option maxRecDepth 100000
set_option maxHeartbeats 2000000
namespace Nur
open PySem PySem.Spec PyProof.Rows L2
open PySem.W (Codec)
section
variable {P : Program} {w : World} {K : PySem.W.Frag} {mg : Str → Option Value} {base : Heap} {t : Adr}

/-! ### answer_call's promise -/
def spCal (C : Addr) : Sp := fun vs H Q _ => ∃ (p a o : Addr) (uo : HO) (k : Si58.Nursery) (c : Nat) (as : List Nat) (q : Si58.Call), vs = [.ref p, .int (c : Int), .ref a] ∧ NurOff C H p k o ∧ H o = some uo ∧ Fine k ∧ H a = some (.lst (nats as)) ∧ IsCall c as q ∧
  ∀ H' r, H r = none → But p H H' → NurOff C H' p (Si58.step k q).1 o → AnsAt H' r (Si58.step k q).2 → Q (.ref r) H'
theorem fine_init : Fine Si58.init := ⟨by decide, by decide, by decide, by decide, by decide, by decide, by decide⟩
theorem fine_step {k : Si58.Nursery} (f : Fine k) (q : Si58.Call) : Fine (Si58.step k q).1 := by
  cases q with
  | begins b r g =>
    show Fine (if _ then (k, Si58.ok (-1)) else ((⟨b, g, r, []⟩ : Si58.Nursery), Si58.ok g.length)).1
    by_cases h : Si58.BEDS < b ∨ 100 < r.1 ∨ 100 < r.2.1 ∨ 100 < r.2.2 ∨ g = [] ∨ Si58.AGES < g.length ∨ (g.all fun x => decide (x ≤ Si58.GERM)) = false
    · rw [if_pos h]
      exact f
    · rw [if_neg h]
      have hb : ¬ 4 < b := fun z => h (.inl z)
      have h1 : ¬ 100 < r.1 := fun z => h (.inr (.inl z))
      have h2 : ¬ 100 < r.2.1 := fun z => h (.inr (.inr (.inl z)))
      have h3 : ¬ 100 < r.2.2 := fun z => h (.inr (.inr (.inr (.inl z))))
      have h4 : g ≠ [] := fun z => h (.inr (.inr (.inr (.inr (.inl z)))))
      have h5 : ¬ 4 < g.length := fun z => h (.inr (.inr (.inr (.inr (.inr (.inl z))))))
      have h6 : (g.all fun x => decide (x ≤ 1000)) = true := by
        cases e : (g.all fun x => decide (x ≤ 1000)) with
        | true => rfl
        | false => exact absurd (.inr (.inr (.inr (.inr (.inr (.inr e)))))) h
      have h7 : 0 < g.length := List.length_pos_iff.mpr h4
      refine ⟨by show b ≤ 4; omega, by show r.1 ≤ 100; omega, by show r.2.1 ≤ 100; omega, by show r.2.2 ≤ 100; omega, ⟨by show 1 ≤ g.length; omega, by show g.length ≤ 4; omega⟩, fun x hx => ?_, by show 0 ≤ 6; decide⟩
      exact of_decide_eq_true (List.all_eq_true.mp h6 x hx)
  | years l =>
    show Fine (if _ then (k, Si58.ok (-1)) else ({ k with years := l }, Si58.ok l.length)).1
    by_cases h : Si58.YEARS < l.length ∨ (l.all fun y => decide (y.1 ≤ Si58.BAGS) && decide (y.2 ≤ Si58.WANT)) = false
    · rw [if_pos h]
      exact f
    · rw [if_neg h]
      have h1 : ¬ 6 < l.length := fun z => h (.inl z)
      exact ⟨f.beds, f.l1, f.l2, f.l3, f.ages, f.germ, by show l.length ≤ 6; omega⟩
  | follow r =>
    show Fine (if _ then (k, Si58.ok (-1)) else _).1
    split <;> exact f
  | lift r =>
    show Fine (if _ then (k, Si58.ok (-1)) else _).1
    split <;> exact f
  | best => exact f
  | more i n =>
    show Fine (if _ then (k, Si58.ok (-2)) else if _ then (k, Si58.ok (-1)) else _).1
    split
    · exact f
    · split <;> exact f

/-! ### answers -/
theorem slice_cut (l : List Nat) (i j : Nat) (hi : i ≤ j) (hj : j ≤ l.length) : cutV (nats l) (some (i : Int)) (some (j : Int)) = nats ((l.drop i).take (j - i)) := by
  rw [cut_nat, Nat.min_eq_left hj, Nat.min_eq_left (by omega)]
/-- a natural number as it stands in the list -/
theorem asked1_of {c : List (List Int)} (h : Si58Neutral.asked1 c = true) : ∃ l q, c = [l] ∧ (∀ z ∈ l, 0 ≤ z) ∧ Si58Neutral.callOf l = some q := by
  unfold Si58Neutral.asked1 at h
  rw [Bool.and_eq_true, Bool.and_eq_true] at h
  obtain ⟨h1, h2, h3⟩ := h
  match c, h1, h2, h3 with
  | [l], _, h2, h3 =>
    obtain ⟨q, hq⟩ := Option.isSome_iff_exists.mp h3
    refine ⟨l, q, rfl, fun z hz => ?_, hq⟩
    have hz := List.all_eq_true.mp h2 z hz
    unfold Si58Neutral.natural at hz
    rw [Bool.and_eq_true] at hz
    exact of_decide_eq_true hz.1
theorem step_of {s : Si58.Nursery} {l : List Int} {q : Si58.Call} (h : Si58Neutral.callOf l = some q) : Si58Neutral.step s [l] = ((Si58.step s q).1, (Si58.step s q).2.v :: (Si58.step s q).2.l) := by
  unfold Si58Neutral.step
  show (match Si58Neutral.callOf l with
    | none => (s, [])
    | some q => ((Si58.step s q).1, (Si58.step s q).2.v :: (Si58.step s q).2.l)) = _
  rw [h]
def spAns (K : PySem.W.Frag) : Sp := fun vs H Q _ => ∃ (a : Addr) (ms : List Nat), vs = [.ref a] ∧ SqL K H a (nats ms) ∧ ms.length ≤ 3000 ∧ PySi58.answers_asked (ofNats ms) = true ∧ ∀ (H' : Hp) (p : Addr), H' p = some (.lst ((PySi58.answers (ofNats ms)).map V.int)) → Q (.ref p) H'
theorem scAns : FnScope ["calls", "nursery", "answered", "place", "start", "end", "answer"] ["calls"] (defScope sAns) := ⟨rfl, rfl, rfl, by decide +kernel, rfl, by decide +kernel, by decide +kernel⟩
/-- between two turns: the rest of the list is the calls that are left -/
theorem split_nats {D : List Nat} {p0 : Int} {ns0 t : List Int} (h : ofNats D = p0 :: ((ns0.length : Int) :: (ns0 ++ 0 :: t))) : ∃ (c : Nat) (as T : List Nat), D = c :: as.length :: (as ++ 0 :: T) ∧ p0 = (c : Int) ∧ ns0 = ofNats as ∧ t = ofNats T := by
  unfold ofNats at h
  match D, h with
  | d0 :: d1 :: D', h =>
    rw [List.map_cons, List.map_cons] at h
    obtain ⟨e1, h⟩ := List.cons.inj h
    obtain ⟨e2, h⟩ := List.cons.inj h
    obtain ⟨as, r, e3, e4, e5⟩ := List.map_eq_append_iff.mp h
    match r, e5 with
    | z :: T, e5 =>
      rw [List.map_cons] at e5
      obtain ⟨e6, e7⟩ := List.cons.inj e5
      refine ⟨d0, as, T, ?_, e1.symm, e4.symm, e7.symm⟩
      have e8 : d1 = as.length := by
        rw [← e4, List.length_map] at e2
        omega
      have e9 : z = 0 := by omega
      rw [e3, e8, e9]
structure Left (ms : List Nat) (m : Nat) (k : Si58.Nursery) (out : List Int) (f b : Nat) (post : List (List (List Int))) : Prop where
  le : m ≤ ms.length
  calls : PyWide.calls f (ofNats (ms.drop m)) = some post
  told : out ++ PyFlat.told (PyFlat.played Si58Neutral.step k post) = PySi58.answers (ofNats ms)
  fine : Fine k
  ok1 : post.all Si58Neutral.asked1 = true
  short : Si58Neutral.short k b post = true
  size : out.length + b + post.length ≤ 2000000
/-- one turn: the call at the place, and what is left behind it -/
theorem Left.turn {ms : List Nat} {m : Nat} {k : Si58.Nursery} {out : List Int} {f b : Nat} {post : List (List (List Int))} (L : Left ms m k out f b post) (hm : m < ms.length) :
    ∃ (c : Nat) (as : List Nat) (q : Si58.Call) (f' b' : Nat) (post' : List (List (List Int))), ms[m]? = some c ∧ ms[m + 1]? = some as.length ∧ m + 2 + as.length + 1 ≤ ms.length ∧ (ms.drop (m + 2)).take as.length = as ∧ IsCall c as q ∧
      Left ms (m + 2 + as.length + 1) (Si58.step k q).1 (out ++ (((Si58.step k q).2.v :: (Si58.step k q).2.l).length : Int) :: ((Si58.step k q).2.v :: (Si58.step k q).2.l)) f' b' post' ∧
      out.length + ((Si58.step k q).2.v :: (Si58.step k q).2.l).length + 1 ≤ 2000000 := by
  have hcl := L.calls
  obtain ⟨x, r, hxr⟩ : ∃ x r, ofNats (ms.drop m) = x :: r := by
    cases e : ms.drop m with
    | nil =>
      have := congrArg List.length e
      rw [List.length_drop] at this
      have : ms.length - m = 0 := this
      omega
    | cons a r => exact ⟨_, _, rfl⟩
  rw [hxr] at hcl
  obtain ⟨f', c0, t0, cs', h1, h2, h3⟩ := calls_cons hcl
  subst h3
  have hok := L.ok1
  rw [List.all_cons, Bool.and_eq_true] at hok
  obtain ⟨l, q, e1, hnn, hq⟩ := asked1_of hok.1
  subst e1
  obtain ⟨p0, ns0, e2, e3⟩ := call_one h1 rfl
  cases e2
  rw [← hxr] at e3
  obtain ⟨c, as, T, hD, e4, e5, e6⟩ := split_nats e3
  subst e4
  subst e5
  subst e6
  have hq2 : Si58Neutral.callOf (ofNats (c :: as)) = some q := hq
  have hst := step_of (s := k) hq
  have hsh := L.short
  have hsh : (decide ((Si58Neutral.step k [(c : Int) :: ofNats as]).2.length ≤ b) && Si58Neutral.short (Si58Neutral.step k [(c : Int) :: ofNats as]).1 (b - (Si58Neutral.step k [(c : Int) :: ofNats as]).2.length) cs') = true := hsh
  rw [hst, Bool.and_eq_true] at hsh
  have hb : ((Si58.step k q).2.v :: (Si58.step k q).2.l).length ≤ b := of_decide_eq_true hsh.1
  have hlen : (ms.drop m).length = as.length + T.length + 3 := by
    rw [hD]
    simp
    omega
  rw [List.length_drop] at hlen
  have hdrop : ms.drop (m + 2) = as ++ 0 :: T := by
    rw [← List.drop_drop, hD]
    rfl
  have hdrop3 : ms.drop (m + 2 + as.length + 1) = T := by
    rw [Nat.add_assoc (m + 2), ← List.drop_drop, hdrop, ← List.drop_drop, List.drop_left]
    rfl
  have hsz := L.size
  rw [List.length_cons] at hsz
  refine ⟨c, as, q, f', b - ((Si58.step k q).2.v :: (Si58.step k q).2.l).length, cs', ?_, ?_, by omega, ?_, callOf_is hq2, ⟨by omega, ?_, ?_, fine_step L.fine q, hok.2, hsh.2, ?_⟩, by omega⟩
  · have e : (ms.drop m)[0]? = some c := by rw [hD]; rfl
    rw [List.getElem?_drop] at e
    exact e
  · have e : (ms.drop m)[1]? = some as.length := by rw [hD]; rfl
    rw [List.getElem?_drop] at e
    exact e
  · rw [hdrop, List.take_left]
  · rw [hdrop3]
    exact h2
  · rw [← L.told]
    show _ = out ++ PyFlat.told ((Si58Neutral.step k [(c : Int) :: ofNats as]).2 :: PyFlat.played Si58Neutral.step (Si58Neutral.step k [(c : Int) :: ofNats as]).1 cs')
    rw [hst]
    show _ = out ++ ((((Si58.step k q).2.v :: (Si58.step k q).2.l).length : Int) :: ((Si58.step k q).2.v :: (Si58.step k q).2.l) ++ PyFlat.told (PyFlat.played Si58Neutral.step (Si58.step k q).1 cs'))
    rw [List.append_assoc]
  · rw [List.length_append, List.length_cons]
    omega
theorem ok_ans {f : Addr} {fd : FuncData} (T : Txt K mg t) (F : Fun K "answers" "answers" sAns f fd) (GC : FnOk P w K mg base CX0 10 t.fCal t.dCal ["nursery", "call", "numbers"] (spCal t.cN)) : FnOk P w K mg base CX0 11 f fd ["calls"] (spAns K) := by
  have GN : FnOk P w K mg base CX0 1 t.fNI t.dNI ["self"] (spNI t.cN) := ok_ni T
  refine F.ok scAns (fun vs H Q E h => ?_) (fun cdv A outer s H vs Q E hr h => ?_)
  · obtain ⟨a, ms, rfl, _⟩ := h
    rfl
  · obtain ⟨a, ms, rfl, hS, hml, hask, kk⟩ := h
    have hr2 : Room 2 _ := hr.mono (by decide)
    refine ⟨_, pss_cons (ps_set (i := 1) scAns.nd rfl (Or.inl rfl) (pe_make0 T.nMk GN hr2 rfl T.nGl T.nBn .nil pass0))
      (pss_cons (ps_set (i := 2) scAns.nd rfl (Or.inl rfl) (pe_lst pa_nil))
      (pss_cons (ps_set (i := 3) scAns.nd rfl (Or.inl rfl) pe_int)
      (pss_cons (ps_while PassesOwn.never (pt_cmpR op_lt (pv 3) (pe_callB call_len_seq (by rfl) T.len PySem.boot_len (pa_cons (pv 0) pa_nil)) (nomark _)) (pss_cons (ps_set (i := 4) scAns.nd rfl (Or.inl rfl) (pe_op op_add (pv 3) pe_int))
      (pss_cons (ps_set (i := 5) scAns.nd rfl (Or.inl rfl) (pe_op op_add (pv 4) (pe_ix ix_list (pv 0) (pe_op op_add (pv 3) pe_int) (fun _ _ => rfl))))
      (pss_cons (ps_set (i := 6) scAns.nd rfl (Or.inl rfl) (pe_call GC hr rfl T.cal.gl T.cal.fn.kp T.cal.bn .nil pass0 (pa_cons (pv 1) (pa_cons (pe_ix ix_list (pv 0) (pv 3) (fun _ _ => rfl)) (pa_cons (pe_slice sl_list (pv 0) (po_some (pv 4)) (po_some (pv 5))) pa_nil)))))
      (pss_cons (ps_expr (pe_bm PySem.F.plainAttrs_list PySem.F.slot_list_append PySem.F.type_list_append mt_append (pv 2) (pa_cons (pe_callB call_len_seq (by rfl) T.len PySem.boot_len (pa_cons (pv 6) pa_nil)) pa_nil)))
      (pss_cons (ps_expr (pe_bm PySem.F.plainAttrs_list PySem.F.slot_list_extend PySem.F.type_list_extend mt_extend (pv 2) (pa_cons (pv 6) pa_nil)))
      (pss_one (ps_set (i := 3) scAns.nd rfl (Or.inl rfl) (pe_op op_add (pv 5) pe_int)))))))))
      (pss_one (ps_ret (pv 2)))))), ?_⟩
    have hbig : 2000010 ≤ sizeLine := by decide
    -- nursery = Nursery(); answered = []; place = 0
    intro p dx np ndx ne
    refine ⟨p, dx, rfl, upd_same, fun H1 hN1 k1 => ⟨rfl, ?_⟩⟩
    have S1 : Same H H1 := Same.made np ndx k1
    refine ⟨Nat.zero_le _, fun o ho => ?_⟩
    have S2 : Same H1 (upd H1 o (.lst [])) := Same.new ho
    have o2 : upd H1 o (.lst []) o = some (.lst (([] : List Int).map V.int)) := upd_same
    have hon : H o = none := S1.free ho
    generalize upd H1 o (.lst []) = H2 at S2 o2 ⊢
    have hN2 := (hN1.off ho).mono S2
    have S02 := S1.trans S2
    -- the loop
    obtain ⟨cs, hcs⟩ : ∃ cs, PySi58.calls (ofNats ms) = some cs := by
      unfold PySi58.answers_asked at hask
      cases e : PySi58.calls (ofNats ms) with
      | none => rw [e] at hask; cases hask
      | some cs => exact ⟨cs, rfl⟩
    have hask2 : (PyFlat.atMost 60 cs && Si58Neutral.asked cs) = true := by
      unfold PySi58.answers_asked at hask
      rw [hcs] at hask
      exact hask
    have hans : PySi58.answers (ofNats ms) = PyFlat.told (PyFlat.played Si58Neutral.step Si58Neutral.start cs) := by
      unfold PySi58.answers
      rw [hcs]
    have L0 : Left ms 0 Si58.init [] (ofNats ms).length 999999 cs := by
      unfold Si58Neutral.asked at hask2
      rw [Bool.and_eq_true, Bool.and_eq_true, Bool.and_eq_true, Bool.and_eq_true, Bool.and_eq_true] at hask2
      obtain ⟨_, h1, h2, h3, h4, h5⟩ := hask2
      have h3 : cs.length ≤ 60 := of_decide_eq_true h3
      exact ⟨Nat.zero_le _, hcs, hans.symm, fine_init, h1, h5, by show 0 + 999999 + cs.length ≤ 2000000; omega⟩
    refine while_by (fun σ H' => ∃ (m : Nat) (k : Si58.Nursery) (out : List Int) (f b : Nat) (post : List (List (List Int))) (v4 v5 v6 : Option V), σ = [some (.ref a), some (.ref p), some (.ref o), some (.int (m : Int)), v4, v5, v6] ∧ Same H H' ∧ NurOff t.cN H' p k o ∧ H' o = some (.lst (out.map V.int)) ∧ Left ms m k out f b post)
      (fun σ _ => match σ[3]? with
        | some (some (V.int z)) => ms.length - z.toNat
        | _ => 0) ⟨0, Si58.init, [], _, _, cs, none, none, none, rfl, S02, hN2, o2, L0⟩ ?_ ?_
    · rintro σ H' ⟨m, k, out, f, b, post, v4, v5, v6, rfl, S, hN, ho', L⟩
      refine ⟨_, rfl, _, rfl, a, _, rfl, .inl (S.seq hS), _, _, rfl, rfl, _, rfl, ?_⟩
      rw [nats_length]
      refine ite2 (fun hc => ?_) (fun hc => ?_)
      · have hm : m < ms.length := by
          have z : (m : Int) < (ms.length : Int) := of_decide_eq_true hc
          omega
        obtain ⟨c, as, q, f', b', post', g1, g2, g3, g4, g5, L', g6⟩ := L.turn hm
        have hSq := S.seq hS
        -- start, end
        refine ⟨_, rfl, _, _, rfl, rfl, ?_⟩
        refine ⟨_, rfl, _, rfl, _, rfl, _, _, rfl, rfl, a, _, _, _, rfl, rfl, hSq, at_of (j := m + 1) (by omega) (nats_get g2), _, _, rfl, rfl, ?_⟩
        -- answer = answer_call(..)
        refine ⟨_, rfl, _, rfl, _, rfl, a, _, _, _, rfl, rfl, hSq, at_of (j := m) rfl (nats_get g1), _, rfl, _, rfl, _, rfl, _, rfl, _, rfl, a, _, rfl, hSq, fun u hu => ?_⟩
        have ecut : cutV (nats ms) (some ((m : Int) + 2)) (some ((m : Int) + 2 + (as.length : Int))) = nats as := by
          have e := slice_cut ms (m + 2) (m + 2 + as.length) (by omega) (by omega)
          rw [show m + 2 + as.length - (m + 2) = as.length by omega, g4] at e
          exact e
        show tNil _ (upd H' u (.lst (cutV (nats ms) (some ((m : Int) + 2)) (some ((m : Int) + 2 + (as.length : Int)))))) _
        rw [ecut]
        have S4 : Same H' (upd H' u (.lst (nats as))) := Same.new hu
        have u4 : upd H' u (.lst (nats as)) u = some (.lst (nats as)) := upd_same
        generalize upd H' u (.lst (nats as)) = H4 at S4 u4 ⊢
        have o4 := S4 _ _ ho'
        refine ⟨p, u, o, _, k, c, as, q, rfl, hN.mono S4, o4, L.fine, u4, g5, fun H5 r hrn B5 hN5 hA5 => ?_⟩
        obtain ⟨dp, _, _, _, _, _, npo, _⟩ := hN.mono S4
        have nop : o ≠ p := npo.symm
        have nro : r ≠ o := fun z => by rw [z, o4] at hrn; cases hrn
        have o5 := B5 _ _ o4 nop
        have r5 : H5 r = some (.lst (((Si58.step k q).2.v :: (Si58.step k q).2.l).map V.int)) := hA5
        have S05 : Same H H5 := fun b' o' e => B5 _ _ (S4 _ _ (S _ _ e)) (ne_of_none e np)
        generalize hAns : (Si58.step k q).2.v :: (Si58.step k q).2.l = ans at r5 L' g6
        -- answered.append(len(answer))
        refine ⟨_, rfl, .inl ⟨rfl, _, SqL.of o5⟩, _, rfl, r, _, rfl, .inl (SqL.of r5), o, _, _, rfl, rfl, o5, (by rw [List.length_map]; omega), ?_⟩
        rw [List.length_map]
        have o6 : upd H5 o (.lst (out.map V.int ++ [.int (ans.length : Int)])) o = some (.lst (out.map V.int ++ [.int (ans.length : Int)])) := upd_same
        have r6 : upd H5 o (.lst (out.map V.int ++ [.int (ans.length : Int)])) r = some (.lst (ans.map V.int)) := Eq.trans (upd_ne nro) r5
        have S06 : Same H (upd H5 o (.lst (out.map V.int ++ [.int (ans.length : Int)]))) := fun b' o' e => by rw [upd_ne (ne_of_none e hon)]; exact S05 b' o' e
        have B6 : But o H5 (upd H5 o (.lst (out.map V.int ++ [.int (ans.length : Int)]))) := But.put
        generalize upd H5 o (.lst (out.map V.int ++ [.int (ans.length : Int)])) = H6 at o6 r6 S06 B6 ⊢
        have hz2 : (out.map V.int ++ [V.int (ans.length : Int)]).length + (ans.map V.int).length ≤ sizeLine := by
          rw [List.length_append, List.length_map, List.length_map]
          show _ + 1 + _ ≤ _
          omega
        refine ⟨_, rfl, .inl ⟨rfl, _, SqL.of o6⟩, _, rfl, o, r, _, _, rfl, rfl, o6, r6, hz2, ?_⟩
        have B7 : But o H6 (upd H6 o (.lst (out.map V.int ++ [.int (ans.length : Int)] ++ ans.map V.int))) := But.put
        have o7 : upd H6 o (.lst (out.map V.int ++ [.int (ans.length : Int)] ++ ans.map V.int)) o = some (.lst ((out ++ (ans.length : Int) :: ans).map V.int)) := by
          refine Eq.trans upd_same ?_
          rw [List.map_append, List.map_cons, List.append_assoc]
          rfl
        have S07 : Same H (upd H6 o (.lst (out.map V.int ++ [.int (ans.length : Int)] ++ ans.map V.int))) := fun b' o' e => by rw [upd_ne (ne_of_none e hon)]; exact S06 b' o' e
        generalize upd H6 o (.lst (out.map V.int ++ [.int (ans.length : Int)] ++ ans.map V.int)) = H7 at B7 o7 S07 ⊢
        refine ⟨_, rfl, _, _, rfl, rfl, ?_⟩
        have hN7 : NurOff t.cN H7 p (Si58.step k q).1 o := (hN5.but B6).but B7
        refine ⟨⟨m + 2 + as.length + 1, (Si58.step k q).1, out ++ (ans.length : Int) :: ans, f', b', post', _, _, _, rfl, S07, hN7, o7, L'⟩, ?_⟩
        show ms.length - ((m : Int) + 2 + (as.length : Int) + 1).toNat < ms.length - (m : Int).toNat
        omega
      · have hm : ms.length ≤ m := by
          have z : ¬ (m : Int) < (ms.length : Int) := fun z => hc (decide_eq_true z)
          omega
        refine ⟨_, rfl, ?_⟩
        refine kk H' o ?_
        have e1 := L.calls
        rw [List.drop_of_length_le hm] at e1
        have e2 := calls_nil e1
        have e3 := L.told
        rw [e2] at e3
        have e4 : out = PySi58.answers (ofNats ms) := by
          rw [← e3]
          show out = out ++ []
          rw [List.append_nil]
        rw [← e4]
        exact ho'
    · rintro σ H' Q1 Q2 hQ ⟨v, e, v', e', p', ys, e2, hp', i, j, e3, e4, e5, e6, hq⟩
      exact ⟨v, e, v', e', p', ys, e2, hp', i, j, e3, e4, e5, e6, hQ _ _ hq⟩
end
end Nur

end
section
set_option Elab.async false
set_option linter.all false
set_option maxRecDepth 100000
set_option maxHeartbeats 2000000
namespace Nur
open Si58 (Best bestOf)
/-! ### the best of some rows -/
/-- the better of two, the earlier of equals first -/
def bmerge : Option Best → Option Best → Option Best
  | none, b => b
  | some x, none => some x
  | some x, some y => if y.bags < x.bags then some y else if y.bags = x.bags then some ⟨x.bags, x.many + y.many, x.row⟩ else some x
def bone (r : List Nat) : Option Best := some ⟨r.sum, 1, r⟩
theorem bestOf_fold (l : List (List Nat)) : bestOf l = l.foldl (fun b r => bmerge b (bone r)) none := by
  unfold bestOf
  congr 1
  funext b r
  cases b <;> rfl
theorem bmerge_none (b : Option Best) : bmerge b none = b := by cases b <;> rfl
theorem bm_lt {x y : Best} (h : y.bags < x.bags) : bmerge (some x) (some y) = some y := if_pos h
theorem bm_eq {x y : Best} (h : y.bags = x.bags) : bmerge (some x) (some y) = some ⟨x.bags, x.many + y.many, x.row⟩ := (if_neg (by omega)).trans (if_pos h)
theorem bm_gt {x y : Best} (h : x.bags < y.bags) : bmerge (some x) (some y) = some x := (if_neg (by omega)).trans (if_neg (by omega))
theorem bmerge_assoc (a b c : Option Best) : bmerge (bmerge a b) c = bmerge a (bmerge b c) := by
  cases a with
  | none => rfl
  | some x =>
    cases b with
    | none => rfl
    | some y =>
      cases c with
      | none => rw [bmerge_none, bmerge_none]
      | some z =>
        rcases Nat.lt_trichotomy y.bags x.bags with h1 | h1 | h1
        · rw [bm_lt h1]
          rcases Nat.lt_trichotomy z.bags y.bags with h2 | h2 | h2
          · rw [bm_lt h2, bm_lt (show z.bags < x.bags by omega)]
          · rw [bm_eq h2, bm_lt (x := x) (y := ⟨y.bags, y.many + z.many, y.row⟩) h1]
          · rw [bm_gt h2, bm_lt h1]
        · rw [bm_eq h1]
          rcases Nat.lt_trichotomy z.bags y.bags with h2 | h2 | h2
          · rw [bm_lt h2, bm_lt (x := ⟨x.bags, x.many + y.many, x.row⟩) (y := z) (show z.bags < x.bags by omega), bm_lt (show z.bags < x.bags by omega)]
          · rw [bm_eq h2, bm_eq (x := ⟨x.bags, x.many + y.many, x.row⟩) (y := z) (show z.bags = x.bags by omega), bm_eq (x := x) (y := ⟨y.bags, y.many + z.many, y.row⟩) h1, Nat.add_assoc]
          · rw [bm_gt h2, bm_gt (x := ⟨x.bags, x.many + y.many, x.row⟩) (y := z) (show x.bags < z.bags by omega), bm_eq h1]
        · rw [bm_gt h1]
          rcases Nat.lt_trichotomy z.bags y.bags with h2 | h2 | h2
          · rw [bm_lt h2]
          · rw [bm_eq h2, bm_gt (x := x) (y := ⟨y.bags, y.many + z.many, y.row⟩) h1, bm_gt (show x.bags < z.bags by omega)]
          · rw [bm_gt h2, bm_gt h1, bm_gt (show x.bags < z.bags by omega)]
theorem fold_merge (l : List (List Nat)) (b : Option Best) : l.foldl (fun b r => bmerge b (bone r)) b = bmerge b (bestOf l) := by
  induction l generalizing b with
  | nil => rw [show bestOf [] = none from rfl, bmerge_none]; rfl
  | cons r l ih =>
    rw [List.foldl_cons, ih]
    have e : bestOf (r :: l) = bmerge (bone r) (bestOf l) := by
      rw [bestOf_fold, List.foldl_cons, ih]
      rfl
    rw [e, bmerge_assoc]
theorem bestOf_nil : bestOf [] = none := rfl
theorem bestOf_cons (r : List Nat) (l : List (List Nat)) : bestOf (r :: l) = bmerge (bone r) (bestOf l) := by
  rw [bestOf_fold, List.foldl_cons, fold_merge]
  rfl
theorem bestOf_append (l m : List (List Nat)) : bestOf (l ++ m) = bmerge (bestOf l) (bestOf m) := by
  induction l with
  | nil => rfl
  | cons r l ih => rw [List.cons_append, bestOf_cons, bestOf_cons, ih, bmerge_assoc]
/-- a number ahead of each row -/
def bput (t : Nat) (b : Option Best) : Option Best := b.map fun x => ⟨t + x.bags, x.many, t :: x.row⟩
theorem bput_merge (t : Nat) (a b : Option Best) : bput t (bmerge a b) = bmerge (bput t a) (bput t b) := by
  cases a with
  | none => rfl
  | some x =>
    cases b with
    | none => rfl
    | some y =>
      rcases Nat.lt_trichotomy y.bags x.bags with h1 | h1 | h1
      · rw [bm_lt h1]
        exact (bm_lt (x := ⟨t + x.bags, x.many, t :: x.row⟩) (y := ⟨t + y.bags, y.many, t :: y.row⟩) (Nat.add_lt_add_left h1 t)).symm
      · rw [bm_eq h1]
        exact (bm_eq (x := ⟨t + x.bags, x.many, t :: x.row⟩) (y := ⟨t + y.bags, y.many, t :: y.row⟩) (congrArg (t + ·) h1)).symm
      · rw [bm_gt h1]
        exact (bm_gt (x := ⟨t + x.bags, x.many, t :: x.row⟩) (y := ⟨t + y.bags, y.many, t :: y.row⟩) (Nat.add_lt_add_left h1 t)).symm
theorem bestOf_map (t : Nat) (l : List (List Nat)) : bestOf (l.map fun r => t :: r) = bput t (bestOf l) := by
  induction l with
  | nil => rfl
  | cons r l ih =>
    rw [List.map_cons, bestOf_cons, bestOf_cons, ih, bput_merge]
    rfl
theorem bestOf_flatMap {α : Type} (f : α → List (List Nat)) (l : List α) : bestOf (l.flatMap f) = l.foldl (fun b x => bmerge b (bestOf (f x))) none := by
  have h : ∀ (l : List α) (b : Option Best), bmerge b (bestOf (l.flatMap f)) = l.foldl (fun b x => bmerge b (bestOf (f x))) b := by
    intro l
    induction l with
    | nil => intro b; rw [List.flatMap_nil, bestOf_nil, bmerge_none]; rfl
    | cons x l ih => intro b; rw [List.flatMap_cons, bestOf_append, ← bmerge_assoc, ih]; rfl
  exact h l none
/-! ### the rows that do, year by year -/
def doing (k : Si58.Nursery) : List (Nat × Nat) → Si58.Now → List (List Nat)
  | [], _ => [[]]
  | y :: l, s => (List.range (k.beds + 1)).flatMap fun t => match k.year s y.1 y.2 t (s.besides y.2) with
    | none => []
    | some z => (doing k l z).map fun r => t :: r
theorem follow_le (k : Si58.Nursery) : ∀ (ys : List (Nat × Nat)) (r : List Nat) (s : Si58.Now), (k.follow ys r s).1 ≤ ys.length
  | [], _, _ => Nat.zero_le _
  | _ :: _, [], _ => Nat.zero_le _
  | y :: l, x :: r, s => by
    show (match k.year s y.1 y.2 x (s.besides y.2) with
      | some t => ((k.follow l r t).1 + 1, (k.follow l r t).2)
      | none => (0, s)).1 ≤ l.length + 1
    cases k.year s y.1 y.2 x (s.besides y.2) with
    | none => exact Nat.zero_le _
    | some t => exact Nat.succ_le_succ (follow_le k l r t)
theorem follow_cons (k : Si58.Nursery) (y : Nat × Nat) (l : List (Nat × Nat)) (x : Nat) (r : List Nat) (s : Si58.Now) : k.follow (y :: l) (x :: r) s = match k.year s y.1 y.2 x (s.besides y.2) with
      | some t => ((k.follow l r t).1 + 1, (k.follow l r t).2)
      | none => (0, s) := rfl
theorem filter_flatMap {α β : Type} (p : β → Bool) (f : α → List β) (l : List α) : (l.flatMap f).filter p = l.flatMap fun x => (f x).filter p := by
  induction l with
  | nil => rfl
  | cons x l ih => rw [List.flatMap_cons, List.flatMap_cons, List.filter_append, ih]
theorem rows_doing (k : Si58.Nursery) : ∀ (ys : List (Nat × Nat)) (s : Si58.Now), (Si58.rows k.beds ys.length).filter (fun r => (k.follow ys r s).1 == ys.length) = doing k ys s
  | [], s => rfl
  | y :: l, s => by
    show ((List.range (k.beds + 1)).flatMap fun t => (Si58.rows k.beds l.length).map fun r => t :: r).filter _ = (List.range (k.beds + 1)).flatMap _
    rw [filter_flatMap]
    congr 1
    funext t
    rw [List.filter_map]
    cases e : k.year s y.1 y.2 t (s.besides y.2) with
    | none =>
      have h : ∀ r, ((fun r => (k.follow (y :: l) r s).1 == (y :: l).length) ∘ fun r => t :: r) r = false := fun r => by
        show ((k.follow (y :: l) (t :: r) s).1 == l.length + 1) = false
        rw [follow_cons, e]
        rfl
      rw [List.filter_eq_nil_iff.mpr (fun r _ => by rw [h r]; decide)]
      rfl
    | some z =>
      have h : ((fun r => (k.follow (y :: l) r s).1 == (y :: l).length) ∘ fun r => t :: r) = fun r => (k.follow l r z).1 == l.length := by
        funext r
        show ((k.follow (y :: l) (t :: r) s).1 == l.length + 1) = _
        rw [follow_cons, e]
        show ((k.follow l r z).1 + 1 == l.length + 1) = _
        by_cases hh : (k.follow l r z).1 = l.length
        · rw [hh]; simp
        · rw [beq_eq_false_iff_ne.mpr hh, beq_eq_false_iff_ne.mpr (by omega)]
      rw [h, rows_doing k l z]
theorem rows_length (b : Nat) : ∀ (n : Nat) (r : List Nat), r ∈ Si58.rows b n → r.length = n
  | 0, r, h => by
    have h : r ∈ [([] : List Nat)] := h
    rw [List.mem_singleton] at h
    rw [h]; rfl
  | n + 1, r, h => by
    have h : r ∈ (List.range (b + 1)).flatMap fun t => (Si58.rows b n).map fun l => t :: l := h
    rw [List.mem_flatMap] at h
    obtain ⟨t, _, h⟩ := h
    rw [List.mem_map] at h
    obtain ⟨l, hl, rfl⟩ := h
    rw [List.length_cons, rows_length b n l hl]
theorem nursery_rows (k : Si58.Nursery) : k.rows = doing k k.years k.empty := by
  rw [← rows_doing]
  unfold Si58.Nursery.rows
  refine List.filter_congr fun r hr => ?_
  unfold Si58.Nursery.does
  rw [rows_length _ _ r hr]
  simp
/-- the best row, year by year -/
def bst (k : Si58.Nursery) : List (Nat × Nat) → Si58.Now → Option Best
  | [], _ => some ⟨0, 1, []⟩
  | y :: l, s => (List.range (k.beds + 1)).foldl (fun b t => bmerge b (match k.year s y.1 y.2 t (s.besides y.2) with
    | none => none
    | some z => bput t (bst k l z))) none
theorem bst_doing (k : Si58.Nursery) : ∀ (ys : List (Nat × Nat)) (s : Si58.Now), bestOf (doing k ys s) = bst k ys s
  | [], s => rfl
  | y :: l, s => by
    show bestOf ((List.range (k.beds + 1)).flatMap _) = (List.range (k.beds + 1)).foldl _ none
    rw [bestOf_flatMap]
    congr 1
    funext b t
    congr 1
    cases e : k.year s y.1 y.2 t (s.besides y.2) with
    | none => rfl
    | some z =>
      show bestOf ((doing k l z).map fun r => t :: r) = bput t (bst k l z)
      rw [bestOf_map, bst_doing k l z]
theorem best_eq (k : Si58.Nursery) : k.best = bst k k.years k.empty := by
  unfold Si58.Nursery.best
  rw [nursery_rows, bst_doing]
/-! ### what the best is -/
theorem bestOf_none {l : List (List Nat)} : bestOf l = none ↔ l = [] := by
  cases l with
  | nil => simp [bestOf_nil]
  | cons r l =>
    rw [bestOf_cons]
    constructor
    · intro h
      cases e : bestOf l with
      | none => rw [e] at h; cases h
      | some y =>
        rw [e] at h
        unfold bone bmerge at h
        dsimp only at h
        split at h
        · cases h
        · split at h <;> cases h
    · intro h; cases h
theorem bestOf_le : ∀ {l : List (List Nat)} {b : Best}, bestOf l = some b → ∀ r ∈ l, b.bags ≤ r.sum
  | [], b, h => by cases h
  | r0 :: l, b, h => by
    rw [bestOf_cons] at h
    intro r hr
    cases e : bestOf l with
    | none =>
      rw [e] at h
      cases h
      rw [bestOf_none.mp e] at hr
      rw [List.mem_singleton] at hr
      rw [hr]
      exact Nat.le_refl _
    | some y =>
      have ih := bestOf_le e
      rw [e] at h
      have h : (if y.bags < r0.sum then some y else if y.bags = r0.sum then some ⟨r0.sum, 1 + y.many, r0⟩ else some ⟨r0.sum, 1, r0⟩) = some b := h
      rcases List.mem_cons.mp hr with rfl | hr
      · split at h
        · cases h; omega
        · split at h <;> cases h <;> exact Nat.le_refl _
      · have := ih r hr
        split at h
        · cases h; exact this
        · split at h <;> cases h <;> (show r0.sum ≤ r.sum; omega)
theorem bestOf_mem : ∀ {l : List (List Nat)} {b : Best}, bestOf l = some b → b.row ∈ l ∧ b.row.sum = b.bags
  | [], b, h => by cases h
  | r0 :: l, b, h => by
    rw [bestOf_cons] at h
    cases e : bestOf l with
    | none =>
      rw [e] at h
      cases h
      exact ⟨List.mem_cons_self .., rfl⟩
    | some y =>
      have ih := bestOf_mem e
      rw [e] at h
      have h : (if y.bags < r0.sum then some y else if y.bags = r0.sum then some ⟨r0.sum, 1 + y.many, r0⟩ else some ⟨r0.sum, 1, r0⟩) = some b := h
      split at h
      · cases h; exact ⟨List.mem_cons_of_mem _ ih.1, ih.2⟩
      · split at h <;> cases h <;> exact ⟨List.mem_cons_self .., rfl⟩
end Nur

end
section
set_option Elab.async false
set_option linter.all false
set_option maxRecDepth 100000
set_option maxHeartbeats 2000000
namespace Nur
open Si58 (Best bestOf)
/-! ### more wanted: no row does that did not -/
theorem left_mono1 (r n : Nat) (h : r ≤ 100) : Si58.left r n ≤ Si58.left r (n + 1) := by
  unfold Si58.left
  have e : (n + 1) * r = n * r + r := Nat.succ_mul n r
  rw [e]
  have h2 : n * r ≤ n * 100 := Nat.mul_le_mul_left n h
  omega
theorem left_mono {r n m : Nat} (h : r ≤ 100) (hm : n ≤ m) : Si58.left r n ≤ Si58.left r m := by
  induction hm with
  | refl => exact Nat.le_refl _
  | step _ ih => exact Nat.le_trans ih (left_mono1 r _ h)
/-- as many bags, no more plants -/
structure Less (s z : Si58.Now) : Prop where
  store : s.store = z.store
  one : s.one ≤ z.one
  two : s.two ≤ z.two
  three : s.three ≤ z.three
/-- years of which as many are gathered, no fewer wanted -/
inductive Wants : List (Nat × Nat) → List (Nat × Nat) → Prop
  | nil : Wants [] []
  | cons {h v w : Nat} {l m : List (Nat × Nat)} (e : w ≤ v) (r : Wants l m) : Wants ((h, v) :: l) ((h, w) :: m)
theorem Wants.length {l m : List (Nat × Nat)} (h : Wants l m) : l.length = m.length := by
  induction h with
  | nil => rfl
  | cons _ _ ih => rw [List.length_cons, List.length_cons, ih]
theorem year_less {k k' : Si58.Nursery} (f : Fine k) (hb : k'.beds = k.beds) (hg : k'.germ = k.germ) (hl : k'.lost = k.lost) {s z t : Si58.Now} (hs : Less s z) {h v wt x : Nat} (hv : wt ≤ v) (hst : s.store.length = k.germ.length)
    (e : k'.year s h v x (s.besides v) = some t) : ∃ u, k.year z h wt x (z.besides wt) = some u ∧ Less t u ∧ t.store.length = k.germ.length := by
  rw [year_first k' s h v x (by rw [hg]; exact hst)] at e
  rw [year_first k z h wt x (by rw [← hs.store]; exact hst)]
  have h1 := hs.two
  have h2 := hs.three
  have h3 := hs.one
  rw [← hs.store]
  rw [hb, hg, hl] at e
  by_cases c : k.beds < x ∨ (Si58.gathered s.store h).sum < x ∨ s.two < v - s.three
  · rw [if_pos c] at e
    cases e
  · rw [if_neg c] at e
    rw [if_neg (by omega)]
    have e := Option.some.inj e
    refine ⟨_, rfl, ?_, ?_⟩
    · rw [← e]
      exact ⟨rfl, Nat.le_refl _, left_mono f.l2 h3, left_mono f.l3 (by omega)⟩
    · rw [← e]
      show (List.dropLast _).length + 1 = _
      rw [List.length_dropLast, List.length_zipWith, gathered_length, taken_length, gathered_length, hst]
      have := f.ages
      omega
theorem follow_less {k k' : Si58.Nursery} (f : Fine k) (hb : k'.beds = k.beds) (hg : k'.germ = k.germ) (hl : k'.lost = k.lost) {l m : List (Nat × Nat)} (hw : Wants l m) : ∀ {r : List Nat} {s z : Si58.Now}, Less s z → s.store.length = k.germ.length →
    (k'.follow l r s).1 = l.length → (k.follow m r z).1 = m.length := by
  induction hw with
  | nil => intro r s z _ _ _; cases r <;> rfl
  | @cons h v wt l m e hw ih =>
    intro r s z hs hst hf
    cases r with
    | nil => cases hf
    | cons x r =>
      rw [follow_cons] at hf ⊢
      cases e1 : k'.year s h v x (s.besides v) with
      | none =>
        have e1' : k'.year s (h, v).1 (h, v).2 x (s.besides (h, v).2) = none := e1
        rw [e1'] at hf
        cases hf
      | some t =>
        have e1' : k'.year s (h, v).1 (h, v).2 x (s.besides (h, v).2) = some t := e1
        rw [e1'] at hf
        obtain ⟨u, e2, hl2, hst2⟩ := year_less f hb hg hl hs e hst e1
        have e2' : k.year z (h, wt).1 (h, wt).2 x (z.besides (h, wt).2) = some u := e2
        rw [e2']
        have hf : (k'.follow l r t).1 + 1 = l.length + 1 := hf
        show (k.follow m r u).1 + 1 = m.length + 1
        rw [ih hl2 hst2 (by omega)]
theorem wants_more (i n : Nat) : ∀ (l : List (Nat × Nat)) (j : Nat), Wants ((l.zipIdx j).map fun y => if y.2 = i then (y.1.1, y.1.2 + n) else y.1) l
  | [], j => .nil
  | y :: l, j => by
    rw [List.zipIdx_cons, List.map_cons]
    dsimp only
    by_cases h : j = i
    · rw [if_pos h]
      exact .cons (Nat.le_add_right _ _) (wants_more i n l (j + 1))
    · rw [if_neg h]
      exact .cons (Nat.le_refl _) (wants_more i n l (j + 1))
theorem does_more {k : Si58.Nursery} (f : Fine k) {i n : Nat} {r : List Nat} (h : (k.more i n).does r = true) : k.does r = true := by
  have hw : Wants (k.more i n).years k.years := wants_more i n k.years 0
  unfold Si58.Nursery.does at h ⊢
  rw [Bool.and_eq_true] at h ⊢
  have h1 := eq_of_beq h.1
  have h2 := eq_of_beq h.2
  refine ⟨beq_iff_eq.mpr (h1.trans hw.length), beq_iff_eq.mpr ?_⟩
  exact follow_less (k := k) (k' := k.more i n) f rfl rfl rfl hw (s := (k.more i n).empty) (z := k.empty) ⟨rfl, Nat.le_refl _, Nat.le_refl _, Nat.le_refl _⟩ (List.length_replicate ..) h2
theorem more_length (k : Si58.Nursery) (i n : Nat) : (k.more i n).years.length = k.years.length := by
  unfold Si58.Nursery.more
  simp
theorem rows_more {k : Si58.Nursery} (f : Fine k) {i n : Nat} {r : List Nat} (h : r ∈ (k.more i n).rows) : r ∈ k.rows := by
  unfold Si58.Nursery.rows at h ⊢
  rw [List.mem_filter] at h ⊢
  refine ⟨?_, does_more f h.2⟩
  have e := h.1
  rw [more_length] at e
  exact e
/-- the best row has no more bags than the best when more are wanted -/
theorem best_more {k : Si58.Nursery} (f : Fine k) {i n : Nat} {a b : Best} (ha : k.best = some a) (hb : (k.more i n).best = some b) : a.bags ≤ b.bags := by
  obtain ⟨h1, h2⟩ := bestOf_mem hb
  have := bestOf_le ha b.row (rows_more f h1)
  omega
/-- and if no row does now, none would -/
theorem best_more_none {k : Si58.Nursery} (f : Fine k) {i n : Nat} (ha : k.best = none) : (k.more i n).best = none := by
  cases e : (k.more i n).best with
  | none => rfl
  | some b =>
    obtain ⟨h1, _⟩ := bestOf_mem e
    have h2 := rows_more f h1
    rw [bestOf_none.mp (show bestOf k.rows = none from ha)] at h2
    cases h2
end Nur

end
section
set_option Elab.async false
set_option linter.all false
namespace Nur
/-! ### lifted, a turn of it -/
theorem lifted_drop {k : Si58.Nursery} {ys xs : List (Nat × Nat)} {i : Nat} {x y : Nat × Nat} (hy : ys[i]? = some y) (hx : xs[i]? = some x) (s : Si58.Now) :
    k.lifted (ys.drop i) (xs.drop i) s = match k.year s y.1 y.2 x.1 x.2 with
      | some t => k.lifted (ys.drop (i + 1)) (xs.drop (i + 1)) t + 1
      | none => 0 := by
  obtain ⟨h1, e1⟩ := List.getElem?_eq_some_iff.mp hy
  obtain ⟨h2, e2⟩ := List.getElem?_eq_some_iff.mp hx
  rw [List.drop_eq_getElem_cons h1, List.drop_eq_getElem_cons h2, e1, e2]
  rfl
theorem lifted_end {k : Si58.Nursery} {ys xs : List (Nat × Nat)} (s : Si58.Now) {i : Nat} (h : ys.length ≤ i) : k.lifted (ys.drop i) (xs.drop i) s = 0 := by
  rw [List.drop_eq_nil_of_le h]
  cases xs.drop i <;> rfl
end Nur

end
section
set_option Elab.async false
set_option linter.all false
set_option maxRecDepth 100000
set_option maxHeartbeats 2000000
namespace Nur
open Si58 (Best bestOf)
/-! ### rows that sow nothing in the last two years -/
/-- as many as may be of use with so many years behind -/
def most (k : Si58.Nursery) (r : Nat) : Nat := if r < 2 then 0 else k.beds
def useful (k : Si58.Nursery) : List (Nat × Nat) → Si58.Now → List (List Nat)
  | [], _ => [[]]
  | y :: l, s => (List.range (most k l.length + 1)).flatMap fun t => match k.year s y.1 y.2 t (s.besides y.2) with
    | none => []
    | some z => (useful k l z).map fun r => t :: r
theorem year_zero {k : Si58.Nursery} {s t : Si58.Now} {h wt x u : Nat} (e : k.year s h wt x u = some t) : ∃ t0, k.year s h wt 0 u = some t0 ∧ t0.two = t.two ∧ t0.three = t.three := by
  unfold Si58.Nursery.year at e ⊢
  by_cases c : k.beds < x ∨ wt < u ∨ s.two < u ∨ s.three < wt - u
  · rw [if_pos c] at e
    cases e
  · rw [if_neg c, sow_eq] at e
    rw [if_neg (by omega), sow_eq, if_pos (Nat.zero_le _)]
    refine ⟨_, rfl, ?_⟩
    split at e
    · cases e
      exact ⟨rfl, rfl⟩
    · cases e
theorem year_zero_same {k : Si58.Nursery} {s z t : Si58.Now} {h wt : Nat} (h2 : z.two = s.two) (h3 : z.three = s.three) (e : k.year s h wt 0 (s.besides wt) = some t) : ∃ t0, k.year z h wt 0 (z.besides wt) = some t0 := by
  have eb : z.besides wt = s.besides wt := by unfold Si58.Now.besides; rw [h3]
  rw [eb]
  unfold Si58.Nursery.year at e ⊢
  rw [h2, h3]
  by_cases c : k.beds < 0 ∨ wt < s.besides wt ∨ s.two < s.besides wt ∨ s.three < wt - s.besides wt
  · rw [if_pos c] at e
    cases e
  · rw [if_neg c, sow_eq, if_pos (Nat.zero_le _)]
    exact ⟨_, rfl⟩
/-- none is better than the first: the others are none, or have more bags -/
theorem fold_first {f : Nat → Option Best} (h : ∀ t, 0 < t → f t = none ∨ ∃ a b, f 0 = some a ∧ f t = some b ∧ a.bags < b.bags) (n : Nat) : (List.range (n + 1)).foldl (fun b t => bmerge b (f t)) none = f 0 := by
  induction n with
  | zero => rfl
  | succ n ih =>
    rw [List.range_succ, List.foldl_append, ih]
    show bmerge (f 0) (f (n + 1)) = f 0
    rcases h (n + 1) (Nat.succ_pos n) with e | ⟨a, b, e1, e2, hl⟩
    · rw [e, bmerge_none]
    · rw [e1, e2, bm_gt hl]
def bterm (k : Si58.Nursery) (y : Nat × Nat) (l : List (Nat × Nat)) (s : Si58.Now) (t : Nat) : Option Best := match k.year s y.1 y.2 t (s.besides y.2) with
  | none => none
  | some z => bput t (bst k l z)
theorem bst_cons (k : Si58.Nursery) (y : Nat × Nat) (l : List (Nat × Nat)) (s : Si58.Now) : bst k (y :: l) s = (List.range (k.beds + 1)).foldl (fun b t => bmerge b (bterm k y l s t)) none := rfl
theorem bst_last (k : Si58.Nursery) (y : Nat × Nat) (s : Si58.Now) : bst k [y] s = bterm k y [] s 0 := by
  rw [bst_cons]
  refine fold_first (fun t ht => ?_) k.beds
  unfold bterm
  cases e : k.year s y.1 y.2 t (s.besides y.2) with
  | none => exact .inl rfl
  | some z =>
    obtain ⟨z0, e0, _⟩ := year_zero e
    rw [e0]
    refine .inr ⟨_, _, rfl, rfl, ?_⟩
    show 0 + 0 < t + 0
    omega
theorem bst_last_two (k : Si58.Nursery) (y y2 : Nat × Nat) (s : Si58.Now) : bst k [y, y2] s = bterm k y [y2] s 0 := by
  rw [bst_cons]
  refine fold_first (fun t ht => ?_) k.beds
  unfold bterm
  cases e : k.year s y.1 y.2 t (s.besides y.2) with
  | none => exact .inl rfl
  | some z =>
    obtain ⟨z0, e0, h2, h3⟩ := year_zero e
    rw [e0]
    show bput t (bst k [y2] z) = none ∨ ∃ a b, bput 0 (bst k [y2] z0) = some a ∧ bput t (bst k [y2] z) = some b ∧ a.bags < b.bags
    rw [bst_last, bst_last]
    unfold bterm
    cases e1 : k.year z y2.1 y2.2 0 (z.besides y2.2) with
    | none => exact .inl rfl
    | some v =>
      obtain ⟨v0, e2⟩ := year_zero_same (z := z0) h2 h3 e1
      rw [e2]
      refine .inr ⟨_, _, rfl, rfl, ?_⟩
      show 0 + (0 + 0) < t + (0 + 0)
      omega
theorem bst_short (k : Si58.Nursery) (y : Nat × Nat) (l : List (Nat × Nat)) (s : Si58.Now) (h : l.length < 2) : bst k (y :: l) s = bterm k y l s 0 := by
  match l, h with
  | [], _ => exact bst_last k y s
  | [y2], _ => exact bst_last_two k y y2 s
theorem useful_best (k : Si58.Nursery) : ∀ (ys : List (Nat × Nat)) (s : Si58.Now), bestOf (useful k ys s) = bst k ys s
  | [], s => rfl
  | y :: l, s => by
    have ht : ∀ t, bestOf (match k.year s y.1 y.2 t (s.besides y.2) with
      | none => []
      | some z => (useful k l z).map fun r => t :: r) = bterm k y l s t := fun t => by
      unfold bterm
      cases e : k.year s y.1 y.2 t (s.besides y.2) with
      | none => rfl
      | some z =>
        show bestOf ((useful k l z).map fun r => t :: r) = bput t (bst k l z)
        rw [bestOf_map, useful_best k l z]
    show bestOf ((List.range (most k l.length + 1)).flatMap _) = _
    rw [bestOf_flatMap]
    unfold most
    by_cases h : l.length < 2
    · rw [if_pos h, bst_short k y l s h]
      show bmerge none _ = _
      exact ht 0
    · rw [if_neg h, bst_cons]
      congr 1
      funext b t
      rw [ht t]
theorem best_useful (k : Si58.Nursery) : k.best = bestOf (useful k k.years k.empty) := by
  rw [useful_best, best_eq]
/-! ### the same rows, a year longer at a time -/
def turns (k : Si58.Nursery) (y : Nat × Nat) (p : List Nat × Si58.Now) (x : Nat) : Option (List Nat × Si58.Now) := (k.year p.2 y.1 y.2 x (p.2.besides y.2)).map fun z => (p.1 ++ [x], z)
def longer (k : Si58.Nursery) (m : Nat) (y : Nat × Nat) (l : List (List Nat × Si58.Now)) : List (List Nat × Si58.Now) := l.flatMap fun p => (List.range (m + 1)).filterMap (turns k y p)
def behind (k : Si58.Nursery) (ys : List (Nat × Nat)) (l : List (List Nat × Si58.Now)) : List (List Nat) := l.flatMap fun p => (useful k ys p.2).map fun r => p.1 ++ r
theorem behind_longer (k : Si58.Nursery) (y : Nat × Nat) (ys : List (Nat × Nat)) (l : List (List Nat × Si58.Now)) : behind k ys (longer k (most k ys.length) y l) = behind k (y :: ys) l := by
  unfold behind longer
  rw [List.flatMap_assoc]
  congr 1
  funext p
  show _ = List.map (fun r => p.1 ++ r) ((List.range (most k ys.length + 1)).flatMap _)
  generalize List.range (most k ys.length + 1) = R
  induction R with
  | nil => rfl
  | cons x R ih =>
    rw [List.flatMap_cons, List.map_append, ← ih, List.filterMap_cons]
    unfold turns
    cases e : k.year p.2 y.1 y.2 x (p.2.besides y.2) with
    | none => rfl
    | some z =>
      show List.flatMap _ ((p.1 ++ [x], z) :: _) = List.map (fun r => p.1 ++ r) ((useful k ys z).map fun r => x :: r) ++ _
      rw [List.flatMap_cons, List.map_map]
      congr 1
      refine List.map_congr_left fun r _ => ?_
      show (p.1 ++ [x]) ++ r = p.1 ++ (x :: r)
      rw [List.append_assoc]
      rfl
theorem behind_nil (k : Si58.Nursery) (l : List (List Nat × Si58.Now)) : behind k [] l = l.map (·.1) := by
  unfold behind
  induction l with
  | nil => rfl
  | cons p l ih =>
    rw [List.flatMap_cons, ih]
    show [p.1 ++ []] ++ _ = _
    rw [List.append_nil]
    rfl
theorem longer_length (k : Si58.Nursery) (m : Nat) (y : Nat × Nat) (l : List (List Nat × Si58.Now)) : (longer k m y l).length ≤ (m + 1) * l.length := by
  unfold longer
  induction l with
  | nil => exact Nat.zero_le _
  | cons p l ih =>
    rw [List.flatMap_cons, List.length_append, List.length_cons, Nat.mul_succ]
    have := List.length_filterMap_le (turns k y p) (List.range (m + 1))
    rw [List.length_range] at this
    omega
/-! ### the rows with the fewest bags -/
theorem bestOf_few (m : Nat) : ∀ (R : List (List Nat)), (∀ r ∈ R, m ≤ r.sum) → match R.filter (fun r => decide (r.sum = m)) with
    | [] => bestOf R = none ∨ ∃ b, bestOf R = some b ∧ m < b.bags
    | r0 :: rest => bestOf R = some ⟨m, rest.length + 1, r0⟩
  | [], _ => .inl rfl
  | r :: R, h => by
    have ih := bestOf_few m R fun r hr => h r (List.mem_cons_of_mem _ hr)
    have hr := h r (List.mem_cons_self ..)
    rw [bestOf_cons]
    by_cases e : r.sum = m
    · rw [List.filter_cons_of_pos (by simpa using e)]
      cases ef : R.filter (fun r => decide (r.sum = m)) with
      | nil =>
        rw [ef] at ih
        rcases ih with ih | ⟨b, ih, hl⟩
        · rw [ih]
          show bmerge (bone r) none = _
          rw [bmerge_none]
          unfold bone
          rw [e]
          rfl
        · rw [ih]
          unfold bone
          rw [bm_gt (by show r.sum < b.bags; omega), e]
          rfl
      | cons r1 rest =>
        rw [ef] at ih
        rw [ih]
        unfold bone
        rw [bm_eq (by show m = r.sum; omega)]
        show some (⟨r.sum, 1 + (rest.length + 1), r⟩ : Best) = some ⟨m, (r1 :: rest).length + 1, r⟩
        rw [e, List.length_cons, Nat.add_comm 1]
    · rw [List.filter_cons_of_neg (by simpa using e)]
      cases ef : R.filter (fun r => decide (r.sum = m)) with
      | nil =>
        rw [ef] at ih
        rcases ih with ih | ⟨b, ih, hl⟩
        · rw [ih]
          exact .inr ⟨_, rfl, by show m < r.sum; omega⟩
        · rw [ih]
          unfold bone
          rcases Nat.lt_trichotomy b.bags r.sum with g | g | g
          · rw [bm_lt (by exact g)]
            exact .inr ⟨_, rfl, hl⟩
          · rw [bm_eq (by exact g)]
            exact .inr ⟨_, rfl, by show m < r.sum; omega⟩
          · rw [bm_gt (by exact g)]
            exact .inr ⟨_, rfl, by show m < r.sum; omega⟩
      | cons r1 rest =>
        rw [ef] at ih
        rw [ih]
        unfold bone
        rw [bm_lt (by show m < r.sum; omega)]
end Nur

end
section
set_option Elab.async false
set_option linter.all false
set_option maxRecDepth 100000
set_option maxHeartbeats 2000000
namespace Nur
open PySem PySem.Spec PyProof.Rows L2
open PySem.W (Codec)
section
variable {P : Program} {w : World} {K : PySem.W.Frag} {mg : Str → Option Value} {base : Heap} {t : Adr}
/-! ### most_of_use -/
def spMou (C : Addr) : Sp := fun vs H Q _ => ∃ (p : Addr) (k : Si58.Nursery) (i : Nat), vs = [.ref p, .int i] ∧ NurAt C H p k ∧ i < k.years.length ∧ Q (.int (most k (k.years.length - (i + 1)) : Nat)) H
theorem scMou : FnScope ["nursery", "year"] ["nursery", "year"] (defScope sMou) := ⟨rfl, rfl, rfl, by decide +kernel, rfl, by decide +kernel, by decide +kernel⟩
theorem ok_mou (T : Txt K mg t) : FnOk P w K mg base CX0 1 t.fMou t.dMou ["nursery", "year"] (spMou t.cN) := by
  obtain ⟨tk1, m1⟩ := T.mTill
  refine T.mou.fn.ok scMou (fun vs H Q E h => ?_) (fun cdv A outer s H vs Q E hr h => ?_)
  · obtain ⟨p, k, i, rfl, _⟩ := h
    rfl
  · obtain ⟨p, k, i, rfl, ⟨dx, a1, b1, c1, d1, hp, hA, hB, hC, hD⟩, hi, kk⟩ := h
    refine ⟨_, pss_cons (ps_if (pt_cmpR op_ge (pe_op op_add (pv 1) (pe_glob (v := .int 2) rfl m1 ⟨tk1, rfl⟩)) (pe_callB call_len_seq (by rfl) T.len PySem.boot_len (pa_cons (pe_fld (pv 0) rfl) pa_nil)) (nomark _)) (pss_one (ps_ret pe_int)) pss_nil)
      (pss_one (ps_ret (pe_fld (pv 0) rfl))), ?_⟩
    refine ⟨_, rfl, _, _, rfl, rfl, _, rfl, p, t.cN, dx, _, _, rfl, hp, T.nCls, T.nGath, nf_gathered .., c1, _, rfl, .inl (SqL.of hC), _, _, rfl, rfl, _, rfl, ?_⟩
    rw [nats_length, List.length_map]
    refine ite2 (fun hc => ?_) (fun hc => ?_)
    · have hc : (k.years.length : Int) ≤ (i : Int) + 2 := of_decide_eq_true hc
      have e : most k (k.years.length - (i + 1)) = 0 := if_pos (by omega)
      rw [e] at kk
      exact kk
    · have hc : ¬ (k.years.length : Int) ≤ (i : Int) + 2 := fun z => hc (decide_eq_true z)
      have e : most k (k.years.length - (i + 1)) = k.beds := if_neg (by omega)
      rw [e] at kk
      exact ⟨_, rfl, p, t.cN, dx, _, _, rfl, hp, T.nCls, T.nBeds, nf_beds .., kk⟩

/-! ### sowings_a_year_longer -/
theorem hide_step {H H' : Hp} (L : Addr) (S : Same H H') : Same (hide L H) (hide L H') := fun b o e => hide_get (hide_ne e) (S _ _ (hide_same L H _ _ e))
theorem hide_but {H H' : Hp} {L : Addr} (S : But L H H') : Same (hide L H) (hide L H') := fun b o e => hide_get (hide_ne e) (S _ _ (hide_same L H _ _ e) (hide_ne e))
/-- a Sowings of the row r and the state s stands at p -/
def SowAt (CW CS : Addr) (H : Hp) (p : Addr) (r : List Nat) (s : Si58.Now) : Prop := ∃ dx a b, H p = some (.ins CW dx (wf a b)) ∧ H a = some (.lst (nats r)) ∧ StockAt CS H b s
theorem SowAt.mono {CW CS : Addr} {H H' : Hp} {p : Addr} {r : List Nat} {s : Si58.Now} (h : SowAt CW CS H p r s) (e : Same H H') : SowAt CW CS H' p r s := by
  obtain ⟨dx, a, b, h1, h2, h3⟩ := h
  exact ⟨dx, a, b, e _ _ h1, e _ _ h2, h3.mono e⟩
abbrev Sow := Addr × (List Nat × Si58.Now)
def refs {β : Type} (l : List (Addr × β)) : List V := l.map fun p => V.ref p.1
def Begun (CW CS : Addr) (H : Hp) (l : List Sow) : Prop := ∀ p ∈ l, SowAt CW CS H p.1 p.2.1 p.2.2
theorem Begun.mono {CW CS : Addr} {H H' : Hp} {l : List Sow} (h : Begun CW CS H l) (e : Same H H') : Begun CW CS H' l := fun p hp => (h p hp).mono e
theorem longer_take {k : Si58.Nursery} {m : Nat} {y : Nat × Nat} {l : List (List Nat × Si58.Now)} {i : Nat} {p : List Nat × Si58.Now} (h : l[i]? = some p) : longer k m y (l.take (i + 1)) = longer k m y (l.take i) ++ (List.range (m + 1)).filterMap (turns k y p) := by
  rw [take_succ_of h]
  unfold longer
  rw [List.flatMap_append, List.flatMap_cons, List.flatMap_nil, List.append_nil]
theorem turns_some {k : Si58.Nursery} {y : Nat × Nat} {p : List Nat × Si58.Now} {j : Nat} {z : Si58.Now} (h : k.year p.2 y.1 y.2 j (p.2.besides y.2) = some z) : (List.range (j + 1)).filterMap (turns k y p) = (List.range j).filterMap (turns k y p) ++ [(p.1 ++ [j], z)] := by
  rw [List.range_succ, List.filterMap_append]
  congr 1
  rw [List.filterMap_cons]
  unfold turns
  rw [h]
  rfl
theorem turns_none {k : Si58.Nursery} {y : Nat × Nat} {p : List Nat × Si58.Now} {j : Nat} (h : k.year p.2 y.1 y.2 j (p.2.besides y.2) = none) : (List.range (j + 1)).filterMap (turns k y p) = (List.range j).filterMap (turns k y p) := by
  rw [List.range_succ, List.filterMap_append]
  have e : List.filterMap (turns k y p) [j] = [] := by
    rw [List.filterMap_cons]
    unfold turns
    rw [h]
    rfl
  rw [e, List.append_nil]
def spLon (C CS CW : Addr) : Sp := fun vs H Q _ => ∃ (p a : Addr) (k : Si58.Nursery) (i : Nat) (y : Nat × Nat) (l : List Sow), vs = [.ref p, .ref a, .int i] ∧ NurAt C H p k ∧ Fine k ∧ k.years[i]? = some y ∧ H a = some (.lst (refs l)) ∧ Begun CW CS H l ∧
  (∀ x ∈ l, x.2.2.store.length = k.germ.length) ∧ (∀ x ∈ l, x.2.1.length ≤ 100) ∧ l.length ≤ 100000 ∧
  ∀ H' q l', Same H H' → H' q = some (.lst (refs l')) → Begun CW CS H' l' → l'.map (·.2) = longer k (most k (k.years.length - (i + 1))) y (l.map (·.2)) → Q (.ref q) H'
abbrev nLon : List Str := ["nursery", "begun", "year", "most", "longer", "sowings", "sown", "stock"]
theorem scLon : FnScope nLon ["nursery", "begun", "year"] (defScope sLon) := ⟨rfl, rfl, rfl, by decide +kernel, rfl, by decide +kernel, by decide +kernel⟩
theorem ok_lon (T : Txt K mg t) : FnOk P w K mg base CX0 6 t.fLon t.dLon ["nursery", "begun", "year"] (spLon t.cN t.cS t.cW) := by
  have GM : FnOk P w K mg base CX0 1 t.fMou t.dMou ["nursery", "year"] (spMou t.cN) := ok_mou T
  have GT : FnOk P w K mg base CX0 5 t.fThr t.dThr ["nursery", "stock", "year", "sown"] (spThr t.cN t.cS) := ok_thr T
  have GI : FnOk P w K mg base CX0 1 t.fWI t.dWI ["self", "row", "stock"] (spWI t.cW) := ok_wi T
  refine T.lon.fn.ok scLon (fun vs H Q E h => ?_) (fun cdv A outer s H vs Q E hr h => ?_)
  · obtain ⟨p, a, k, i, y, l, rfl, _⟩ := h
    rfl
  · obtain ⟨p, a, k, yi, y, l, rfl, hN, fine, hyr, ha, hB, hst, hrl, hll, kk⟩ := h
    have hr1 : Room 1 _ := hr.mono (by decide)
    have hr2 : Room 2 _ := hr.mono (by decide)
    refine ⟨_, pss_cons (ps_set (i := 3) scLon.nd rfl (Or.inl rfl) (pe_call GM hr1 rfl T.mou.gl T.mou.fn.kp T.mou.bn .nil pass0 (pa_cons (pv 0) (pa_cons (pv 2) pa_nil))))
      (pss_cons (ps_set (i := 4) scLon.nd rfl (Or.inl rfl) (pe_lst pa_nil))
      (pss_cons (ps_for PassesOwn.never rfl (pi_list (pv 1)) (pg_name (i := 5) scLon.nd rfl (Or.inl rfl))
        (pss_one (ps_for PassesOwn.never rfl (pi_range1 rfl T.range (pa_cons (pe_op op_add (pv 3) pe_int) pa_nil)) (pg_name (i := 6) scLon.nd rfl (Or.inl rfl))
          (pss_cons (ps_set (i := 7) scLon.nd rfl (Or.inl rfl) (pe_call GT hr rfl T.thr.gl T.thr.fn.kp T.thr.bn .nil pass0 (pa_cons (pv 0) (pa_cons (pe_fld (pv 5) rfl) (pa_cons (pv 2) (pa_cons (pv 6) pa_nil))))))
          (pss_one (ps_if (pt_cmpR op_notN (pv 7) pe_non (nomark _))
            (pss_one (ps_expr (pe_bm PySem.F.plainAttrs_list PySem.F.slot_list_append PySem.F.type_list_append mt_append (pv 4) (pa_cons (pe_make T.wMk GI hr2 rfl T.wGl T.wBn .nil pass0 (pa_cons (pe_op op_cat (pe_fld (pv 5) rfl) (pe_lst (pa_cons (pv 6) pa_nil))) (pa_cons (pv 7) pa_nil))) pa_nil)))) pss_nil))))))
      (pss_one (ps_ret (pv 4))))), ?_⟩
    have hbig : 2000010 ≤ sizeLine := by decide
    have hyl : yi < k.years.length := (List.getElem?_eq_some_iff.mp hyr).1
    -- most = most_of_use(..); longer = []
    refine ⟨_, rfl, _, rfl, p, k, yi, rfl, hN, hyl, ?_⟩
    generalize hm : most k (k.years.length - (yi + 1)) = m at kk ⊢
    have hm4 : m ≤ 4 := by
      have := fine.beds
      rw [← hm]
      unfold most
      split <;> omega
    refine ⟨Nat.zero_le _, fun L hL => ?_⟩
    have S1 : Same H (upd H L (.lst [])) := Same.new hL
    have L1 : upd H L (.lst []) L = some (.lst (refs ([] : List Sow))) := upd_same
    generalize upd H L (.lst []) = H1 at S1 L1 ⊢
    -- the loop over begun
    refine ⟨_, rfl, a, rfl, ⟨_, SqL.of (S1 _ _ ha)⟩, ?_⟩
    refine for_list (K := K) (a := a) (xs := refs l) (fun i σ H' => ∃ (v5 v6 v7 : Option V) (l' : List Sow), σ = [some (.ref p), some (.ref a), some (.int (yi : Int)), some (.int (m : Int)), some (.ref L), v5, v6, v7] ∧ Same H H' ∧ H' L = some (.lst (refs l')) ∧ Begun t.cW t.cS (hide L H') l' ∧
        l'.map (·.2) = longer k m y ((l.map (·.2)).take i)) ⟨none, none, none, [], rfl, S1, L1, fun x hx => (by cases hx), rfl⟩ (fun i σ H' _ ⟨_, _, _, _, _, S, _⟩ => SqL.of (S _ _ ha)) ?turn ?last
    case last =>
      rintro σ H' ⟨v5, v6, v7, l', rfl, S, hL', hB', hl'⟩
      refine ⟨_, rfl, ?_⟩
      refine kk H' L l' S hL' (hB'.mono (hide_same L H')) ?_
      rw [hl', List.take_of_length_le (by unfold refs; rw [List.length_map, List.length_map]; exact Nat.le_refl _)]
    case turn =>
      rintro i v σ H' hi ⟨v5, v6, v7, l', rfl, S, hL', hB', hl'⟩
      obtain ⟨x, hx, rfl⟩ : ∃ x : Sow, l[i]? = some x ∧ v = V.ref x.1 := by
        unfold refs at hi
        rw [List.getElem?_map] at hi
        cases e : l[i]? with
        | none => rw [e] at hi; cases hi
        | some z => rw [e] at hi; exact ⟨z, rfl, (Option.some.inj hi).symm⟩
      have hxm : x ∈ l := List.mem_of_getElem? hx
      have hil : i < l.length := (List.getElem?_eq_some_iff.mp hx).1
      obtain ⟨dw, ra, sa, hw0, hra0, hsa0⟩ := hB x hxm
      have hx2 : (l.map (·.2))[i]? = some x.2 := by rw [List.getElem?_map, hx]; rfl
      -- the loop over range(most + 1)
      refine ⟨_, rfl, _, _, rfl, rfl, _, rfl, by omega, by omega, ?_⟩
      rw [show ((m : Int) + 1).toNat = m + 1 by omega]
      refine for_range (fun j σ H' => ∃ (v6 v7 : Option V) (l' : List Sow), σ = [some (.ref p), some (.ref a), some (.int (yi : Int)), some (.int (m : Int)), some (.ref L), some (.ref x.1), v6, v7] ∧ Same H H' ∧ H' L = some (.lst (refs l')) ∧ Begun t.cW t.cS (hide L H') l' ∧
        l'.map (·.2) = longer k m y ((l.map (·.2)).take i) ++ (List.range j).filterMap (turns k y x.2)) ⟨v6, v7, l', rfl, S, hL', hB', by rw [hl']; exact (List.append_nil _).symm⟩ ?turn2 ?last2
      case last2 =>
        rintro σ H' ⟨v6, v7, l', rfl, S, hL', hB', hl'⟩
        refine ⟨_, _, _, l', rfl, S, hL', hB', ?_⟩
        rw [hl', longer_take hx2]
      case turn2 =>
        rintro j σ H' hj ⟨v6, v7, l', rfl, S, hL', hB', hl'⟩
        rw [Int.zero_add]
        refine ⟨_, rfl, _, rfl, x.1, t.cW, dw, _, _, rfl, S _ _ hw0, T.wCls, T.wStk, wf_stock .., _, rfl, _, rfl, p, sa, k, x.2.2, yi, j, y, rfl, hN.mono S, fine, hsa0.mono S, hst x hxm, hyr, ?_⟩
        cases hye : k.year x.2.2 y.1 y.2 j (x.2.2.besides y.2) with
        | none =>
          intro H2 S2
          refine ⟨_, rfl, rfl, _, rfl, ?_⟩
          refine iteF ?_
          refine ⟨_, _, l', rfl, S.trans S2, S2 _ _ hL', hB'.mono (hide_step L S2), ?_⟩
          rw [hl', turns_none hye]
        | some z =>
          intro H2 q S2 hq2
          refine ⟨_, rfl, rfl, _, rfl, ?_⟩
          refine iteT ?_
          have L2' := S2 _ _ hL'
          have S02 := S.trans S2
          refine ⟨_, rfl, .inl ⟨rfl, _, SqL.of L2'⟩, _, rfl, x.1, t.cW, dw, _, _, rfl, S02 _ _ hw0, T.wCls, T.wRow, wf_row .., _, rfl, (by show 1 ≤ sizeLine; decide), fun z1 hz1 => ?_⟩
          have S3 : Same H2 (upd H2 z1 (.lst [.int (j : Int)])) := Same.new hz1
          have z3 : upd H2 z1 (.lst [.int (j : Int)]) z1 = some (.lst [.int (j : Int)]) := upd_same
          generalize upd H2 z1 (.lst [.int (j : Int)]) = H3 at S3 z3 ⊢
          have hlen : (nats x.2.1).length + ([V.int (j : Int)] : List V).length ≤ sizeLine := by
            have := hrl x hxm
            rw [nats_length]
            show _ + 1 ≤ _
            omega
          refine ⟨ra, z1, _, _, rfl, rfl, S3 _ _ (S02 _ _ hra0), z3, hlen, fun rr hrr => ?_⟩
          have er : nats x.2.1 ++ [V.int (j : Int)] = nats (x.2.1 ++ [j]) := by unfold nats; rw [List.map_append]; rfl
          rw [er]
          have S4 : Same H3 (upd H3 rr (.lst (nats (x.2.1 ++ [j])))) := Same.new hrr
          have r4 : upd H3 rr (.lst (nats (x.2.1 ++ [j]))) rr = some (.lst (nats (x.2.1 ++ [j]))) := upd_same
          generalize upd H3 rr (.lst (nats (x.2.1 ++ [j]))) = H4 at S4 r4 ⊢
          refine ⟨_, rfl, ?_⟩
          intro o od no nod neo
          refine ⟨o, od, rr, q, rfl, upd_same, fun H5 h5 k5 => ⟨rfl, ?_⟩⟩
          have S5 : Same H4 H5 := Same.made no nod k5
          have S25 := (S3.trans S4).trans S5
          have L3 := S3 _ _ L2'
          have L4 := S4 _ _ L3
          have L5 := S5 _ _ L4
          have hlt : (refs l').length < sizeLine := by
            have e : (refs l').length = (l'.map (·.2)).length := by unfold refs; rw [List.length_map, List.length_map]
            rw [e, hl', List.length_append]
            have h1 := longer_length k m y ((l.map (·.2)).take i)
            have h2 := List.length_filterMap_le (turns k y x.2) (List.range j)
            rw [List.length_range] at h2
            have h3 : ((l.map (·.2)).take i).length ≤ 100000 := by rw [List.length_take, List.length_map]; omega
            have h4 : (m + 1) * ((l.map (·.2)).take i).length ≤ 5 * 100000 := Nat.mul_le_mul (by omega) h3
            omega
          refine ⟨L, _, _, rfl, rfl, L5, hlt, ?_⟩
          have B6 : But L H5 (upd H5 L (.lst (refs l' ++ [V.ref o]))) := But.put
          have L6 : upd H5 L (.lst (refs l' ++ [V.ref o])) L = some (.lst (refs (l' ++ [(o, (x.2.1 ++ [j], z))]))) := by
            refine Eq.trans upd_same ?_
            unfold refs
            rw [List.map_append]
            rfl
          have S06 : Same H (upd H5 L (.lst (refs l' ++ [V.ref o]))) := fun b u e => by rw [upd_ne (ne_of_none e hL)]; exact S25 _ _ (S02 _ _ e)
          show ∃ (v6 v7 : Option V) (l' : List Sow), _ ∧ Same H (upd H5 L (.lst (refs _ ++ [V.ref o]))) ∧ _
          generalize upd H5 L (.lst (refs l' ++ [V.ref o])) = H6 at B6 L6 S06 ⊢
          refine ⟨_, _, l' ++ [(o, (x.2.1 ++ [j], z))], rfl, S06, L6, ?_, ?_⟩
          · intro u hu
            have S26 : Same (hide L H2) (hide L H6) := (hide_step L S25).trans (hide_but B6)
            rcases List.mem_append.mp hu with hu | hu
            · exact (hB' u hu).mono ((hide_step L S2).trans S26)
            · rw [List.mem_singleton] at hu
              subst hu
              have no5 : o ≠ L := (ne_of_none L4 no).symm
              have nr5 : rr ≠ L := (ne_of_none L3 hrr).symm
              refine ⟨od, rr, q, hide_get no5 (B6 _ _ h5 no5), hide_get nr5 (B6 _ _ (S5 _ _ r4) nr5), ?_⟩
              exact (hq2.mono (newer_hide hL')).mono S26
          · rw [List.map_append, hl', turns_some hye, List.append_assoc]
            rfl
end
end Nur

end
section
set_option Elab.async false
set_option linter.all false
set_option maxRecDepth 100000
set_option maxHeartbeats 2000000
namespace Nur
open PySem PySem.Spec PyProof.Rows L2
open PySem.W (Codec)
open Si58 (Best bestOf)
section
variable {P : Program} {w : World} {K : PySem.W.Frag} {mg : Str → Option Value} {base : Heap} {t : Adr}
/-! ### rows_that_do -/
abbrev RowP := Addr × List Nat
/-- rows, each at its place -/
def RowsIn (H : Hp) (l : List RowP) : Prop := ∀ p ∈ l, H p.1 = some (.lst (nats p.2))
theorem RowsIn.mono {H H' : Hp} {l : List RowP} (h : RowsIn H l) (e : Same H H') : RowsIn H' l := fun p hp => e _ _ (h p hp)
/-- the row of each of the sowings, at its place -/
theorem rows_of {CW CS : Addr} {H : Hp} : ∀ {l : List Sow}, Begun CW CS H l → ∃ m : List RowP, m.length = l.length ∧ m.map (·.2) = l.map (fun x => x.2.1) ∧ RowsIn H m ∧
    ∀ (i : Nat) (x : Sow) (r : RowP), l[i]? = some x → m[i]? = some r → ∃ dx b, H x.1 = some (.ins CW dx (wf r.1 b))
  | [], _ => ⟨[], rfl, rfl, fun p hp => (by cases hp), fun i x r h _ => by simp at h⟩
  | x :: l, h => by
    obtain ⟨m, h1, h2, h3, h4⟩ := rows_of (l := l) fun p hp => h p (List.mem_cons_of_mem _ hp)
    obtain ⟨dx, a, b, e1, e2, _⟩ := h x (List.mem_cons_self ..)
    refine ⟨(a, x.2.1) :: m, by rw [List.length_cons, List.length_cons, h1], by rw [List.map_cons, List.map_cons, h2], fun p hp => ?_, fun i u r hu hr => ?_⟩
    · rcases List.mem_cons.mp hp with rfl | hp
      · exact e2
      · exact h3 p hp
    · cases i with
      | zero =>
        cases Option.some.inj hu
        cases Option.some.inj hr
        exact ⟨dx, b, e1⟩
      | succ i => exact h4 i u r hu hr
theorem longer_mem {k : Si58.Nursery} {m : Nat} {y : Nat × Nat} {l : List (List Nat × Si58.Now)} {q : List Nat × Si58.Now} (h : q ∈ longer k m y l) : ∃ p ∈ l, ∃ x z, k.year p.2 y.1 y.2 x (p.2.besides y.2) = some z ∧ q = (p.1 ++ [x], z) := by
  unfold longer at h
  rw [List.mem_flatMap] at h
  obtain ⟨p, hp, h⟩ := h
  rw [List.mem_filterMap] at h
  obtain ⟨x, _, h⟩ := h
  unfold turns at h
  cases e : k.year p.2 y.1 y.2 x (p.2.besides y.2) with
  | none => rw [e] at h; cases h
  | some z =>
    rw [e] at h
    exact ⟨p, hp, x, z, e, (Option.some.inj h).symm⟩
def spRtd (C : Addr) : Sp := fun vs H Q _ => ∃ (p : Addr) (k : Si58.Nursery), vs = [.ref p] ∧ NurAt C H p k ∧ Fine k ∧
  ∀ H' q l, Same H H' → H' q = some (.lst (refs l)) → RowsIn H' l → l.map (·.2) = useful k k.years k.empty → l.length ≤ 100000 → Q (.ref q) H'
abbrev nRtd : List Str := ["nursery", "begun", "year", "sowings"]
theorem scRtd : FnScope nRtd ["nursery"] (defScope sRtd) := ⟨rfl, rfl, rfl, by decide +kernel, rfl, by decide +kernel, by decide +kernel⟩
/-- what stands between two years -/
structure Half (k : Si58.Nursery) (i : Nat) (l : List Sow) : Prop where
  store : ∀ x ∈ l, x.2.2.store.length = k.germ.length
  row : ∀ x ∈ l, x.2.1.length ≤ i
  size : l.length ≤ 5 ^ i
  all : behind k (k.years.drop i) (l.map (·.2)) = useful k k.years k.empty
theorem Half.step {k : Si58.Nursery} (fine : Fine k) {i : Nat} {l l' : List Sow} {y : Nat × Nat} (h : Half k i l) (hy : k.years[i]? = some y) (e : l'.map (·.2) = longer k (most k (k.years.length - (i + 1))) y (l.map (·.2))) : Half k (i + 1) l' := by
  have hi : i < k.years.length := (List.getElem?_eq_some_iff.mp hy).1
  have hmem : ∀ x ∈ l', ∃ p ∈ l, ∃ u z, k.year p.2.2 y.1 y.2 u (p.2.2.besides y.2) = some z ∧ x.2 = (p.2.1 ++ [u], z) := fun x hx => by
    have h1 : x.2 ∈ l'.map (·.2) := List.mem_map_of_mem hx
    rw [e] at h1
    obtain ⟨p, hp, u, z, h2, h3⟩ := longer_mem h1
    rw [List.mem_map] at hp
    obtain ⟨p', hp', rfl⟩ := hp
    exact ⟨p', hp', u, z, h2, h3⟩
  refine ⟨fun x hx => ?_, fun x hx => ?_, ?_, ?_⟩
  · obtain ⟨p, hp, u, z, h2, h3⟩ := hmem x hx
    rw [h3]
    exact year_store (h.store p hp) fine.ages.1 h2
  · obtain ⟨p, hp, u, z, h2, h3⟩ := hmem x hx
    rw [h3]
    show (p.2.1 ++ [u]).length ≤ i + 1
    rw [List.length_append]
    exact Nat.succ_le_succ (h.row p hp)
  · have h1 := longer_length k (most k (k.years.length - (i + 1))) y (l.map (·.2))
    rw [← e, List.length_map, List.length_map] at h1
    have h2 : most k (k.years.length - (i + 1)) + 1 ≤ 5 := by
      have := fine.beds
      unfold most
      split <;> omega
    have h3 := Nat.mul_le_mul h2 h.size
    rw [Nat.pow_succ, Nat.mul_comm]
    exact Nat.le_trans h1 h3
  · have e1 : k.years.drop i = y :: k.years.drop (i + 1) := by
      obtain ⟨h1, e1⟩ := List.getElem?_eq_some_iff.mp hy
      rw [List.drop_eq_getElem_cons h1, e1]
    have e2 : k.years.length - (i + 1) = (k.years.drop (i + 1)).length := by rw [List.length_drop]
    rw [e, e2, behind_longer, ← e1]
    exact h.all
theorem pow_small {i : Nat} (h : i ≤ 6) : 5 ^ i ≤ 15625 := Nat.pow_le_pow_right (by decide) h
theorem ok_rtd (T : Txt K mg t) : FnOk P w K mg base CX0 7 t.fRtd t.dRtd ["nursery"] (spRtd t.cN) := by
  have GL : FnOk P w K mg base CX0 6 t.fLon t.dLon ["nursery", "begun", "year"] (spLon t.cN t.cS t.cW) := ok_lon T
  have GS : FnOk P w K mg base CX0 3 t.fSt0 t.dSt0 ["nursery"] (spSt0 t.cN t.cS) := ok_st0 T
  have GI : FnOk P w K mg base CX0 1 t.fWI t.dWI ["self", "row", "stock"] (spWI t.cW) := ok_wi T
  refine T.rtd.fn.ok scRtd (fun vs H Q E h => ?_) (fun cdv A outer s H vs Q E hr h => ?_)
  · obtain ⟨p, k, rfl, _⟩ := h
    rfl
  · obtain ⟨p, k, rfl, hN, fine, kk⟩ := h
    have hr2 : Room 2 _ := hr.mono (by decide)
    have hr3 : Room 3 _ := hr.mono (by decide)
    refine ⟨_, pss_cons (ps_set (i := 1) scRtd.nd rfl (Or.inl rfl) (pe_lst (pa_cons (pe_make T.wMk GI hr2 rfl T.wGl T.wBn .nil pass0 (pa_cons (pe_lst pa_nil) (pa_cons (pe_call GS hr3 rfl T.st0.gl T.st0.fn.kp T.st0.bn .nil pass0 (pa_cons (pv 0) pa_nil)) pa_nil))) pa_nil)))
      (pss_cons (ps_for PassesOwn.never rfl (pi_range1 rfl T.range (pa_cons (pe_callB call_len_seq (by rfl) T.len PySem.boot_len (pa_cons (pe_fld (pv 0) rfl) pa_nil)) pa_nil)) (pg_name (i := 2) scRtd.nd rfl (Or.inl rfl))
        (pss_one (ps_set (i := 1) scRtd.nd rfl (Or.inl rfl) (pe_call GL hr rfl T.lon.gl T.lon.fn.kp T.lon.bn .nil pass0 (pa_cons (pv 0) (pa_cons (pv 1) (pa_cons (pv 2) pa_nil)))))))
      (pss_one (ps_ret (pe_lc (own := [("sowings", 3)]) rfl scRtd.nd (pi_list (pv 1)) (show BlkOk nRtd (defScope sRtd) _ [("sowings", 3)] from ⟨rfl, by decide +kernel, by decide +kernel, by decide +kernel, by decide +kernel⟩)
        (fun _ _ _ _ _ => pg_name (i := 3) scRtd.nd rfl (Or.inl rfl)) (fun _ _ _ _ _ => pts_nil) (fun _ _ _ _ _ => fldK (K := K) rfl (pv 3) rfl))))), ?_⟩
    have hbig : 2000010 ≤ sizeLine := by decide
    have hyl := fine.years
    -- begun = [Sowings([], stock_at_beginning(nursery))]
    refine ⟨Nat.zero_le _, fun e he => ?_⟩
    have S1 : Same H (upd H e (.lst [])) := Same.new he
    have e1 : upd H e (.lst []) e = some (.lst (nats [])) := upd_same
    generalize upd H e (.lst []) = H1 at S1 e1 ⊢
    refine ⟨_, rfl, p, k, rfl, hN.mono S1, fine, fun H2 st S2 hst => ?_⟩
    intro o od no nod neo
    refine ⟨o, od, e, st, rfl, upd_same, fun H3 h3 k3 => ⟨rfl, ?_⟩⟩
    have S3 : Same H2 H3 := Same.made no nod k3
    refine ⟨(by show 1 ≤ sizeLine; decide), fun q hq => ?_⟩
    have S4 : Same H3 (upd H3 q (.lst [.ref o])) := Same.new hq
    have q4 : upd H3 q (.lst [.ref o]) q = some (.lst (refs [((o, (([] : List Nat), k.empty)) : Sow)])) := upd_same
    have S04 := ((S1.trans S2).trans S3).trans S4
    have hB4 : Begun t.cW t.cS (upd H3 q (.lst [.ref o])) [((o, (([] : List Nat), k.empty)) : Sow)] := fun u hu => by
      rw [List.mem_singleton] at hu
      subst hu
      exact ⟨od, e, st, S4 _ _ h3, S4 _ _ (S3 _ _ (S2 _ _ e1)), hst.mono (S3.trans S4)⟩
    generalize upd H3 q (.lst [.ref o]) = H4 at S4 q4 S04 hB4 ⊢
    have hH0 : Half k 0 [((o, (([] : List Nat), k.empty)) : Sow)] := ⟨fun u hu => by rw [List.mem_singleton] at hu; subst hu; exact List.length_replicate .., fun u hu => by rw [List.mem_singleton] at hu; subst hu; exact Nat.le_refl _, Nat.le_refl _, by
      unfold behind
      show (useful k k.years k.empty).map (fun r => [] ++ r) ++ [] = useful k k.years k.empty
      rw [List.append_nil]
      exact List.map_id _⟩
    -- the loop
    obtain ⟨dx, a1, b1, c1, d1, hp, hA, hB, hC, hD⟩ := id hN
    refine ⟨_, rfl, p, t.cN, dx, _, _, rfl, S04 _ _ hp, T.nCls, T.nGath, nf_gathered .., c1, _, rfl, .inl (SqL.of (S04 _ _ hC)), _, rfl, by omega, (by rw [nats_length, List.length_map]; omega), ?_⟩
    rw [nats_length, List.length_map, Int.toNat_natCast]
    refine for_range (fun i σ H' => ∃ (a : Addr) (v2 : Option V) (l : List Sow), σ = [some (.ref p), some (.ref a), v2, none] ∧ Same H H' ∧ H' a = some (.lst (refs l)) ∧ Begun t.cW t.cS H' l ∧ Half k i l) ⟨q, none, _, rfl, S04, q4, hB4, hH0⟩ ?turn ?last
    case turn =>
      rintro i σ H' hi ⟨a, v2, l, rfl, S, ha, hB', hH⟩
      rw [Int.zero_add]
      obtain ⟨y, hy⟩ : ∃ y, k.years[i]? = some y := ⟨_, List.getElem?_eq_getElem hi⟩
      have h5 := pow_small (show i ≤ 6 by omega)
      have hsz := hH.size
      refine ⟨_, rfl, _, rfl, _, rfl, p, a, k, i, y, l, rfl, hN.mono S, fine, hy, ha, hB', hH.store, fun x hx => (by have := hH.row x hx; omega), by omega, fun H2 q2 l2 S2 hq2 hB2 hl2 => ?_⟩
      exact ⟨q2, _, l2, rfl, S.trans S2, hq2, hB2, hH.step fine hy hl2⟩
    case last =>
      rintro σ H' ⟨a, v2, l, rfl, S, ha, hB', hH⟩
      obtain ⟨m, hm1, hm2, hm3, hm4⟩ := rows_of hB'
      have h5 := pow_small (show k.years.length ≤ 6 by omega)
      have hsz := hH.size
      refine ⟨_, rfl, a, rfl, ⟨_, SqL.of ha⟩, fun D hD' => lcp_list (ys := refs m) hD' (SqL.of ha) (by unfold refs; rw [List.length_map, List.length_map, hm1]) (by unfold refs; rw [List.length_map]; omega) ?_ ?_ ?_⟩
      · exact fun x => rfl
      · intro i x v H2 Q' hx hv hS qq
        unfold refs at hx hv
        rw [List.getElem?_map] at hx hv
        cases ex : l[i]? with
        | none => rw [ex] at hx; cases hx
        | some xx =>
          cases em : m[i]? with
          | none => rw [em] at hv; cases hv
          | some rr =>
            rw [ex] at hx
            rw [em] at hv
            cases hx
            cases hv
            obtain ⟨dw, b, hw⟩ := hm4 i xx rr ex em
            exact ⟨_, rfl, xx.1, t.cW, dw, _, _, rfl, hS _ _ hw, T.wCls, T.wRow, wf_row .., qq⟩
      · have S5 : Same H' (upd H' D (.lst (refs m))) := Same.new hD'
        refine kk _ D m (S.trans S5) upd_same (hm3.mono S5) ?_ (by omega)
        have e1 := hH.all
        rw [List.drop_of_length_le (Nat.le_refl _), behind_nil, List.map_map] at e1
        rw [hm2]
        exact e1
/-! ### best_rows -/
/-- the best rows stand as a list at q: the first of them, how many -/
def BestAt (H : Hp) (q : Addr) : Option Best → Prop
  | none => H q = some (.lst [])
  | some b => ∃ a rest, H q = some (.lst (V.ref a :: rest)) ∧ rest.length + 1 = b.many ∧ H a = some (.lst (nats b.row)) ∧ b.row.sum = b.bags ∧ b.row.length ≤ 6
theorem BestAt.mono {H H' : Hp} {q : Addr} {b : Option Best} (h : BestAt H q b) (e : Same H H') : BestAt H' q b := by
  cases b with
  | none => exact e _ _ h
  | some b =>
    obtain ⟨a, rest, h1, h2, h3, h4⟩ := h
    exact ⟨a, rest, e _ _ h1, h2, e _ _ h3, h4⟩
theorem best_row_length {k : Si58.Nursery} (f : Fine k) {b : Best} (h : k.best = some b) : b.row.length ≤ 6 := by
  obtain ⟨h1, _⟩ := bestOf_mem h
  unfold Si58.Nursery.rows at h1
  rw [List.mem_filter] at h1
  rw [rows_length _ _ _ h1.1]
  exact f.years
theorem filter_map_snd (l : List RowP) (m : Nat) : (l.map (·.2)).filter (fun r => decide (r.sum = m)) = (l.filter fun x => decide (x.2.sum = m)).map (·.2) := by
  rw [List.filter_map]
  rfl
theorem best_at {k : Si58.Nursery} (fine : Fine k) {H : Hp} {q : Addr} {l : List RowP} {m : Nat} (hl : l.map (·.2) = useful k k.years k.empty) (hm : l = [] ∨ ((∃ x ∈ l, x.2.sum = m) ∧ ∀ x ∈ l, m ≤ x.2.sum)) (hR : RowsIn H l)
    (hq : H q = some (.lst (refs (l.filter fun x => decide (x.2.sum = m))))) : BestAt H q k.best := by
  rcases hm with rfl | ⟨⟨x, hx, hxm⟩, hle⟩
  · have e : k.best = none := by
      rw [best_useful, ← hl]
      rfl
    rw [e]
    exact hq
  · have h1 := bestOf_few m (l.map (·.2)) (fun r hr => by
      rw [List.mem_map] at hr
      obtain ⟨u, hu, rfl⟩ := hr
      exact hle u hu)
    rw [filter_map_snd] at h1
    have hxf : x ∈ l.filter fun x => decide (x.2.sum = m) := List.mem_filter.mpr ⟨hx, decide_eq_true hxm⟩
    cases ef : l.filter fun x => decide (x.2.sum = m) with
    | nil => rw [ef] at hxf; cases hxf
    | cons r0 rest =>
      rw [ef] at h1 hq
      have h1 : bestOf (l.map (·.2)) = some ⟨m, (rest.map (·.2)).length + 1, r0.2⟩ := h1
      rw [hl, ← best_useful] at h1
      have hlen := best_row_length fine h1
      have hr0 : r0 ∈ l.filter fun x => decide (x.2.sum = m) := by rw [ef]; exact List.mem_cons_self ..
      rw [List.mem_filter] at hr0
      rw [h1]
      exact ⟨r0.1, refs rest, hq, by unfold refs; rw [List.length_map, List.length_map], hR r0 hr0.1, of_decide_eq_true hr0.2, hlen⟩
def spBrs (C : Addr) : Sp := fun vs H Q _ => ∃ (p : Addr) (k : Si58.Nursery), vs = [.ref p] ∧ NurAt C H p k ∧ Fine k ∧ ∀ H' q, Same H H' → BestAt H' q k.best → Q (.ref q) H'
abbrev nBrs : List Str := ["nursery", "rows", "fewest", "row"]
theorem scBrs : FnScope nBrs ["nursery"] (defScope sBrs) := ⟨rfl, rfl, rfl, by decide +kernel, rfl, by decide +kernel, by decide +kernel⟩
theorem ok_brs (T : Txt K mg t) : FnOk P w K mg base CX0 8 t.fBrs t.dBrs ["nursery"] (spBrs t.cN) := by
  have GR : FnOk P w K mg base CX0 7 t.fRtd t.dRtd ["nursery"] (spRtd t.cN) := ok_rtd T
  refine T.brs.fn.ok scBrs (fun vs H Q E h => ?_) (fun cdv A outer s H vs Q E hr h => ?_)
  · obtain ⟨p, k, rfl, _⟩ := h
    rfl
  · obtain ⟨p, k, rfl, hN, fine, kk⟩ := h
    refine ⟨_, pss_cons (ps_set (i := 1) scBrs.nd rfl (Or.inl rfl) (pe_call GR hr rfl T.rtd.gl T.rtd.fn.kp T.rtd.bn .nil pass0 (pa_cons (pv 0) pa_nil)))
      (pss_cons (ps_set (i := 2) scBrs.nd rfl (Or.inr rfl) (pe_callBK (cr_minD rfl) rfl T.min (by rfl) (pa_cons (pe_lc (own := [("row", 3)]) rfl scBrs.nd (pi_list (pv 1)) (show BlkOk nBrs (defScope sBrs) _ [("row", 3)] from ⟨rfl, by decide +kernel, by decide +kernel, by decide +kernel, by decide +kernel⟩)
          (fun _ _ _ _ _ => pg_name (i := 3) scBrs.nd rfl (Or.inl rfl)) (fun _ _ _ _ _ => pts_nil) (fun _ _ _ _ _ => pe_callB (sumK (K := K) rfl rfl) rfl T.sum (by rfl) (pa_cons (pv 3) pa_nil))) pa_nil) (pk_cons pe_int pk_nil)))
      (pss_one (ps_ret (pe_lc (own := [("row", 3)]) rfl scBrs.nd (pi_list (pv 1)) (show BlkOk nBrs (defScope sBrs) _ [("row", 3)] from ⟨rfl, by decide +kernel, by decide +kernel, by decide +kernel, by decide +kernel⟩)
          (fun _ _ _ _ _ => pg_name (i := 3) scBrs.nd rfl (Or.inl rfl)) (fun _ _ _ _ _ => pts_one (pt_cmpR op_eq (pe_callB (sumK (K := K) rfl rfl) rfl T.sum (by rfl) (pa_cons (pv 3) pa_nil)) (pv 2) (nomark _))) (fun _ _ _ _ _ => pv 3))))), ?_⟩
    have hbig : 2000010 ≤ sizeLine := by decide
    refine ⟨_, rfl, p, k, rfl, hN, fine, fun H1 rs l S1 hrs hR hl hll => ?_⟩
    have hrl : (refs l).length = l.length := by unfold refs; rw [List.length_map]
    have hsum : ∀ x ∈ l, ∀ H', Same H1 H' → SqL K H' x.1 ((x.2.map fun (n : Nat) => (n : Int)).map V.int) := fun x hx H' S => SqL.of (by rw [← nats_ints]; exact S _ _ (hR x hx))
    -- fewest = min([..], default=0)
    refine ⟨_, rfl, rs, rfl, ⟨_, SqL.of hrs⟩, fun D hD => lcp_list (ys := (l.map fun x => (x.2.sum : Int)).map V.int) hD (SqL.of hrs) (by rw [List.length_map, List.length_map, hrl]) (by rw [List.length_map, List.length_map]; omega) ?_ ?_ ?_⟩
    · exact fun x => rfl
    · intro i x v H' Q' hx hv hS qq
      unfold refs at hx
      rw [List.getElem?_map] at hx
      rw [List.getElem?_map, List.getElem?_map] at hv
      cases ex : l[i]? with
      | none => rw [ex] at hx; cases hx
      | some xx =>
        rw [ex] at hx hv
        cases hx
        cases hv
        refine ⟨_, rfl, xx.1, _, rfl, hsum xx (List.mem_of_getElem? ex) H' hS, ?_⟩
        rw [sum_cast]
        exact qq
    have S2 : Same H1 (upd H1 D (.lst ((l.map fun x => (x.2.sum : Int)).map V.int))) := Same.new hD
    have D2 : upd H1 D (.lst ((l.map fun x => (x.2.sum : Int)).map V.int)) D = some (.lst ((l.map fun x => (x.2.sum : Int)).map V.int)) := upd_same
    generalize upd H1 D (.lst ((l.map fun x => (x.2.sum : Int)).map V.int)) = H2 at S2 D2 ⊢
    refine ⟨D, 0, _, rfl, rfl, SqL.of D2, fun m hm => ?_⟩
    obtain ⟨mm, rfl, hmm⟩ : ∃ mm : Nat, m = (mm : Int) ∧ (l = [] ∨ ((∃ x ∈ l, x.2.sum = mm) ∧ ∀ x ∈ l, mm ≤ x.2.sum)) := by
      rcases hm with ⟨e, rfl⟩ | ⟨h1, h2⟩
      · exact ⟨0, rfl, .inl (List.map_eq_nil_iff.mp e)⟩
      · rw [List.mem_map] at h1
        obtain ⟨x, hx, rfl⟩ := h1
        refine ⟨x.2.sum, rfl, .inr ⟨⟨x, hx, rfl⟩, fun u hu => ?_⟩⟩
        have := h2 _ (List.mem_map_of_mem (f := fun x : RowP => (x.2.sum : Int)) hu)
        omega
    -- return [..]
    refine ⟨_, rfl, rs, rfl, ⟨_, SqL.of (S2 _ _ hrs)⟩, fun D3 hD3 => lcp_filter (xs := l) (u := fun x => V.ref x.1) (f := fun x => decide (x.2.sum = mm)) hD3 (SqL.of (S2 _ _ hrs)) (by omega) ?_ ?_ ?_ ?_⟩
    · exact fun x => rfl
    · intro i x H' Q' hx hS qq
      refine ⟨_, rfl, x.1, _, rfl, hsum x (List.mem_of_getElem? hx) H' (S2.trans hS), _, rfl, rfl, _, rfl, ?_⟩
      rw [sum_cast]
      have e : decide (V.int (x.2.sum : Int) = V.int (mm : Int)) = decide (x.2.sum = mm) := by
        by_cases z : x.2.sum = mm
        · rw [z, decide_eq_true rfl, decide_eq_true rfl]
        · rw [decide_eq_false z, decide_eq_false]
          intro q
          injection q with q
          omega
      rw [e]
      exact qq
    · intro x H' Q' qq
      exact ⟨_, rfl, qq⟩
    · have S3 : Same H2 (upd H2 D3 (.lst ((l.filter fun x => decide (x.2.sum = mm)).map fun x => V.ref x.1))) := Same.new hD3
      exact kk _ D3 ((S1.trans S2).trans S3) (best_at fine hl hmm (hR.mono (S2.trans S3)) upd_same)
end
end Nur

end
section
set_option Elab.async false
set_option linter.all false
set_option maxRecDepth 100000
set_option maxHeartbeats 2000000
namespace Nur
open PySem PySem.Spec PyProof.Rows L2
open PySem.W (Codec)
open Si58 (Best bestOf)
section
variable {P : Program} {w : World} {K : PySem.W.Frag} {mg : Str → Option Value} {base : Heap} {t : Adr}
/-! ### answer_lift -/
def spLft (C : Addr) : Sp := fun vs H Q _ => ∃ (p a : Addr) (k : Si58.Nursery) (l : List (Nat × Nat)), vs = [.ref p, .ref a] ∧ NurAt C H p k ∧ Fine k ∧ H a = some (.lst (nats (flat l))) ∧ l.length ≤ 8 ∧
  ∀ H' q, H q = none → Same H H' → AnsAt H' q (Si58.step k (.lift l)).2 → Q (.ref q) H'
abbrev nLft : List Str := ["nursery", "numbers", "row", "lifted_of_two", "stock", "year"]
theorem scLft : FnScope nLft ["nursery", "numbers"] (defScope sLft) := ⟨rfl, rfl, rfl, by decide +kernel, rfl, by decide +kernel, by decide +kernel⟩
theorem ok_lft (T : Txt K mg t) : FnOk P w K mg base CX0 5 t.fLft t.dLft ["nursery", "numbers"] (spLft t.cN) := by
  have GB : FnOk P w K mg base CX0 4 t.fBeh t.dBeh ["nursery", "stock", "year", "sown", "lifted_of_two"] (spBeh t.cN t.cS) := ok_beh T
  have GS : FnOk P w K mg base CX0 3 t.fSt0 t.dSt0 ["nursery"] (spSt0 t.cN t.cS) := ok_st0 T
  obtain ⟨tk5, m5⟩ := T.kNot
  refine T.lft.fn.ok scLft (fun vs H Q E h => ?_) (fun cdv A outer s H vs Q E hr h => ?_)
  · obtain ⟨p, a, k, l, rfl, _⟩ := h
    rfl
  · obtain ⟨p, a, k, l, rfl, hN, fine, ha, hl8, kk⟩ := h
    have hr3 : Room 3 _ := hr.mono (by decide)
    refine ⟨_, pss_cons (ps_set (i := 2) scLft.nd rfl (Or.inl rfl) (pe_step (pv 1) (po_some pe_int) po_none (po_some pe_int)))
      (pss_cons (ps_set (i := 3) scLft.nd rfl (Or.inl rfl) (pe_step (pv 1) (po_some pe_int) po_none (po_some pe_int)))
      (pss_cons (ps_if (pt_cmpR op_ne (pe_callB call_len_seq (by rfl) T.len PySem.boot_len (pa_cons (pv 2) pa_nil)) (pe_callB call_len_seq (by rfl) T.len PySem.boot_len (pa_cons (pe_fld (pv 0) rfl) pa_nil)) (nomark _)) (pss_one (ps_ret (pe_lst (pa_cons (pe_glob (v := .int (-1)) rfl m5 ⟨tk5, rfl⟩) pa_nil)))) pss_nil)
      (pss_cons (ps_set (i := 4) scLft.nd rfl (Or.inl rfl) (pe_call GS hr3 rfl T.st0.gl T.st0.fn.kp T.st0.bn .nil pass0 (pa_cons (pv 0) pa_nil)))
      (pss_cons (ps_for PassesOwn.never rfl (pi_range1 rfl T.range (pa_cons (pe_callB call_len_seq (by rfl) T.len PySem.boot_len (pa_cons (pv 2) pa_nil)) pa_nil)) (pg_name (i := 5) scLft.nd rfl (Or.inl rfl))
        (pss_cons (ps_set (i := 4) scLft.nd rfl (Or.inl rfl) (pe_call GB hr rfl T.beh.gl T.beh.fn.kp T.beh.bn .nil pass0 (pa_cons (pv 0) (pa_cons (pv 4) (pa_cons (pv 5) (pa_cons (pe_ix ix_list (pv 2) (pv 5) (fun _ _ => rfl)) (pa_cons (pe_ix ix_list (pv 3) (pv 5) (fun _ _ => rfl)) pa_nil)))))))
        (pss_one (ps_if (pt_cmpR op_isN (pv 4) pe_non (nomark _)) (pss_one (ps_ret (pe_lst (pa_cons (pv 5) pa_nil)))) pss_nil))))
      (pss_one (ps_ret (pe_lst (pa_cons (pe_callB call_len_seq (by rfl) T.len PySem.boot_len (pa_cons (pv 2) pa_nil)) pa_nil)))))))), ?_⟩
    have h100 : 100 ≤ sizeLine := by decide
    refine ⟨_, rfl, _, rfl, _, rfl, a, _, rfl, SqL.of ha, by decide, fun g hg => ?_⟩
    rw [step_flat0]
    have S1 : Same H (upd H g (.lst (nats (l.map (·.1))))) := Same.new hg
    have g1 : upd H g (.lst (nats (l.map (·.1)))) g = some (.lst (nats (l.map (·.1)))) := upd_same
    generalize upd H g (.lst (nats (l.map (·.1)))) = H1 at S1 g1 ⊢
    refine ⟨_, rfl, _, rfl, _, rfl, a, _, rfl, SqL.of (S1 _ _ ha), by decide, fun d hd => ?_⟩
    rw [step_flat1]
    have S2 : Same H1 (upd H1 d (.lst (nats (l.map (·.2))))) := Same.new hd
    have d2 : upd H1 d (.lst (nats (l.map (·.2)))) d = some (.lst (nats (l.map (·.2)))) := upd_same
    generalize upd H1 d (.lst (nats (l.map (·.2)))) = H2 at S2 d2 ⊢
    have S02 := S1.trans S2
    have g2 := S2 _ _ g1
    obtain ⟨dx, a1, b1, c1, d1, hp, hA, hB, hC, hD⟩ := id hN
    refine ⟨_, rfl, g, _, rfl, .inl (SqL.of g2), _, rfl, p, t.cN, dx, _, _, rfl, S02 _ _ hp, T.nCls, T.nGath, nf_gathered .., c1, _, rfl, .inl (SqL.of (S02 _ _ hC)), rfl, _, rfl, ?_⟩
    rw [nats_length, nats_length, List.length_map, List.length_map]
    refine ite2 (fun hc => ?_) (fun hc => ?_)
    · have hc : ¬ l.length = k.years.length := by
        intro z
        rw [z] at hc
        simp at hc
      have e : Si58.step k (.lift l) = (k, Si58.ok (-1)) := if_pos hc
      refine ⟨(by show 1 ≤ sizeLine; decide), fun q hq => ?_⟩
      refine kk _ q (S02.free hq) (S02.trans (Same.new hq)) ?_
      rw [e]
      exact upd_same
    have hlen : l.length = k.years.length := by
      by_cases z : l.length = k.years.length
      · exact z
      · exact absurd (show (!decide (V.int (l.length : Int) = V.int (k.years.length : Int))) = true by simp; omega) hc
    have e : Si58.step k (.lift l) = (k, Si58.ok (k.lifted k.years l k.empty)) := if_neg (by rw [hlen]; simp)
    rw [e] at kk
    clear e
    have hyl := fine.years
    have hag := fine.ages
    -- stock = stock_at_beginning(nursery)
    refine ⟨_, rfl, p, k, rfl, hN.mono S02, fine, fun H3 st S3 hst => ?_⟩
    have S03 := S02.trans S3
    have g3 := S3 _ _ g2
    have d3 := S3 _ _ d2
    -- the loop
    refine ⟨_, rfl, g, _, rfl, .inl (SqL.of g3), _, rfl, (by rw [nats_length]; omega), (by rw [nats_length, List.length_map]; omega), ?_⟩
    rw [nats_length, List.length_map, Int.toNat_natCast]
    refine for_range (fun i σ H' => ∃ (st : Addr) (sn : Si58.Now) (v5 : Option V), σ = [some (.ref p), some (.ref a), some (.ref g), some (.ref d), some (.ref st), v5] ∧ Same H3 H' ∧ StockAt t.cS H' st sn ∧ sn.store.length = k.germ.length ∧
        k.lifted k.years l k.empty = i + k.lifted (k.years.drop i) (l.drop i) sn) ⟨st, k.empty, none, rfl, Same.refl _, hst, List.length_replicate .., by rw [List.drop_zero, List.drop_zero, Nat.zero_add]⟩ ?turn ?last
    case turn =>
      rintro i σ H' hi ⟨st, sn, v5, rfl, S, hst, hsl, hli⟩
      rw [Int.zero_add]
      obtain ⟨x, hx⟩ : ∃ x, l[i]? = some x := ⟨_, List.getElem?_eq_getElem hi⟩
      obtain ⟨yy, hyy⟩ : ∃ yy, k.years[i]? = some yy := ⟨_, List.getElem?_eq_getElem (by omega)⟩
      have hx1 : (l.map (·.1))[i]? = some x.1 := by rw [List.getElem?_map, hx]; rfl
      have hx2 : (l.map (·.2))[i]? = some x.2 := by rw [List.getElem?_map, hx]; rfl
      rw [lifted_drop hyy hx] at hli
      refine ⟨_, rfl, _, rfl, _, rfl, _, rfl, _, rfl, g, _, _, _, rfl, rfl, SqL.of (S _ _ g3), at_of (j := i) rfl (nats_get hx1), _, rfl, _, rfl, d, _, _, _, rfl, rfl, SqL.of (S _ _ d3), at_of (j := i) rfl (nats_get hx2), p, st, k, sn, i, x.1, x.2, yy, rfl, hN.mono (S03.trans S), fine, hst, hsl, hyy, ?_⟩
      cases hye : k.year sn yy.1 yy.2 x.1 x.2 with
      | none =>
        rw [hye] at hli
        intro H4 S4
        refine ⟨_, rfl, rfl, _, rfl, ?_⟩
        refine iteT ?_
        refine ⟨_, rfl, (by show 1 ≤ sizeLine; decide), fun q hq => ?_⟩
        have S5 := (S03.trans S).trans S4
        refine kk _ q (S5.free hq) (S5.trans (Same.new hq)) ?_
        refine Eq.trans upd_same ?_
        rw [hli]
        rfl
      | some tn =>
        rw [hye] at hli
        intro H4 q S4 hq4
        refine ⟨_, rfl, rfl, _, rfl, ?_⟩
        refine iteF ?_
        refine ⟨q, tn, _, rfl, S.trans S4, hq4.mono (newer_same _ _), year_store hsl hag.1 hye, ?_⟩
        rw [hli]
        show i + (k.lifted (k.years.drop (i + 1)) (l.drop (i + 1)) tn + 1) = _
        omega
    case last =>
      rintro σ H' ⟨st, sn, v5, rfl, S, hst, hsl, hli⟩
      rw [lifted_end sn (by omega)] at hli
      refine ⟨_, rfl, g, _, rfl, .inl (SqL.of (S _ _ g3)), (by show 1 ≤ sizeLine; decide), fun q hq => ?_⟩
      have S5 := S03.trans S
      refine kk _ q (S5.free hq) (S5.trans (Same.new hq)) ?_
      refine Eq.trans upd_same ?_
      rw [hli, nats_length, List.length_map]
      rfl

/-! ### answer_best -/
def spBst (C : Addr) : Sp := fun vs H Q _ => ∃ (p : Addr) (k : Si58.Nursery), vs = [.ref p] ∧ NurAt C H p k ∧ Fine k ∧ ∀ H' q, H q = none → Same H H' → AnsAt H' q (Si58.step k .best).2 → Q (.ref q) H'
theorem scBst : FnScope ["nursery", "rows"] ["nursery"] (defScope sBst) := ⟨rfl, rfl, rfl, by decide +kernel, rfl, by decide +kernel, by decide +kernel⟩
theorem ok_bst (T : Txt K mg t) : FnOk P w K mg base CX0 9 t.fBst t.dBst ["nursery"] (spBst t.cN) := by
  have GR : FnOk P w K mg base CX0 8 t.fBrs t.dBrs ["nursery"] (spBrs t.cN) := ok_brs T
  obtain ⟨tk5, m5⟩ := T.kNod
  refine T.bst.fn.ok scBst (fun vs H Q E h => ?_) (fun cdv A outer s H vs Q E hr h => ?_)
  · obtain ⟨p, k, rfl, _⟩ := h
    rfl
  · obtain ⟨p, k, rfl, hN, fine, kk⟩ := h
    refine ⟨_, pss_cons (ps_set (i := 1) scBst.nd rfl (Or.inl rfl) (pe_call GR hr rfl T.brs.gl T.brs.fn.kp T.brs.bn .nil pass0 (pa_cons (pv 0) pa_nil)))
      (pss_cons (ps_if (pt_cmpR op_eq (pe_callB call_len_seq (by rfl) T.len PySem.boot_len (pa_cons (pv 1) pa_nil)) pe_int (nomark _)) (pss_one (ps_ret (pe_lst (pa_cons (pe_glob (v := .int (-6)) rfl m5 ⟨tk5, rfl⟩) pa_nil)))) pss_nil)
      (pss_one (ps_ret (pe_op op_cat (pe_lst (pa_cons (pe_callB (cr_sum rfl) rfl T.sum (by rfl) (pa_cons (pe_ix ix_list (pv 1) pe_int (fun _ _ => rfl)) pa_nil)) (pa_cons (pe_callB call_len_seq (by rfl) T.len PySem.boot_len (pa_cons (pv 1) pa_nil)) pa_nil))) (pe_ix ix_list (pv 1) pe_int (fun _ _ => rfl)))))), ?_⟩
    have h100 : 100 ≤ sizeLine := by decide
    refine ⟨_, rfl, p, k, rfl, hN, fine, fun H1 rs S1 hrs => ?_⟩
    cases hb : k.best with
    | none =>
      rw [hb] at hrs
      have hrs : H1 rs = some (.lst []) := hrs
      refine ⟨_, rfl, rs, _, rfl, .inl (SqL.of hrs), rfl, _, rfl, ?_⟩
      refine iteT ?_
      refine ⟨(by show 1 ≤ sizeLine; decide), fun q hq => ?_⟩
      refine kk _ q (S1.free hq) (S1.trans (Same.new hq)) ?_
      refine Eq.trans upd_same ?_
      have e : (Si58.step k .best).2 = Si58.ok (-6) := by
        show (match k.best with | none => Si58.ok (-6) | some b => _) = _
        rw [hb]
      rw [e]
      rfl
    | some b =>
      rw [hb] at hrs
      obtain ⟨ra, rest, h1, h2, h3, h4, h5⟩ := hrs
      refine ⟨_, rfl, rs, _, rfl, .inl (SqL.of h1), rfl, _, rfl, ?_⟩
      refine ite2 (fun hc => ?_) (fun _ => ?_)
      · exact absurd hc (by rw [List.length_cons]; simp; omega)
      have hsum : SqL K H1 ra ((b.row.map fun (n : Nat) => (n : Int)).map V.int) := SqL.of (by rw [← nats_ints]; exact h3)
      refine ⟨_, rfl, rs, _, 0, _, rfl, rfl, SqL.of h1, at_of (j := 0) rfl rfl, ra, _, rfl, hsum, _, rfl, rs, _, rfl, .inl (SqL.of h1), (by show 2 ≤ sizeLine; decide), fun z hz => ?_⟩
      rw [sum_cast, h4, List.length_cons, h2]
      have S2 : Same H1 (upd H1 z (.lst [.int (b.bags : Int), .int (b.many : Int)])) := Same.new hz
      have z2 : upd H1 z (.lst [.int (b.bags : Int), .int (b.many : Int)]) z = some (.lst [.int (b.bags : Int), .int (b.many : Int)]) := upd_same
      generalize upd H1 z (.lst [.int (b.bags : Int), .int (b.many : Int)]) = H2 at S2 z2 ⊢
      have hz1 : ([V.int (b.bags : Int), V.int (b.many : Int)] : List V).length + (nats b.row).length ≤ sizeLine := by
        rw [nats_length]
        show 2 + _ ≤ _
        omega
      refine ⟨_, rfl, rs, _, 0, _, rfl, rfl, SqL.of (S2 _ _ h1), at_of (j := 0) rfl rfl, z, ra, _, _, rfl, rfl, z2, S2 _ _ h3, hz1, fun q hq => ?_⟩
      refine kk _ q ((S1.trans S2).free hq) ((S1.trans S2).trans (Same.new hq)) ?_
      refine Eq.trans upd_same ?_
      have e : (Si58.step k .best).2 = ⟨(b.bags : Nat), (b.many : Int) :: Si58.ints b.row⟩ := by
        show (match k.best with | none => Si58.ok (-6) | some b => _) = _
        rw [hb]
      rw [e]
      show some (HO.lst (V.int (b.bags : Int) :: V.int (b.many : Int) :: nats b.row)) = some (HO.lst (V.int (b.bags : Int) :: V.int (b.many : Int) :: (Si58.ints b.row).map V.int))
      rw [ints_nats]
end
end Nur

end
section
set_option Elab.async false
set_option linter.all false
set_option maxRecDepth 100000
set_option maxHeartbeats 2000000
namespace Nur
open PySem PySem.Spec PyProof.Rows L2
open PySem.W (Codec)
open Si58 (Best bestOf)
section
variable {P : Program} {w : World} {K : PySem.W.Frag} {mg : Str → Option Value} {base : Heap} {t : Adr}
/-! ### nursery_with_more_wanted -/
theorem more_fst (k : Si58.Nursery) (i n : Nat) : (k.more i n).years.map (·.1) = k.years.map (·.1) := by
  unfold Si58.Nursery.more
  apply List.ext_getElem?
  intro j
  simp only [List.getElem?_map, List.getElem?_zipIdx]
  cases e : k.years[j]? with
  | none => rfl
  | some y =>
    show some _ = some _
    congr 1
    dsimp only
    split <;> rfl
theorem more_snd {k : Si58.Nursery} {i : Nat} {y : Nat × Nat} (h : k.years[i]? = some y) (n : Nat) : (k.more i n).years.map (·.2) = (k.years.map (·.2)).set i (y.2 + n) := by
  have hi : i < k.years.length := (List.getElem?_eq_some_iff.mp h).1
  unfold Si58.Nursery.more
  apply List.ext_getElem?
  intro j
  rw [List.getElem?_set]
  simp only [List.getElem?_map, List.getElem?_zipIdx]
  by_cases z : i = j
  · subst z
    rw [h, if_pos rfl, if_pos (by rw [List.length_map]; exact hi)]
    show some _ = some _
    simp
  · rw [if_neg z]
    cases e : k.years[j]? with
    | none => rfl
    | some u =>
      show some _ = some _
      congr 1
      dsimp only
      rw [if_neg (by omega)]
theorem fine_more {k : Si58.Nursery} (f : Fine k) (i n : Nat) : Fine (k.more i n) := ⟨f.beds, f.l1, f.l2, f.l3, f.ages, f.germ, by rw [more_length]; exact f.years⟩
def spNmw (C : Addr) : Sp := fun vs H Q _ => ∃ (p : Addr) (k : Si58.Nursery) (i n : Nat) (y : Nat × Nat), vs = [.ref p, .int i, .int n] ∧ NurAt C H p k ∧ k.years[i]? = some y ∧ ∀ H' q, Same H H' → NurAt C H' q (k.more i n) → Q (.ref q) H'
theorem scNmw : FnScope ["nursery", "year", "more", "other"] ["nursery", "year", "more"] (defScope sNmw) := ⟨rfl, rfl, rfl, by decide +kernel, rfl, by decide +kernel, by decide +kernel⟩
theorem ok_nmw (T : Txt K mg t) : FnOk P w K mg base CX0 3 t.fNmw t.dNmw ["nursery", "year", "more"] (spNmw t.cN) := by
  have GN : FnOk P w K mg base CX0 1 t.fNI t.dNI ["self"] (spNI t.cN) := ok_ni T
  refine T.nmw.fn.ok scNmw (fun vs H Q E h => ?_) (fun cdv A outer s H vs Q E hr h => ?_)
  · obtain ⟨p, k, i, n, y, rfl, _⟩ := h
    rfl
  · obtain ⟨p, k, i, n, y, rfl, ⟨dx, a1, b1, c1, d1, hp, hA, hB, hC, hD⟩, hyr, kk⟩ := h
    refine ⟨_, pss_cons (ps_set (i := 3) scNmw.nd rfl (Or.inl rfl) (pe_make0 T.nMk GN hr rfl T.nGl T.nBn .nil pass0))
      (pss_cons (ps_fld (pv 3) (pe_fld (pv 0) rfl) rfl)
      (pss_cons (ps_fld (pv 3) (pe_fld (pv 0) rfl) rfl)
      (pss_cons (ps_fld (pv 3) (pe_fld (pv 0) rfl) rfl)
      (pss_cons (ps_fld (pv 3) (pe_fld (pv 0) rfl) rfl)
      (pss_cons (ps_fld (pv 3) (pe_callTy call_list_of rfl T.list (by rfl) (pa_cons (pe_fld (pv 0) rfl) pa_nil)) rfl)
      (pss_cons (ps_asg (pe_op op_add (pe_ix ix_list (pe_fld (pv 0) rfl) (pv 1) (fun _ _ => rfl)) (pv 2)) (pg_sub (pe_fld (pv 3) rfl) (pv 1) set_list))
      (pss_one (ps_ret (pv 3))))))))), ?_⟩
    have hw1 : (k.years.map (·.2))[i]? = some y.2 := by rw [List.getElem?_map, hyr]; rfl
    have hi : i < (k.years.map (·.2)).length := (List.getElem?_eq_some_iff.mp hw1).1
    -- other = Nursery()
    intro o od no nod neo
    refine ⟨o, od, rfl, upd_same, fun H1 hN1 k1 => ⟨rfl, ?_⟩⟩
    have S1 : Same H H1 := Same.made no nod k1
    obtain ⟨od1, ia, ib, ic, iw, ho1, _⟩ := hN1
    have npo : p ≠ o := ne_of_none hp no
    have hp1 := S1 _ _ hp
    -- the fields
    refine ⟨_, rfl, p, t.cN, dx, _, _, rfl, hp1, T.nCls, T.nBeds, nf_beds .., _, rfl, o, t.cN, od1, _, rfl, ho1, T.nCls, T.nBeds, nf_len .., ?_⟩
    rw [nf_put_beds]
    refine ⟨_, rfl, p, t.cN, dx, _, _, rfl, Eq.trans (upd_ne npo) hp1, T.nCls, T.nLoss, nf_losses .., _, rfl, o, t.cN, od1, _, rfl, upd_same, T.nCls, T.nLoss, nf_len .., ?_⟩
    rw [nf_put_losses, upd_upd]
    refine ⟨_, rfl, p, t.cN, dx, _, _, rfl, Eq.trans (upd_ne npo) hp1, T.nCls, T.nSeed, nf_seedlings .., _, rfl, o, t.cN, od1, _, rfl, upd_same, T.nCls, T.nSeed, nf_len .., ?_⟩
    rw [nf_put_seedlings, upd_upd]
    refine ⟨_, rfl, p, t.cN, dx, _, _, rfl, Eq.trans (upd_ne npo) hp1, T.nCls, T.nGath, nf_gathered .., _, rfl, o, t.cN, od1, _, rfl, upd_same, T.nCls, T.nGath, nf_len .., ?_⟩
    rw [nf_put_gathered, upd_upd]
    have S5 : Same H (upd H1 o (.ins t.cN od1 (nf (k.beds : Int) a1 b1 c1 iw))) := fun b u e => by rw [upd_ne (ne_of_none e no)]; exact S1 _ _ e
    have o5 : upd H1 o (.ins t.cN od1 (nf (k.beds : Int) a1 b1 c1 iw)) o = some (.ins t.cN od1 (nf (k.beds : Int) a1 b1 c1 iw)) := upd_same
    generalize upd H1 o (.ins t.cN od1 (nf (k.beds : Int) a1 b1 c1 iw)) = H5 at S5 o5 ⊢
    -- other.wanted = list(nursery.wanted)
    refine ⟨_, rfl, p, t.cN, dx, _, _, rfl, S5 _ _ hp, T.nCls, T.nWant, nf_wanted .., d1, _, rfl, .inl (SqL.of (S5 _ _ hD)), fun wl hwl => ?_⟩
    have nwo : o ≠ wl := ne_of_none o5 hwl
    refine ⟨_, rfl, o, t.cN, od1, _, rfl, Eq.trans (upd_ne nwo) o5, T.nCls, T.nWant, nf_len .., ?_⟩
    rw [nf_put_wanted]
    have S7 : Same H (upd (upd H5 wl (.lst (nats (k.years.map (·.2))))) o (.ins t.cN od1 (nf (k.beds : Int) a1 b1 c1 wl))) := fun b u e => by
      rw [upd_ne (ne_of_none e no), upd_ne (ne_of_none (S5 _ _ e) hwl)]
      exact S5 _ _ e
    have o7 : upd (upd H5 wl (.lst (nats (k.years.map (·.2))))) o (.ins t.cN od1 (nf (k.beds : Int) a1 b1 c1 wl)) o = some (.ins t.cN od1 (nf (k.beds : Int) a1 b1 c1 wl)) := upd_same
    have w7 : upd (upd H5 wl (.lst (nats (k.years.map (·.2))))) o (.ins t.cN od1 (nf (k.beds : Int) a1 b1 c1 wl)) wl = some (.lst (nats (k.years.map (·.2)))) := Eq.trans (upd_ne nwo.symm) upd_same
    generalize upd (upd H5 wl (.lst (nats (k.years.map (·.2))))) o (.ins t.cN od1 (nf (k.beds : Int) a1 b1 c1 wl)) = H7 at S7 o7 w7 ⊢
    have nwl : H wl = none := S5.free hwl
    -- other.wanted[year] = ..
    refine ⟨_, rfl, p, t.cN, dx, _, _, rfl, S7 _ _ hp, T.nCls, T.nWant, nf_wanted .., _, rfl, d1, _, _, _, rfl, rfl, SqL.of (S7 _ _ hD), at_of (j := i) rfl (nats_get hw1), _, rfl, _, _, rfl, rfl,
      _, rfl, o, t.cN, od1, _, _, rfl, o7, T.nCls, T.nWant, nf_wanted .., _, rfl, wl, _, _, i, rfl, rfl, w7, (by rw [nats_length]; unfold ixN; rw [if_pos (by omega), if_pos (by omega)]; simp), ?_⟩
    have ez : (y.2 : Int) + (n : Int) = ((y.2 + n : Nat) : Int) := by omega
    dsimp only
    rw [ez, nats_set, ← more_snd hyr n]
    have S8 : Same H (upd H7 wl (.lst (nats ((k.more i n).years.map (·.2))))) := fun b u e => by rw [upd_ne (ne_of_none e nwl)]; exact S7 _ _ e
    have o8 : upd H7 wl (.lst (nats ((k.more i n).years.map (·.2)))) o = _ := Eq.trans (upd_ne nwo) o7
    have w8 : upd H7 wl (.lst (nats ((k.more i n).years.map (·.2)))) wl = _ := upd_same
    generalize upd H7 wl (.lst (nats ((k.more i n).years.map (·.2)))) = H8 at S8 o8 w8 ⊢
    refine ⟨_, rfl, ?_⟩
    exact kk H8 o S8 ⟨od1, a1, b1, c1, wl, o8, S8 _ _ hA, S8 _ _ hB, by rw [more_fst]; exact S8 _ _ hC, w8⟩

/-! ### answer_more -/
def spMor (C : Addr) : Sp := fun vs H Q _ => ∃ (p : Addr) (k : Si58.Nursery) (i n : Nat), vs = [.ref p, .int i, .int n] ∧ NurAt C H p k ∧ Fine k ∧ ∀ H' q, H q = none → Same H H' → AnsAt H' q (Si58.step k (.more i n)).2 → Q (.ref q) H'
theorem scMor : FnScope ["nursery", "year", "more", "now", "then"] ["nursery", "year", "more"] (defScope sMor) := ⟨rfl, rfl, rfl, by decide +kernel, rfl, by decide +kernel, by decide +kernel⟩
theorem ok_mor (T : Txt K mg t) : FnOk P w K mg base CX0 9 t.fMor t.dMor ["nursery", "year", "more"] (spMor t.cN) := by
  have GR : FnOk P w K mg base CX0 8 t.fBrs t.dBrs ["nursery"] (spBrs t.cN) := ok_brs T
  have GN : FnOk P w K mg base CX0 3 t.fNmw t.dNmw ["nursery", "year", "more"] (spNmw t.cN) := ok_nmw T
  obtain ⟨tk1, m1⟩ := T.kNoy
  obtain ⟨tk2, m2⟩ := T.mMore
  obtain ⟨tk3, m3⟩ := T.kNot
  obtain ⟨tk4, m4⟩ := T.kNod
  obtain ⟨tk5, m5⟩ := T.kNow
  refine T.mor.fn.ok scMor (fun vs H Q E h => ?_) (fun cdv A outer s H vs Q E hr h => ?_)
  · obtain ⟨p, k, i, n, rfl, _⟩ := h
    rfl
  · obtain ⟨p, k, i, n, rfl, hN, fine, kk⟩ := h
    have hr3 : Room 3 _ := hr.mono (by decide)
    refine ⟨_, pss_cons (ps_if (pt_cmpR op_ge (pv 1) (pe_callB call_len_seq (by rfl) T.len PySem.boot_len (pa_cons (pe_fld (pv 0) rfl) pa_nil)) (nomark _)) (pss_one (ps_ret (pe_lst (pa_cons (pe_glob (v := .int (-2)) rfl m1 ⟨tk1, rfl⟩) pa_nil)))) pss_nil)
      (pss_cons (ps_if (pt_cmpR op_gt (pv 2) (pe_glob (v := .int 100000) rfl m2 ⟨tk2, rfl⟩) (nomark _)) (pss_one (ps_ret (pe_lst (pa_cons (pe_glob (v := .int (-1)) rfl m3 ⟨tk3, rfl⟩) pa_nil)))) pss_nil)
      (pss_cons (ps_set (i := 3) scMor.nd rfl (Or.inl rfl) (pe_call GR hr rfl T.brs.gl T.brs.fn.kp T.brs.bn .nil pass0 (pa_cons (pv 0) pa_nil)))
      (pss_cons (ps_if (pt_cmpR op_eq (pe_callB call_len_seq (by rfl) T.len PySem.boot_len (pa_cons (pv 3) pa_nil)) pe_int (nomark _)) (pss_one (ps_ret (pe_lst (pa_cons (pe_glob (v := .int (-6)) rfl m4 ⟨tk4, rfl⟩) pa_nil)))) pss_nil)
      (pss_cons (ps_set (i := 4) scMor.nd rfl (Or.inl rfl) (pe_call GR hr rfl T.brs.gl T.brs.fn.kp T.brs.bn .nil pass0 (pa_cons (pe_call GN hr3 rfl T.nmw.gl T.nmw.fn.kp T.nmw.bn .nil pass0 (pa_cons (pv 0) (pa_cons (pv 1) (pa_cons (pv 2) pa_nil)))) pa_nil)))
      (pss_cons (ps_if (pt_cmpR op_eq (pe_callB call_len_seq (by rfl) T.len PySem.boot_len (pa_cons (pv 4) pa_nil)) pe_int (nomark _)) (pss_one (ps_ret (pe_lst (pa_cons (pe_glob (v := .int (-3)) rfl m5 ⟨tk5, rfl⟩) pa_nil)))) pss_nil)
      (pss_one (ps_ret (pe_op op_cat (pe_lst (pa_cons (pe_op op_sub (pe_callB (cr_sum rfl) rfl T.sum (by rfl) (pa_cons (pe_ix ix_list (pv 4) pe_int (fun _ _ => rfl)) pa_nil)) (pe_callB (cr_sum rfl) rfl T.sum (by rfl) (pa_cons (pe_ix ix_list (pv 3) pe_int (fun _ _ => rfl)) pa_nil))) (pa_cons (pe_callB call_len_seq (by rfl) T.len PySem.boot_len (pa_cons (pv 4) pa_nil)) pa_nil))) (pe_ix ix_list (pv 4) pe_int (fun _ _ => rfl)))))))))), ?_⟩
    have h100 : 100 ≤ sizeLine := by decide
    obtain ⟨dx, a1, b1, c1, d1, hp, hA, hB, hC, hD⟩ := id hN
    -- a refusal
    have bad : ∀ (z : Int), (Si58.step k (.more i n)).2 = Si58.ok z → ∀ H', Same H H' → ∀ q, H' q = none → Q (.ref q) (upd H' q (.lst [.int z])) := fun z e H' S q hq => by
      refine kk _ q (S.free hq) (S.trans (Same.new hq)) ?_
      rw [e]
      exact upd_same
    have estep : Si58.step k (.more i n) = if k.years.length ≤ i then (k, Si58.ok (-2)) else if 100000 < n then (k, Si58.ok (-1)) else (k, match k.best, (k.more i n).best with
      | none, _ => Si58.ok (-6)
      | some _, none => Si58.ok (-3)
      | some a, some b => ⟨((b.bags - a.bags : Nat) : Int), (b.many : Int) :: Si58.ints b.row⟩) := rfl
    -- year >= len(nursery.wanted)
    refine ⟨_, rfl, _, rfl, p, t.cN, dx, _, _, rfl, hp, T.nCls, T.nWant, nf_wanted .., d1, _, rfl, .inl (SqL.of hD), _, _, rfl, rfl, _, rfl, ?_⟩
    rw [nats_length, List.length_map]
    refine ite2 (fun hc => ?_) (fun hc => ?_)
    · have hc : (k.years.length : Int) ≤ (i : Int) := of_decide_eq_true hc
      rw [if_pos (by omega)] at estep
      exact ⟨(by show 1 ≤ sizeLine; decide), fun q hq => bad _ (by rw [estep]) H (Same.refl H) q hq⟩
    have hc1 : ¬ (k.years.length : Int) ≤ (i : Int) := fun z => hc (decide_eq_true z)
    rw [if_neg (by omega)] at estep
    -- more > MOST_WANTED_MORE
    refine ⟨_, rfl, _, _, rfl, rfl, _, rfl, ?_⟩
    refine ite2 (fun hc => ?_) (fun hc => ?_)
    · have hc : (100000 : Int) < (n : Int) := of_decide_eq_true hc
      rw [if_pos (by omega)] at estep
      exact ⟨(by show 1 ≤ sizeLine; decide), fun q hq => bad _ (by rw [estep]) H (Same.refl H) q hq⟩
    have hc2 : ¬ (100000 : Int) < (n : Int) := fun z => hc (decide_eq_true z)
    rw [if_neg (by omega)] at estep
    -- now = best_rows(nursery)
    refine ⟨_, rfl, p, k, rfl, hN, fine, fun H1 rs S1 hrs => ?_⟩
    cases hb : k.best with
    | none =>
      rw [hb] at hrs estep
      have hrs : H1 rs = some (.lst []) := hrs
      refine ⟨_, rfl, rs, _, rfl, .inl (SqL.of hrs), rfl, _, rfl, ?_⟩
      refine iteT ?_
      exact ⟨(by show 1 ≤ sizeLine; decide), fun q hq => bad _ (by rw [estep]) H1 S1 q hq⟩
    | some b =>
      rw [hb] at hrs estep
      obtain ⟨ra, rest, h1, h2, h3, h4, h5⟩ := hrs
      refine ⟨_, rfl, rs, _, rfl, .inl (SqL.of h1), rfl, _, rfl, ?_⟩
      refine ite2 (fun hc => ?_) (fun _ => ?_)
      · exact absurd hc (by rw [List.length_cons]; simp; omega)
      -- then = best_rows(nursery_with_more_wanted(..))
      obtain ⟨y, hy⟩ : ∃ y, k.years[i]? = some y := ⟨_, List.getElem?_eq_getElem (by omega)⟩
      refine ⟨_, rfl, _, rfl, _, rfl, p, k, i, n, y, rfl, hN.mono S1, hy, fun H2 p2 S2 hN2 => ?_⟩
      refine ⟨p2, k.more i n, rfl, hN2, fine_more fine i n, fun H3 ts S3 hts => ?_⟩
      have S13 := S2.trans S3
      have S03 := S1.trans S13
      cases hb2 : (k.more i n).best with
      | none =>
        rw [hb2] at hts estep
        have hts : H3 ts = some (.lst []) := hts
        refine ⟨_, rfl, ts, _, rfl, .inl (SqL.of hts), rfl, _, rfl, ?_⟩
        refine iteT ?_
        exact ⟨(by show 1 ≤ sizeLine; decide), fun q hq => bad _ (by rw [estep]) H3 S03 q hq⟩
      | some c =>
        rw [hb2] at hts estep
        obtain ⟨ta, rest2, g1, g2, g3, g4, g5⟩ := hts
        refine ⟨_, rfl, ts, _, rfl, .inl (SqL.of g1), rfl, _, rfl, ?_⟩
        refine ite2 (fun hc => ?_) (fun _ => ?_)
        · exact absurd hc (by rw [List.length_cons]; simp; omega)
        have hle := best_more fine hb hb2
        have hs1 : SqL K H3 ra ((b.row.map fun (n : Nat) => (n : Int)).map V.int) := SqL.of (by rw [← nats_ints]; exact S13 _ _ h3)
        have hs2 : SqL K H3 ta ((c.row.map fun (n : Nat) => (n : Int)).map V.int) := SqL.of (by rw [← nats_ints]; exact g3)
        refine ⟨_, rfl, ts, _, 0, _, rfl, rfl, SqL.of g1, at_of (j := 0) rfl rfl, ta, _, rfl, hs2, _, rfl, rs, _, 0, _, rfl, rfl, SqL.of (S13 _ _ h1), at_of (j := 0) rfl rfl, ra, _, rfl, hs1, _, _, rfl, rfl, _, rfl, ts, _, rfl, .inl (SqL.of g1), (by show 2 ≤ sizeLine; decide), fun z hz => ?_⟩
        have ez : (c.bags : Int) - (b.bags : Int) = ((c.bags - b.bags : Nat) : Int) := by omega
        rw [sum_cast, sum_cast, g4, h4, List.length_cons, g2]
        dsimp only
        rw [ez]
        have S4 : Same H3 (upd H3 z (.lst [.int ((c.bags - b.bags : Nat) : Int), .int (c.many : Int)])) := Same.new hz
        have z4 : upd H3 z (.lst [.int ((c.bags - b.bags : Nat) : Int), .int (c.many : Int)]) z = some (.lst [.int ((c.bags - b.bags : Nat) : Int), .int (c.many : Int)]) := upd_same
        generalize upd H3 z (.lst [.int ((c.bags - b.bags : Nat) : Int), .int (c.many : Int)]) = H4 at S4 z4 ⊢
        have hz1 : ([V.int ((c.bags - b.bags : Nat) : Int), V.int (c.many : Int)] : List V).length + (nats c.row).length ≤ sizeLine := by
          rw [nats_length]
          show 2 + _ ≤ _
          omega
        refine ⟨_, rfl, ts, _, 0, _, rfl, rfl, SqL.of (S4 _ _ g1), at_of (j := 0) rfl rfl, z, ta, _, _, rfl, rfl, z4, S4 _ _ g3, hz1, fun q hq => ?_⟩
        refine kk _ q ((S03.trans S4).free hq) ((S03.trans S4).trans (Same.new hq)) ?_
        refine Eq.trans upd_same ?_
        rw [estep]
        show some (HO.lst (V.int _ :: V.int (c.many : Int) :: nats c.row)) = some (HO.lst (V.int _ :: V.int (c.many : Int) :: (Si58.ints c.row).map V.int))
        rw [ints_nats]

/-! ### answer_call -/
theorem scCal : FnScope ["nursery", "call", "numbers"] ["nursery", "call", "numbers"] (defScope sCal) := ⟨rfl, rfl, rfl, by decide +kernel, rfl, by decide +kernel, by decide +kernel⟩
theorem step_keeps_follow (k : Si58.Nursery) (r : List Nat) : (Si58.step k (.follow r)).1 = k := by
  show (if _ then (k, Si58.ok (-1)) else _).1 = k
  split <;> rfl
theorem step_keeps_lift (k : Si58.Nursery) (r : List (Nat × Nat)) : (Si58.step k (.lift r)).1 = k := by
  show (if _ then (k, Si58.ok (-1)) else _).1 = k
  split <;> rfl
theorem step_keeps_more (k : Si58.Nursery) (i n : Nat) : (Si58.step k (.more i n)).1 = k := by
  show (if _ then (k, Si58.ok (-2)) else if _ then (k, Si58.ok (-1)) else _).1 = k
  split
  · rfl
  · split <;> rfl
theorem ok_cal (T : Txt K mg t) : FnOk P w K mg base CX0 10 t.fCal t.dCal ["nursery", "call", "numbers"] (spCal t.cN) := by
  have GB : FnOk P w K mg base CX0 2 t.fBeg t.dBeg ["nursery", "numbers"] (spBeg t.cN) := ok_beg T
  have GY : FnOk P w K mg base CX0 2 t.fYrs t.dYrs ["nursery", "numbers"] (spYrs t.cN) := ok_yrs T
  have GF : FnOk P w K mg base CX0 6 t.fFol t.dFol ["nursery", "row"] (spFol t.cN) := ok_fol T
  have GL : FnOk P w K mg base CX0 5 t.fLft t.dLft ["nursery", "numbers"] (spLft t.cN) := ok_lft T
  have GE : FnOk P w K mg base CX0 9 t.fBst t.dBst ["nursery"] (spBst t.cN) := ok_bst T
  have GM : FnOk P w K mg base CX0 9 t.fMor t.dMor ["nursery", "year", "more"] (spMor t.cN) := ok_mor T
  obtain ⟨tk0, m0⟩ := T.kBeg
  obtain ⟨tk1, m1⟩ := T.kYrs
  obtain ⟨tk2, m2⟩ := T.kFol
  obtain ⟨tk3, m3⟩ := T.kLft
  obtain ⟨tk4, m4⟩ := T.kBst
  obtain ⟨tk5, m5⟩ := T.kMor
  refine T.cal.fn.ok scCal (fun vs H Q E h => ?_) (fun cdv A outer s H vs Q E hr h => ?_)
  · obtain ⟨p, a, o, uo, k, c, as, q, rfl, _⟩ := h
    rfl
  · obtain ⟨p, a, o, uo, k, c, as, q, rfl, hN, huo, fine, ha, hc, kk⟩ := h
    have hr2 : Room 2 _ := hr.mono (by decide)
    have hr5 : Room 5 _ := hr.mono (by decide)
    have hr6 : Room 6 _ := hr.mono (by decide)
    refine ⟨_, pss_cons (ps_if (pt_cmpR op_eq (pv 1) (pe_glob (v := .int 0) rfl m0 ⟨tk0, rfl⟩) (nomark _)) (pss_one (ps_ret (pe_call GB hr2 rfl T.beg.gl T.beg.fn.kp T.beg.bn .nil pass0 (pa_cons (pv 0) (pa_cons (pv 2) pa_nil))))) pss_nil)
      (pss_cons (ps_if (pt_cmpR op_eq (pv 1) (pe_glob (v := .int 1) rfl m1 ⟨tk1, rfl⟩) (nomark _)) (pss_one (ps_ret (pe_call GY hr2 rfl T.yrs.gl T.yrs.fn.kp T.yrs.bn .nil pass0 (pa_cons (pv 0) (pa_cons (pv 2) pa_nil))))) pss_nil)
      (pss_cons (ps_if (pt_cmpR op_eq (pv 1) (pe_glob (v := .int 2) rfl m2 ⟨tk2, rfl⟩) (nomark _)) (pss_one (ps_ret (pe_call GF hr6 rfl T.fol.gl T.fol.fn.kp T.fol.bn .nil pass0 (pa_cons (pv 0) (pa_cons (pv 2) pa_nil))))) pss_nil)
      (pss_cons (ps_if (pt_cmpR op_eq (pv 1) (pe_glob (v := .int 3) rfl m3 ⟨tk3, rfl⟩) (nomark _)) (pss_one (ps_ret (pe_call GL hr5 rfl T.lft.gl T.lft.fn.kp T.lft.bn .nil pass0 (pa_cons (pv 0) (pa_cons (pv 2) pa_nil))))) pss_nil)
      (pss_cons (ps_if (pt_cmpR op_eq (pv 1) (pe_glob (v := .int 4) rfl m4 ⟨tk4, rfl⟩) (nomark _)) (pss_one (ps_ret (pe_call GE hr rfl T.bst.gl T.bst.fn.kp T.bst.bn .nil pass0 (pa_cons (pv 0) pa_nil)))) pss_nil)
      (pss_cons (ps_if (pt_cmpR op_eq (pv 1) (pe_glob (v := .int 5) rfl m5 ⟨tk5, rfl⟩) (nomark _)) (pss_one (ps_ret (pe_call GM hr rfl T.mor.gl T.mor.fn.kp T.mor.bn .nil pass0 (pa_cons (pv 0) (pa_cons (pe_ix ix_list (pv 2) pe_int (fun _ _ => rfl)) (pa_cons (pe_ix ix_list (pv 2) pe_int (fun _ _ => rfl)) pa_nil)))))) pss_nil)
      (pss_one (ps_never))))))), ?_⟩
    cases hc with
    | begins b r1 r2 r3 g hg =>
      refine ⟨_, rfl, rfl, _, rfl, iteT ?_⟩
      exact ⟨_, rfl, _, rfl, p, a, o, uo, k, b, r1, r2, r3, g, rfl, hN, huo, ha, hg, kk⟩
    | years l hl =>
      refine ⟨_, rfl, rfl, _, rfl, iteF ?_⟩
      refine ⟨_, rfl, rfl, _, rfl, iteT ?_⟩
      exact ⟨_, rfl, _, rfl, p, a, o, uo, k, l, rfl, hN, huo, ha, hl, kk⟩
    | follow r hl =>
      refine ⟨_, rfl, rfl, _, rfl, iteF ?_⟩
      refine ⟨_, rfl, rfl, _, rfl, iteF ?_⟩
      refine ⟨_, rfl, rfl, _, rfl, iteT ?_⟩
      refine ⟨_, rfl, _, rfl, p, a, k, as, rfl, hN.nur, fine, ha, fun H' q hq S hA => ?_⟩
      refine kk H' q hq (But.of_same S) ?_ hA
      rw [step_keeps_follow]
      exact hN.mono S
    | lift l hl =>
      refine ⟨_, rfl, rfl, _, rfl, iteF ?_⟩
      refine ⟨_, rfl, rfl, _, rfl, iteF ?_⟩
      refine ⟨_, rfl, rfl, _, rfl, iteF ?_⟩
      refine ⟨_, rfl, rfl, _, rfl, iteT ?_⟩
      refine ⟨_, rfl, _, rfl, p, a, k, l, rfl, hN.nur, fine, ha, hl, fun H' q hq S hA => ?_⟩
      refine kk H' q hq (But.of_same S) ?_ hA
      rw [step_keeps_lift]
      exact hN.mono S
    | best =>
      refine ⟨_, rfl, rfl, _, rfl, iteF ?_⟩
      refine ⟨_, rfl, rfl, _, rfl, iteF ?_⟩
      refine ⟨_, rfl, rfl, _, rfl, iteF ?_⟩
      refine ⟨_, rfl, rfl, _, rfl, iteF ?_⟩
      refine ⟨_, rfl, rfl, _, rfl, iteT ?_⟩
      exact ⟨_, rfl, p, k, rfl, hN.nur, fine, fun H' q hq S hA => kk H' q hq (But.of_same S) (hN.mono S) hA⟩
    | more i n =>
      refine ⟨_, rfl, rfl, _, rfl, iteF ?_⟩
      refine ⟨_, rfl, rfl, _, rfl, iteF ?_⟩
      refine ⟨_, rfl, rfl, _, rfl, iteF ?_⟩
      refine ⟨_, rfl, rfl, _, rfl, iteF ?_⟩
      refine ⟨_, rfl, rfl, _, rfl, iteF ?_⟩
      refine ⟨_, rfl, rfl, _, rfl, iteT ?_⟩
      refine ⟨_, rfl, _, rfl, a, _, 0, _, rfl, rfl, SqL.of ha, at_of (j := 0) rfl (nats_get rfl), _, rfl, a, _, 1, _, rfl, rfl, SqL.of ha, at_of (j := 1) rfl (nats_get rfl), p, k, i, n, rfl, hN.nur, fine, fun H' q hq S hA => ?_⟩
      refine kk H' q hq (But.of_same S) ?_ hA
      rw [step_keeps_more]
      exact hN.mono S
end
end Nur

end
section
set_option Elab.async false
set_option linter.all false
set_option maxRecDepth 100000
set_option maxHeartbeats 2000000
namespace Nur
open PySem PySem.Spec PyProof.Rows L2
open PySem.W (Codec)
/-! ### what is handed in -/
theorem ofNats_of : ∀ {l : List Int}, (∀ z ∈ l, 0 ≤ z) → ofNats (l.map Int.toNat) = l
  | [], _ => rfl
  | z :: r, h => by
    have ih := ofNats_of (l := r) fun u hu => h u (List.mem_cons_of_mem _ hu)
    show ((z.toNat : Nat) : Int) :: ofNats (r.map Int.toNat) = z :: r
    rw [ih, Int.toNat_of_nonneg (h z (List.mem_cons_self ..))]
theorem nats_ofNats (l : List Nat) : nats l = (ofNats l).map V.int := nats_ints l
theorem in_int {z : Int} (h : Codec.inInt 0 4294967295 z = true) : 0 ≤ z ∧ z ≤ 4294967295 := by
  unfold Codec.inInt at h
  simpa using h
/-! ### what the top has written, and the row's head -/
theorem dfn_mk {K : PySem.W.Frag} {h : Heap} {mg : Str → Option Value} {x : Str} {st : Stmt} {ps : List Str} {f : Addr} {od an : Option Addr} {osl : Array (Option Value)} {oc kV doc pm cdv ct : Value} (X : K.In h) (G : h.Ns mainGlobals mg)
    (a : PySem.W.nsIn K mainGlobals x = some (some (.ref f))) (l : K.lookup f = some ⟨oc, od, .func (PySem.W.fnOf x x (defArgs st) (defBody st) (defScope st) .none kV doc pm an cdv ct), osl⟩) (c : PySem.W.codeIn K cdv x = true) (k : PySem.W.keepIn K (.ref f) = true)
    (hb : ∀ (kV doc pm : Value) (an : Option Addr) (cdv ct : Value) (us : List Value), us.length = ps.length → bindArgs (PySem.W.fnOf x x (defArgs st) (defBody st) (defScope st) .none kV doc pm an cdv ct) ⟨us, []⟩ = pure (ps.zip us)) :
    Dfn K mg x st ps f (PySem.W.fnOf x x (defArgs st) (defBody st) (defScope st) .none kV doc pm an cdv ct) :=
  ⟨fun_mk l c k, (fun_mk (st := st) l c k).binds hb, PySem.W.mg_of X G a⟩
theorem all_mk {P : Program} {w : World} {K : PySem.W.Frag} {h : Heap} {mg : Str → Option Value} {fa : Addr} (X : K.In h) (G : h.Ns mainGlobals mg) (hfa : mg "answers" = some (.ref fa))
    {cN : Addr} {fNI : Addr} {odNI anNI : Option Addr} {slNI : Array (Option Value)} {ocNI kVNI dcNI pmNI cdNI ctNI : Value}
    {cS : Addr} {fSI : Addr} {odSI anSI : Option Addr} {slSI : Array (Option Value)} {ocSI kVSI dcSI pmSI cdSI ctSI : Value}
    {cW : Addr} {fWI : Addr} {odWI anWI : Option Addr} {slWI : Array (Option Value)} {ocWI kVWI dcWI pmWI cdWI ctWI : Value}
    {fCal : Addr} {odCal anCal : Option Addr} {slCal : Array (Option Value)} {ocCal kVCal dcCal pmCal cdCal ctCal : Value}
    {fBeg : Addr} {odBeg anBeg : Option Addr} {slBeg : Array (Option Value)} {ocBeg kVBeg dcBeg pmBeg cdBeg ctBeg : Value}
    {fYrs : Addr} {odYrs anYrs : Option Addr} {slYrs : Array (Option Value)} {ocYrs kVYrs dcYrs pmYrs cdYrs ctYrs : Value}
    {fFol : Addr} {odFol anFol : Option Addr} {slFol : Array (Option Value)} {ocFol kVFol dcFol pmFol cdFol ctFol : Value}
    {fLft : Addr} {odLft anLft : Option Addr} {slLft : Array (Option Value)} {ocLft kVLft dcLft pmLft cdLft ctLft : Value}
    {fBst : Addr} {odBst anBst : Option Addr} {slBst : Array (Option Value)} {ocBst kVBst dcBst pmBst cdBst ctBst : Value}
    {fMor : Addr} {odMor anMor : Option Addr} {slMor : Array (Option Value)} {ocMor kVMor dcMor pmMor cdMor ctMor : Value}
    {fNmw : Addr} {odNmw anNmw : Option Addr} {slNmw : Array (Option Value)} {ocNmw kVNmw dcNmw pmNmw cdNmw ctNmw : Value}
    {fAbv : Addr} {odAbv anAbv : Option Addr} {slAbv : Array (Option Value)} {ocAbv kVAbv dcAbv pmAbv cdAbv ctAbv : Value}
    {fBrs : Addr} {odBrs anBrs : Option Addr} {slBrs : Array (Option Value)} {ocBrs kVBrs dcBrs pmBrs cdBrs ctBrs : Value}
    {fRtd : Addr} {odRtd anRtd : Option Addr} {slRtd : Array (Option Value)} {ocRtd kVRtd dcRtd pmRtd cdRtd ctRtd : Value}
    {fLon : Addr} {odLon anLon : Option Addr} {slLon : Array (Option Value)} {ocLon kVLon dcLon pmLon cdLon ctLon : Value}
    {fMou : Addr} {odMou anMou : Option Addr} {slMou : Array (Option Value)} {ocMou kVMou dcMou pmMou cdMou ctMou : Value}
    {fSt0 : Addr} {odSt0 anSt0 : Option Addr} {slSt0 : Array (Option Value)} {ocSt0 kVSt0 dcSt0 pmSt0 cdSt0 ctSt0 : Value}
    {fThr : Addr} {odThr anThr : Option Addr} {slThr : Array (Option Value)} {ocThr kVThr dcThr pmThr cdThr ctThr : Value}
    {fBeh : Addr} {odBeh anBeh : Option Addr} {slBeh : Array (Option Value)} {ocBeh kVBeh dcBeh pmBeh cdBeh ctBeh : Value}
    {fTak : Addr} {odTak anTak : Option Addr} {slTak : Array (Option Value)} {ocTak kVTak dcTak pmTak cdTak ctTak : Value}
    {fUnl : Addr} {odUnl anUnl : Option Addr} {slUnl : Array (Option Value)} {ocUnl kVUnl dcUnl pmUnl cdUnl ctUnl : Value}
    {fWin : Addr} {odWin anWin : Option Addr} {slWin : Array (Option Value)} {ocWin kVWin dcWin pmWin cdWin ctWin : Value}
    {fLef : Addr} {odLef anLef : Option Addr} {slLef : Array (Option Value)} {ocLef kVLef dcLef pmLef cdLef ctLef : Value}
    {fAns : Addr} {odAns anAns : Option Addr} {slAns : Array (Option Value)} {ocAns kVAns dcAns pmAns cdAns ctAns : Value}
    {tmBeds : Tok}
    {tmLoss : Tok}
    {tmAges : Tok}
    {tmSeed : Tok}
    {tmYear : Tok}
    {tmGath : Tok}
    {tmWant : Tok}
    {tmMore : Tok}
    {tmTill : Tok}
    {tkBeg : Tok}
    {tkYrs : Tok}
    {tkFol : Tok}
    {tkLft : Tok}
    {tkBst : Tok}
    {tkMor : Tok}
    {tkNot : Tok}
    {tkNoy : Tok}
    {tkNow : Tok}
    {tkNod : Tok}
    (aN : PySem.W.nsIn K mainGlobals "Nursery" = some (some (.ref cN)))
    (iNI : PySem.W.findIn K (.ref cN) "__init__" = some (some (.ref fNI)))
    (nNI : PySem.W.isFn K (.ref fNI) = true)
    (lNI : K.lookup fNI = some ⟨ocNI, odNI, .func (PySem.W.fnOf "__init__" "Nursery.__init__" (defArgs sNurI) (defBody sNurI) (defScope sNurI) .none kVNI dcNI pmNI anNI cdNI ctNI), slNI⟩)
    (cNI : PySem.W.codeIn K cdNI "Nursery.__init__" = true)
    (kNI : PySem.W.keepIn K (.ref fNI) = true)
    (pgN : PySem.W.plainGet K cN Str.empty = true)
    (hdN : PySem.W.hasDictIn K cN = true)
    (poN : PySem.W.plainOver K cN = true)
    (saN : PySem.W.findIn K (.ref cN) "__setattr__" = some (some (.builtin "object.__setattr__")))
    (mkN : PySem.W.makesIn K cN = true)
    (kcN : PySem.W.keepIn K (.ref cN) = true)
    (xNbeds : PySem.W.findIn K (.ref cN) "beds" = some none)
    (xNlosses : PySem.W.findIn K (.ref cN) "losses" = some none)
    (xNseedlings : PySem.W.findIn K (.ref cN) "seedlings" = some none)
    (xNgathered : PySem.W.findIn K (.ref cN) "gathered" = some none)
    (xNwanted : PySem.W.findIn K (.ref cN) "wanted" = some none)
    (aS : PySem.W.nsIn K mainGlobals "Stock" = some (some (.ref cS)))
    (iSI : PySem.W.findIn K (.ref cS) "__init__" = some (some (.ref fSI)))
    (nSI : PySem.W.isFn K (.ref fSI) = true)
    (lSI : K.lookup fSI = some ⟨ocSI, odSI, .func (PySem.W.fnOf "__init__" "Stock.__init__" (defArgs sStoI) (defBody sStoI) (defScope sStoI) .none kVSI dcSI pmSI anSI cdSI ctSI), slSI⟩)
    (cSI : PySem.W.codeIn K cdSI "Stock.__init__" = true)
    (kSI : PySem.W.keepIn K (.ref fSI) = true)
    (pgS : PySem.W.plainGet K cS Str.empty = true)
    (hdS : PySem.W.hasDictIn K cS = true)
    (poS : PySem.W.plainOver K cS = true)
    (saS : PySem.W.findIn K (.ref cS) "__setattr__" = some (some (.builtin "object.__setattr__")))
    (mkS : PySem.W.makesIn K cS = true)
    (kcS : PySem.W.keepIn K (.ref cS) = true)
    (xSplants : PySem.W.findIn K (.ref cS) "plants" = some none)
    (xSbags : PySem.W.findIn K (.ref cS) "bags" = some none)
    (aW : PySem.W.nsIn K mainGlobals "Sowings" = some (some (.ref cW)))
    (iWI : PySem.W.findIn K (.ref cW) "__init__" = some (some (.ref fWI)))
    (nWI : PySem.W.isFn K (.ref fWI) = true)
    (lWI : K.lookup fWI = some ⟨ocWI, odWI, .func (PySem.W.fnOf "__init__" "Sowings.__init__" (defArgs sSowI) (defBody sSowI) (defScope sSowI) .none kVWI dcWI pmWI anWI cdWI ctWI), slWI⟩)
    (cWI : PySem.W.codeIn K cdWI "Sowings.__init__" = true)
    (kWI : PySem.W.keepIn K (.ref fWI) = true)
    (pgW : PySem.W.plainGet K cW Str.empty = true)
    (hdW : PySem.W.hasDictIn K cW = true)
    (poW : PySem.W.plainOver K cW = true)
    (saW : PySem.W.findIn K (.ref cW) "__setattr__" = some (some (.builtin "object.__setattr__")))
    (mkW : PySem.W.makesIn K cW = true)
    (kcW : PySem.W.keepIn K (.ref cW) = true)
    (xWrow : PySem.W.findIn K (.ref cW) "row" = some none)
    (xWstock : PySem.W.findIn K (.ref cW) "stock" = some none)
    (aCal : PySem.W.nsIn K mainGlobals "answer_call" = some (some (.ref fCal)))
    (lCal : K.lookup fCal = some ⟨ocCal, odCal, .func (PySem.W.fnOf "answer_call" "answer_call" (defArgs sCal) (defBody sCal) (defScope sCal) .none kVCal dcCal pmCal anCal cdCal ctCal), slCal⟩)
    (cCal : PySem.W.codeIn K cdCal "answer_call" = true)
    (kCal : PySem.W.keepIn K (.ref fCal) = true)
    (aBeg : PySem.W.nsIn K mainGlobals "answer_begins" = some (some (.ref fBeg)))
    (lBeg : K.lookup fBeg = some ⟨ocBeg, odBeg, .func (PySem.W.fnOf "answer_begins" "answer_begins" (defArgs sBeg) (defBody sBeg) (defScope sBeg) .none kVBeg dcBeg pmBeg anBeg cdBeg ctBeg), slBeg⟩)
    (cBeg : PySem.W.codeIn K cdBeg "answer_begins" = true)
    (kBeg : PySem.W.keepIn K (.ref fBeg) = true)
    (aYrs : PySem.W.nsIn K mainGlobals "answer_years" = some (some (.ref fYrs)))
    (lYrs : K.lookup fYrs = some ⟨ocYrs, odYrs, .func (PySem.W.fnOf "answer_years" "answer_years" (defArgs sYrs) (defBody sYrs) (defScope sYrs) .none kVYrs dcYrs pmYrs anYrs cdYrs ctYrs), slYrs⟩)
    (cYrs : PySem.W.codeIn K cdYrs "answer_years" = true)
    (kYrs : PySem.W.keepIn K (.ref fYrs) = true)
    (aFol : PySem.W.nsIn K mainGlobals "answer_follow" = some (some (.ref fFol)))
    (lFol : K.lookup fFol = some ⟨ocFol, odFol, .func (PySem.W.fnOf "answer_follow" "answer_follow" (defArgs sFol) (defBody sFol) (defScope sFol) .none kVFol dcFol pmFol anFol cdFol ctFol), slFol⟩)
    (cFol : PySem.W.codeIn K cdFol "answer_follow" = true)
    (kFol : PySem.W.keepIn K (.ref fFol) = true)
    (aLft : PySem.W.nsIn K mainGlobals "answer_lift" = some (some (.ref fLft)))
    (lLft : K.lookup fLft = some ⟨ocLft, odLft, .func (PySem.W.fnOf "answer_lift" "answer_lift" (defArgs sLft) (defBody sLft) (defScope sLft) .none kVLft dcLft pmLft anLft cdLft ctLft), slLft⟩)
    (cLft : PySem.W.codeIn K cdLft "answer_lift" = true)
    (kLft : PySem.W.keepIn K (.ref fLft) = true)
    (aBst : PySem.W.nsIn K mainGlobals "answer_best" = some (some (.ref fBst)))
    (lBst : K.lookup fBst = some ⟨ocBst, odBst, .func (PySem.W.fnOf "answer_best" "answer_best" (defArgs sBst) (defBody sBst) (defScope sBst) .none kVBst dcBst pmBst anBst cdBst ctBst), slBst⟩)
    (cBst : PySem.W.codeIn K cdBst "answer_best" = true)
    (kBst : PySem.W.keepIn K (.ref fBst) = true)
    (aMor : PySem.W.nsIn K mainGlobals "answer_more" = some (some (.ref fMor)))
    (lMor : K.lookup fMor = some ⟨ocMor, odMor, .func (PySem.W.fnOf "answer_more" "answer_more" (defArgs sMor) (defBody sMor) (defScope sMor) .none kVMor dcMor pmMor anMor cdMor ctMor), slMor⟩)
    (cMor : PySem.W.codeIn K cdMor "answer_more" = true)
    (kMor : PySem.W.keepIn K (.ref fMor) = true)
    (aNmw : PySem.W.nsIn K mainGlobals "nursery_with_more_wanted" = some (some (.ref fNmw)))
    (lNmw : K.lookup fNmw = some ⟨ocNmw, odNmw, .func (PySem.W.fnOf "nursery_with_more_wanted" "nursery_with_more_wanted" (defArgs sNmw) (defBody sNmw) (defScope sNmw) .none kVNmw dcNmw pmNmw anNmw cdNmw ctNmw), slNmw⟩)
    (cNmw : PySem.W.codeIn K cdNmw "nursery_with_more_wanted" = true)
    (kNmw : PySem.W.keepIn K (.ref fNmw) = true)
    (aAbv : PySem.W.nsIn K mainGlobals "any_above" = some (some (.ref fAbv)))
    (lAbv : K.lookup fAbv = some ⟨ocAbv, odAbv, .func (PySem.W.fnOf "any_above" "any_above" (defArgs sAbv) (defBody sAbv) (defScope sAbv) .none kVAbv dcAbv pmAbv anAbv cdAbv ctAbv), slAbv⟩)
    (cAbv : PySem.W.codeIn K cdAbv "any_above" = true)
    (kAbv : PySem.W.keepIn K (.ref fAbv) = true)
    (aBrs : PySem.W.nsIn K mainGlobals "best_rows" = some (some (.ref fBrs)))
    (lBrs : K.lookup fBrs = some ⟨ocBrs, odBrs, .func (PySem.W.fnOf "best_rows" "best_rows" (defArgs sBrs) (defBody sBrs) (defScope sBrs) .none kVBrs dcBrs pmBrs anBrs cdBrs ctBrs), slBrs⟩)
    (cBrs : PySem.W.codeIn K cdBrs "best_rows" = true)
    (kBrs : PySem.W.keepIn K (.ref fBrs) = true)
    (aRtd : PySem.W.nsIn K mainGlobals "rows_that_do" = some (some (.ref fRtd)))
    (lRtd : K.lookup fRtd = some ⟨ocRtd, odRtd, .func (PySem.W.fnOf "rows_that_do" "rows_that_do" (defArgs sRtd) (defBody sRtd) (defScope sRtd) .none kVRtd dcRtd pmRtd anRtd cdRtd ctRtd), slRtd⟩)
    (cRtd : PySem.W.codeIn K cdRtd "rows_that_do" = true)
    (kRtd : PySem.W.keepIn K (.ref fRtd) = true)
    (aLon : PySem.W.nsIn K mainGlobals "sowings_a_year_longer" = some (some (.ref fLon)))
    (lLon : K.lookup fLon = some ⟨ocLon, odLon, .func (PySem.W.fnOf "sowings_a_year_longer" "sowings_a_year_longer" (defArgs sLon) (defBody sLon) (defScope sLon) .none kVLon dcLon pmLon anLon cdLon ctLon), slLon⟩)
    (cLon : PySem.W.codeIn K cdLon "sowings_a_year_longer" = true)
    (kLon : PySem.W.keepIn K (.ref fLon) = true)
    (aMou : PySem.W.nsIn K mainGlobals "most_of_use" = some (some (.ref fMou)))
    (lMou : K.lookup fMou = some ⟨ocMou, odMou, .func (PySem.W.fnOf "most_of_use" "most_of_use" (defArgs sMou) (defBody sMou) (defScope sMou) .none kVMou dcMou pmMou anMou cdMou ctMou), slMou⟩)
    (cMou : PySem.W.codeIn K cdMou "most_of_use" = true)
    (kMou : PySem.W.keepIn K (.ref fMou) = true)
    (aSt0 : PySem.W.nsIn K mainGlobals "stock_at_beginning" = some (some (.ref fSt0)))
    (lSt0 : K.lookup fSt0 = some ⟨ocSt0, odSt0, .func (PySem.W.fnOf "stock_at_beginning" "stock_at_beginning" (defArgs sSt0) (defBody sSt0) (defScope sSt0) .none kVSt0 dcSt0 pmSt0 anSt0 cdSt0 ctSt0), slSt0⟩)
    (cSt0 : PySem.W.codeIn K cdSt0 "stock_at_beginning" = true)
    (kSt0 : PySem.W.keepIn K (.ref fSt0) = true)
    (aThr : PySem.W.nsIn K mainGlobals "stock_behind_three_first" = some (some (.ref fThr)))
    (lThr : K.lookup fThr = some ⟨ocThr, odThr, .func (PySem.W.fnOf "stock_behind_three_first" "stock_behind_three_first" (defArgs sThr) (defBody sThr) (defScope sThr) .none kVThr dcThr pmThr anThr cdThr ctThr), slThr⟩)
    (cThr : PySem.W.codeIn K cdThr "stock_behind_three_first" = true)
    (kThr : PySem.W.keepIn K (.ref fThr) = true)
    (aBeh : PySem.W.nsIn K mainGlobals "stock_behind" = some (some (.ref fBeh)))
    (lBeh : K.lookup fBeh = some ⟨ocBeh, odBeh, .func (PySem.W.fnOf "stock_behind" "stock_behind" (defArgs sBeh) (defBody sBeh) (defScope sBeh) .none kVBeh dcBeh pmBeh anBeh cdBeh ctBeh), slBeh⟩)
    (cBeh : PySem.W.codeIn K cdBeh "stock_behind" = true)
    (kBeh : PySem.W.keepIn K (.ref fBeh) = true)
    (aTak : PySem.W.nsIn K mainGlobals "bags_taken" = some (some (.ref fTak)))
    (lTak : K.lookup fTak = some ⟨ocTak, odTak, .func (PySem.W.fnOf "bags_taken" "bags_taken" (defArgs sTak) (defBody sTak) (defScope sTak) .none kVTak dcTak pmTak anTak cdTak ctTak), slTak⟩)
    (cTak : PySem.W.codeIn K cdTak "bags_taken" = true)
    (kTak : PySem.W.keepIn K (.ref fTak) = true)
    (aUnl : PySem.W.nsIn K mainGlobals "plants_unlifted" = some (some (.ref fUnl)))
    (lUnl : K.lookup fUnl = some ⟨ocUnl, odUnl, .func (PySem.W.fnOf "plants_unlifted" "plants_unlifted" (defArgs sUnl) (defBody sUnl) (defScope sUnl) .none kVUnl dcUnl pmUnl anUnl cdUnl ctUnl), slUnl⟩)
    (cUnl : PySem.W.codeIn K cdUnl "plants_unlifted" = true)
    (kUnl : PySem.W.keepIn K (.ref fUnl) = true)
    (aWin : PySem.W.nsIn K mainGlobals "stock_after_winter" = some (some (.ref fWin)))
    (lWin : K.lookup fWin = some ⟨ocWin, odWin, .func (PySem.W.fnOf "stock_after_winter" "stock_after_winter" (defArgs sWin) (defBody sWin) (defScope sWin) .none kVWin dcWin pmWin anWin cdWin ctWin), slWin⟩)
    (cWin : PySem.W.codeIn K cdWin "stock_after_winter" = true)
    (kWin : PySem.W.keepIn K (.ref fWin) = true)
    (aLef : PySem.W.nsIn K mainGlobals "left_of" = some (some (.ref fLef)))
    (lLef : K.lookup fLef = some ⟨ocLef, odLef, .func (PySem.W.fnOf "left_of" "left_of" (defArgs sLef) (defBody sLef) (defScope sLef) .none kVLef dcLef pmLef anLef cdLef ctLef), slLef⟩)
    (cLef : PySem.W.codeIn K cdLef "left_of" = true)
    (kLef : PySem.W.keepIn K (.ref fLef) = true)
    (aAns : PySem.W.nsIn K mainGlobals "answers" = some (some (.ref fAns)))
    (lAns : K.lookup fAns = some ⟨ocAns, odAns, .func (PySem.W.fnOf "answers" "answers" (defArgs sAns) (defBody sAns) (defScope sAns) .none kVAns dcAns pmAns anAns cdAns ctAns), slAns⟩)
    (cAns : PySem.W.codeIn K cdAns "answers" = true)
    (kAns : PySem.W.keepIn K (.ref fAns) = true)
    (blen : PySem.W.nsIn K mainGlobals "len" = some none)
    (bany : PySem.W.nsIn K mainGlobals "any" = some none)
    (bsum : PySem.W.nsIn K mainGlobals "sum" = some none)
    (bmin : PySem.W.nsIn K mainGlobals "min" = some none)
    (bmax : PySem.W.nsIn K mainGlobals "max" = some none)
    (brange : PySem.W.nsIn K mainGlobals "range" = some none)
    (blist : PySem.W.nsIn K mainGlobals "list" = some none)
    (gmBeds : PySem.W.nsIn K mainGlobals "MOST_BEDS" = some (some (.int 4 tmBeds)))
    (gmLoss : PySem.W.nsIn K mainGlobals "MOST_LOSS" = some (some (.int 100 tmLoss)))
    (gmAges : PySem.W.nsIn K mainGlobals "MOST_AGES" = some (some (.int 4 tmAges)))
    (gmSeed : PySem.W.nsIn K mainGlobals "MOST_SEEDLINGS" = some (some (.int 1000 tmSeed)))
    (gmYear : PySem.W.nsIn K mainGlobals "MOST_YEARS" = some (some (.int 6 tmYear)))
    (gmGath : PySem.W.nsIn K mainGlobals "MOST_GATHERED" = some (some (.int 8 tmGath)))
    (gmWant : PySem.W.nsIn K mainGlobals "MOST_WANTED" = some (some (.int 100000 tmWant)))
    (gmMore : PySem.W.nsIn K mainGlobals "MOST_WANTED_MORE" = some (some (.int 100000 tmMore)))
    (gmTill : PySem.W.nsIn K mainGlobals "YEARS_TILL_LIFTED" = some (some (.int 2 tmTill)))
    (gkBeg : PySem.W.nsIn K mainGlobals "BEGINS" = some (some (.int 0 tkBeg)))
    (gkYrs : PySem.W.nsIn K mainGlobals "YEARS" = some (some (.int 1 tkYrs)))
    (gkFol : PySem.W.nsIn K mainGlobals "FOLLOW" = some (some (.int 2 tkFol)))
    (gkLft : PySem.W.nsIn K mainGlobals "LIFT" = some (some (.int 3 tkLft)))
    (gkBst : PySem.W.nsIn K mainGlobals "BEST" = some (some (.int 4 tkBst)))
    (gkMor : PySem.W.nsIn K mainGlobals "MORE" = some (some (.int 5 tkMor)))
    (gkNot : PySem.W.nsIn K mainGlobals "NOT_AS_TOLD" = some (some (.int (-1) tkNot)))
    (gkNoy : PySem.W.nsIn K mainGlobals "NO_SUCH_YEAR" = some (some (.int (-2) tkNoy)))
    (gkNow : PySem.W.nsIn K mainGlobals "NO_ROW_WOULD_DO" = some (some (.int (-3) tkNow)))
    (gkNod : PySem.W.nsIn K mainGlobals "NO_ROW_DOES" = some (some (.int (-6) tkNod))) :
    ∃ fd : FuncData, (∀ (s : Shared) (us : List Value), us.length = (["calls"] : List Str).length → BindsTo s fd ⟨us, []⟩ ((["calls"] : List Str).zip us)) ∧ ∀ base : Heap, K.In base → base.Ns mainGlobals mg → FnOk P w K mg base CX0 11 fa fd ["calls"] (spAns K) := by
  have e := hfa.symm.trans (PySem.W.mg_of X G aAns)
  cases e
  have T : Txt K mg { cN := cN, cS := cS, cW := cW, fNI := fNI, dNI := PySem.W.fnOf "__init__" "Nursery.__init__" (defArgs sNurI) (defBody sNurI) (defScope sNurI) .none kVNI dcNI pmNI anNI cdNI ctNI, fSI := fSI, dSI := PySem.W.fnOf "__init__" "Stock.__init__" (defArgs sStoI) (defBody sStoI) (defScope sStoI) .none kVSI dcSI pmSI anSI cdSI ctSI, fWI := fWI, dWI := PySem.W.fnOf "__init__" "Sowings.__init__" (defArgs sSowI) (defBody sSowI) (defScope sSowI) .none kVWI dcWI pmWI anWI cdWI ctWI, fCal := fCal, dCal := PySem.W.fnOf "answer_call" "answer_call" (defArgs sCal) (defBody sCal) (defScope sCal) .none kVCal dcCal pmCal anCal cdCal ctCal, fBeg := fBeg, dBeg := PySem.W.fnOf "answer_begins" "answer_begins" (defArgs sBeg) (defBody sBeg) (defScope sBeg) .none kVBeg dcBeg pmBeg anBeg cdBeg ctBeg, fYrs := fYrs, dYrs := PySem.W.fnOf "answer_years" "answer_years" (defArgs sYrs) (defBody sYrs) (defScope sYrs) .none kVYrs dcYrs pmYrs anYrs cdYrs ctYrs, fFol := fFol, dFol := PySem.W.fnOf "answer_follow" "answer_follow" (defArgs sFol) (defBody sFol) (defScope sFol) .none kVFol dcFol pmFol anFol cdFol ctFol, fLft := fLft, dLft := PySem.W.fnOf "answer_lift" "answer_lift" (defArgs sLft) (defBody sLft) (defScope sLft) .none kVLft dcLft pmLft anLft cdLft ctLft, fBst := fBst, dBst := PySem.W.fnOf "answer_best" "answer_best" (defArgs sBst) (defBody sBst) (defScope sBst) .none kVBst dcBst pmBst anBst cdBst ctBst, fMor := fMor, dMor := PySem.W.fnOf "answer_more" "answer_more" (defArgs sMor) (defBody sMor) (defScope sMor) .none kVMor dcMor pmMor anMor cdMor ctMor, fNmw := fNmw, dNmw := PySem.W.fnOf "nursery_with_more_wanted" "nursery_with_more_wanted" (defArgs sNmw) (defBody sNmw) (defScope sNmw) .none kVNmw dcNmw pmNmw anNmw cdNmw ctNmw, fAbv := fAbv, dAbv := PySem.W.fnOf "any_above" "any_above" (defArgs sAbv) (defBody sAbv) (defScope sAbv) .none kVAbv dcAbv pmAbv anAbv cdAbv ctAbv, fBrs := fBrs, dBrs := PySem.W.fnOf "best_rows" "best_rows" (defArgs sBrs) (defBody sBrs) (defScope sBrs) .none kVBrs dcBrs pmBrs anBrs cdBrs ctBrs, fRtd := fRtd, dRtd := PySem.W.fnOf "rows_that_do" "rows_that_do" (defArgs sRtd) (defBody sRtd) (defScope sRtd) .none kVRtd dcRtd pmRtd anRtd cdRtd ctRtd, fLon := fLon, dLon := PySem.W.fnOf "sowings_a_year_longer" "sowings_a_year_longer" (defArgs sLon) (defBody sLon) (defScope sLon) .none kVLon dcLon pmLon anLon cdLon ctLon, fMou := fMou, dMou := PySem.W.fnOf "most_of_use" "most_of_use" (defArgs sMou) (defBody sMou) (defScope sMou) .none kVMou dcMou pmMou anMou cdMou ctMou, fSt0 := fSt0, dSt0 := PySem.W.fnOf "stock_at_beginning" "stock_at_beginning" (defArgs sSt0) (defBody sSt0) (defScope sSt0) .none kVSt0 dcSt0 pmSt0 anSt0 cdSt0 ctSt0, fThr := fThr, dThr := PySem.W.fnOf "stock_behind_three_first" "stock_behind_three_first" (defArgs sThr) (defBody sThr) (defScope sThr) .none kVThr dcThr pmThr anThr cdThr ctThr, fBeh := fBeh, dBeh := PySem.W.fnOf "stock_behind" "stock_behind" (defArgs sBeh) (defBody sBeh) (defScope sBeh) .none kVBeh dcBeh pmBeh anBeh cdBeh ctBeh, fTak := fTak, dTak := PySem.W.fnOf "bags_taken" "bags_taken" (defArgs sTak) (defBody sTak) (defScope sTak) .none kVTak dcTak pmTak anTak cdTak ctTak, fUnl := fUnl, dUnl := PySem.W.fnOf "plants_unlifted" "plants_unlifted" (defArgs sUnl) (defBody sUnl) (defScope sUnl) .none kVUnl dcUnl pmUnl anUnl cdUnl ctUnl, fWin := fWin, dWin := PySem.W.fnOf "stock_after_winter" "stock_after_winter" (defArgs sWin) (defBody sWin) (defScope sWin) .none kVWin dcWin pmWin anWin cdWin ctWin, fLef := fLef, dLef := PySem.W.fnOf "left_of" "left_of" (defArgs sLef) (defBody sLef) (defScope sLef) .none kVLef dcLef pmLef anLef cdLef ctLef } := {
    nCls := ⟨pgN, hdN, poN, saN⟩
    nMk := ⟨mkN, iNI, nNI, kcN⟩
    nFn := fun_mk (st := sNurI) lNI cNI kNI
    nBn := (fun_mk (st := sNurI) lNI cNI kNI).binds fun _ _ _ _ _ _ us hl => match us, hl with | [_], _ => rfl
    nGl := PySem.W.mg_of X G aN
    nBeds := xNbeds
    nLoss := xNlosses
    nSeed := xNseedlings
    nGath := xNgathered
    nWant := xNwanted
    sCls := ⟨pgS, hdS, poS, saS⟩
    sMk := ⟨mkS, iSI, nSI, kcS⟩
    sFn := fun_mk (st := sStoI) lSI cSI kSI
    sBn := (fun_mk (st := sStoI) lSI cSI kSI).binds fun _ _ _ _ _ _ us hl => match us, hl with | [_, _, _], _ => rfl
    sGl := PySem.W.mg_of X G aS
    sPlan := xSplants
    sBags := xSbags
    wCls := ⟨pgW, hdW, poW, saW⟩
    wMk := ⟨mkW, iWI, nWI, kcW⟩
    wFn := fun_mk (st := sSowI) lWI cWI kWI
    wBn := (fun_mk (st := sSowI) lWI cWI kWI).binds fun _ _ _ _ _ _ us hl => match us, hl with | [_, _, _], _ => rfl
    wGl := PySem.W.mg_of X G aW
    wRow := xWrow
    wStk := xWstock
    cal := dfn_mk X G aCal lCal cCal kCal fun _ _ _ _ _ _ us hl => match us, hl with | [_, _, _], _ => rfl
    beg := dfn_mk X G aBeg lBeg cBeg kBeg fun _ _ _ _ _ _ us hl => match us, hl with | [_, _], _ => rfl
    yrs := dfn_mk X G aYrs lYrs cYrs kYrs fun _ _ _ _ _ _ us hl => match us, hl with | [_, _], _ => rfl
    fol := dfn_mk X G aFol lFol cFol kFol fun _ _ _ _ _ _ us hl => match us, hl with | [_, _], _ => rfl
    lft := dfn_mk X G aLft lLft cLft kLft fun _ _ _ _ _ _ us hl => match us, hl with | [_, _], _ => rfl
    bst := dfn_mk X G aBst lBst cBst kBst fun _ _ _ _ _ _ us hl => match us, hl with | [_], _ => rfl
    mor := dfn_mk X G aMor lMor cMor kMor fun _ _ _ _ _ _ us hl => match us, hl with | [_, _, _], _ => rfl
    nmw := dfn_mk X G aNmw lNmw cNmw kNmw fun _ _ _ _ _ _ us hl => match us, hl with | [_, _, _], _ => rfl
    abv := dfn_mk X G aAbv lAbv cAbv kAbv fun _ _ _ _ _ _ us hl => match us, hl with | [_, _], _ => rfl
    brs := dfn_mk X G aBrs lBrs cBrs kBrs fun _ _ _ _ _ _ us hl => match us, hl with | [_], _ => rfl
    rtd := dfn_mk X G aRtd lRtd cRtd kRtd fun _ _ _ _ _ _ us hl => match us, hl with | [_], _ => rfl
    lon := dfn_mk X G aLon lLon cLon kLon fun _ _ _ _ _ _ us hl => match us, hl with | [_, _, _], _ => rfl
    mou := dfn_mk X G aMou lMou cMou kMou fun _ _ _ _ _ _ us hl => match us, hl with | [_, _], _ => rfl
    st0 := dfn_mk X G aSt0 lSt0 cSt0 kSt0 fun _ _ _ _ _ _ us hl => match us, hl with | [_], _ => rfl
    thr := dfn_mk X G aThr lThr cThr kThr fun _ _ _ _ _ _ us hl => match us, hl with | [_, _, _, _], _ => rfl
    beh := dfn_mk X G aBeh lBeh cBeh kBeh fun _ _ _ _ _ _ us hl => match us, hl with | [_, _, _, _, _], _ => rfl
    tak := dfn_mk X G aTak lTak cTak kTak fun _ _ _ _ _ _ us hl => match us, hl with | [_, _], _ => rfl
    unl := dfn_mk X G aUnl lUnl cUnl kUnl fun _ _ _ _ _ _ us hl => match us, hl with | [_, _, _], _ => rfl
    win := dfn_mk X G aWin lWin cWin kWin fun _ _ _ _ _ _ us hl => match us, hl with | [_, _, _, _], _ => rfl
    lef := dfn_mk X G aLef lLef cLef kLef fun _ _ _ _ _ _ us hl => match us, hl with | [_, _], _ => rfl
    len := PySem.W.mg_none_of X G blen
    any := PySem.W.mg_none_of X G bany
    sum := PySem.W.mg_none_of X G bsum
    min := PySem.W.mg_none_of X G bmin
    max := PySem.W.mg_none_of X G bmax
    range := PySem.W.mg_none_of X G brange
    list := PySem.W.mg_none_of X G blist
    mBeds := ⟨tmBeds, PySem.W.mg_of X G gmBeds⟩
    mLoss := ⟨tmLoss, PySem.W.mg_of X G gmLoss⟩
    mAges := ⟨tmAges, PySem.W.mg_of X G gmAges⟩
    mSeed := ⟨tmSeed, PySem.W.mg_of X G gmSeed⟩
    mYear := ⟨tmYear, PySem.W.mg_of X G gmYear⟩
    mGath := ⟨tmGath, PySem.W.mg_of X G gmGath⟩
    mWant := ⟨tmWant, PySem.W.mg_of X G gmWant⟩
    mMore := ⟨tmMore, PySem.W.mg_of X G gmMore⟩
    mTill := ⟨tmTill, PySem.W.mg_of X G gmTill⟩
    kBeg := ⟨tkBeg, PySem.W.mg_of X G gkBeg⟩
    kYrs := ⟨tkYrs, PySem.W.mg_of X G gkYrs⟩
    kFol := ⟨tkFol, PySem.W.mg_of X G gkFol⟩
    kLft := ⟨tkLft, PySem.W.mg_of X G gkLft⟩
    kBst := ⟨tkBst, PySem.W.mg_of X G gkBst⟩
    kMor := ⟨tkMor, PySem.W.mg_of X G gkMor⟩
    kNot := ⟨tkNot, PySem.W.mg_of X G gkNot⟩
    kNoy := ⟨tkNoy, PySem.W.mg_of X G gkNoy⟩
    kNow := ⟨tkNow, PySem.W.mg_of X G gkNow⟩
    kNod := ⟨tkNod, PySem.W.mg_of X G gkNod⟩ }
  exact ⟨PySem.W.fnOf "answers" "answers" (defArgs sAns) (defBody sAns) (defScope sAns) .none kVAns dcAns pmAns anAns cdAns ctAns, fun s us hu => match us, hu with | [_], _ => .of_eq rfl, fun base _ _ => ok_ans T (fun_mk (st := sAns) lAns cAns kAns) (ok_cal T)⟩

end Nur
open PySem PySem.W PyProof.Rows
set_option maxRecDepth 100000 in
set_option maxHeartbeats 0 in
theorem PySem.Challenge.cw_coneyears_s01_answers_holds : PySem.Challenge.rw_coneyears_s01_answers.Holds := by
  w_on; k_headS; (case hw => exact ⟨[.list [.int 4, .int 0, .int 0]], by decide +kernel, by decide +kernel⟩)
  k_fillS
  refine L2.walk_specK (r := PySem.Challenge.rw_coneyears_s01_answers) (k := 11) (CX := L2.CX0) (ps := ["calls"]) (sp := Nur.spAns) (by decide +kernel) rfl rfl ⟨rfl, by decide, by decide⟩ (fun w h Y => PySem.W.kIn_of Y) ?F ?S (fun _ _ _ _ z => z)
  case F =>
    intro w mg fa h Y KX G hmg
    refine' Nur.all_mk KX G hmg ?aN ?iNI ?nNI ?lNI ?cNI ?kNI ?pgN ?hdN ?poN ?saN ?mkN ?kcN ?xNbeds ?xNlosses ?xNseedlings ?xNgathered ?xNwanted ?aS ?iSI ?nSI ?lSI ?cSI ?kSI ?pgS ?hdS ?poS ?saS ?mkS ?kcS ?xSplants ?xSbags ?aW ?iWI ?nWI ?lWI ?cWI ?kWI ?pgW ?hdW ?poW ?saW ?mkW ?kcW ?xWrow ?xWstock ?aCal ?lCal ?cCal ?kCal ?aBeg ?lBeg ?cBeg ?kBeg ?aYrs ?lYrs ?cYrs ?kYrs ?aFol ?lFol ?cFol ?kFol ?aLft ?lLft ?cLft ?kLft ?aBst ?lBst ?cBst ?kBst ?aMor ?lMor ?cMor ?kMor ?aNmw ?lNmw ?cNmw ?kNmw ?aAbv ?lAbv ?cAbv ?kAbv ?aBrs ?lBrs ?cBrs ?kBrs ?aRtd ?lRtd ?cRtd ?kRtd ?aLon ?lLon ?cLon ?kLon ?aMou ?lMou ?cMou ?kMou ?aSt0 ?lSt0 ?cSt0 ?kSt0 ?aThr ?lThr ?cThr ?kThr ?aBeh ?lBeh ?cBeh ?kBeh ?aTak ?lTak ?cTak ?kTak ?aUnl ?lUnl ?cUnl ?kUnl ?aWin ?lWin ?cWin ?kWin ?aLef ?lLef ?cLef ?kLef ?aAns ?lAns ?cAns ?kAns ?blen ?bany ?bsum ?bmin ?bmax ?brange ?blist ?gmBeds ?gmLoss ?gmAges ?gmSeed ?gmYear ?gmGath ?gmWant ?gmMore ?gmTill ?gkBeg ?gkYrs ?gkFol ?gkLft ?gkBst ?gkMor ?gkNot ?gkNoy ?gkNow ?gkNod
    (case aN => k_is); (case iNI => k_is); (case nNI => k_is); (case lNI => k_is); (case cNI => k_is); (case kNI => k_is)
    (case pgN => k_is); (case hdN => k_is); (case poN => k_is); (case saN => k_is); (case mkN => k_is); (case kcN => k_is)
    (case xNbeds => k_is); (case xNlosses => k_is); (case xNseedlings => k_is); (case xNgathered => k_is); (case xNwanted => k_is); (case aS => k_is)
    (case iSI => k_is); (case nSI => k_is); (case lSI => k_is); (case cSI => k_is); (case kSI => k_is); (case pgS => k_is)
    (case hdS => k_is); (case poS => k_is); (case saS => k_is); (case mkS => k_is); (case kcS => k_is); (case xSplants => k_is)
    (case xSbags => k_is); (case aW => k_is); (case iWI => k_is); (case nWI => k_is); (case lWI => k_is); (case cWI => k_is)
    (case kWI => k_is); (case pgW => k_is); (case hdW => k_is); (case poW => k_is); (case saW => k_is); (case mkW => k_is)
    (case kcW => k_is); (case xWrow => k_is); (case xWstock => k_is); (case aCal => k_is); (case lCal => k_is); (case cCal => k_is)
    (case kCal => k_is); (case aBeg => k_is); (case lBeg => k_is); (case cBeg => k_is); (case kBeg => k_is); (case aYrs => k_is)
    (case lYrs => k_is); (case cYrs => k_is); (case kYrs => k_is); (case aFol => k_is); (case lFol => k_is); (case cFol => k_is)
    (case kFol => k_is); (case aLft => k_is); (case lLft => k_is); (case cLft => k_is); (case kLft => k_is); (case aBst => k_is)
    (case lBst => k_is); (case cBst => k_is); (case kBst => k_is); (case aMor => k_is); (case lMor => k_is); (case cMor => k_is)
    (case kMor => k_is); (case aNmw => k_is); (case lNmw => k_is); (case cNmw => k_is); (case kNmw => k_is); (case aAbv => k_is)
    (case lAbv => k_is); (case cAbv => k_is); (case kAbv => k_is); (case aBrs => k_is); (case lBrs => k_is); (case cBrs => k_is)
    (case kBrs => k_is); (case aRtd => k_is); (case lRtd => k_is); (case cRtd => k_is); (case kRtd => k_is); (case aLon => k_is)
    (case lLon => k_is); (case cLon => k_is); (case kLon => k_is); (case aMou => k_is); (case lMou => k_is); (case cMou => k_is)
    (case kMou => k_is); (case aSt0 => k_is); (case lSt0 => k_is); (case cSt0 => k_is); (case kSt0 => k_is); (case aThr => k_is)
    (case lThr => k_is); (case cThr => k_is); (case kThr => k_is); (case aBeh => k_is); (case lBeh => k_is); (case cBeh => k_is)
    (case kBeh => k_is); (case aTak => k_is); (case lTak => k_is); (case cTak => k_is); (case kTak => k_is); (case aUnl => k_is)
    (case lUnl => k_is); (case cUnl => k_is); (case kUnl => k_is); (case aWin => k_is); (case lWin => k_is); (case cWin => k_is)
    (case kWin => k_is); (case aLef => k_is); (case lLef => k_is); (case cLef => k_is); (case kLef => k_is); (case aAns => k_is)
    (case lAns => k_is); (case cAns => k_is); (case kAns => k_is); (case blen => k_is); (case bany => k_is); (case bsum => k_is)
    (case bmin => k_is); (case bmax => k_is); (case brange => k_is); (case blist => k_is); (case gmBeds => k_is); (case gmLoss => k_is)
    (case gmAges => k_is); (case gmSeed => k_is); (case gmYear => k_is); (case gmGath => k_is); (case gmWant => k_is); (case gmMore => k_is)
    (case gmTill => k_is); (case gkBeg => k_is); (case gkYrs => k_is); (case gkFol => k_is); (case gkLft => k_is); (case gkBst => k_is)
    (case gkMor => k_is); (case gkNot => k_is); (case gkNoy => k_is); (case gkNow => k_is); (case gkNod => k_is)
  case S =>
    intro K H xs a hO hwi hask hx
    cases hx with
    | cons h1 h2 =>
      cases h2
      cases h1 with
      | lst hs ha =>
        have e := L2.ints_dw a.1 _ ha
        subst e
        have q : ((Codec.inLen 0 3000 a.1 && a.1.all (Codec.inInt 0 4294967295)) && true) = true := hwi
        rw [Bool.and_eq_true, Bool.and_eq_true] at q
        have hall : ∀ z ∈ a.1, 0 ≤ z := fun z hz => (Nur.in_int (List.all_eq_true.mp q.1.2 z hz)).1
        have ea := Nur.ofNats_of hall
        refine ⟨_, a.1.map Int.toNat, rfl, ?_, ?_, ?_, fun H' p hp => ?_⟩
        · rw [Nur.nats_ofNats, ea]
          exact hs
        · rw [List.length_map]
          exact (Codec.inNat_iff.mp q.1.1).2
        · rw [ea]
          exact hask
        · rw [ea] at hp
          exact .lst (L2.SqL.of hp) (L2.dw_ints _)

end
