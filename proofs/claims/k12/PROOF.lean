import PyProof.Rows.All
import Wide.All
import OpenK.AllK
import Wide.FinOn
import Lean
import PyProof.EqAt
import PyProof.EqKinds
import PyProof.TupleCall
import PySem.Str
import PySem.Challenge.RW_foldrows_k12_whole_narrowest
set_option Elab.async false
set_option linter.all false
set_option maxRecDepth 100000
namespace L2
open PySem PySem.Spec PyProof.Rows

/-- a key: an int or a str -/
abbrev Key := Sum Int Str
def keyIs : Key → Value → Bool
  | .inl k, v => Value.isInt k v
  | .inr x, v => Value.isStrOf x v
def keyH (w : World) : Key → Int
  | .inl k => hashInt k
  | .inr x => hashStr w x
theorem keyIs_shape : ∀ {k : Key} {v : Value}, keyIs k v = true → (∃ i t, k = Sum.inl i ∧ v = Value.int i t) ∨ (∃ x t, k = Sum.inr x ∧ v = Value.str x t)
  | .inl i, v, h => by
    obtain ⟨t, e⟩ := Value.isInt_shape (k := i) (v := v) h
    exact .inl ⟨i, t, rfl, e⟩
  | .inr x, v, h => by
    obtain ⟨t, e⟩ := Value.isStrOf_shape (x := x) (v := v) h
    exact .inr ⟨x, t, rfl, e⟩
theorem key_ll (a b : Int) : decide ((Sum.inl a : Key) = Sum.inl b) = (a == b) := by
  by_cases e : a = b
  · subst e; simp
  · have h : ¬ (Sum.inl a : Key) = Sum.inl b := fun q => e (Sum.inl.inj q)
    rw [decide_eq_false h]
    exact (beq_eq_false_iff_ne.mpr e).symm
theorem key_rr (a b : Str) : decide ((Sum.inr a : Key) = Sum.inr b) = decide (a = b) := by
  by_cases e : a = b
  · subst e; simp
  · have h : ¬ (Sum.inr a : Key) = Sum.inr b := fun q => e (Sum.inr.inj q)
    rw [decide_eq_false h, decide_eq_false e]
theorem key_lr (a : Int) (b : Str) : decide ((Sum.inl a : Key) = Sum.inr b) = false := decide_eq_false (fun q => nomatch q)
theorem key_rl (a : Str) (b : Int) : decide ((Sum.inr a : Key) = Sum.inl b) = false := decide_eq_false (fun q => nomatch q)

def mixKind (prog : Program) (w : World) : PySem.KeyKind prog w Key where
  is := keyIs
  hash := keyH w
  inj := fun v a b ha hb => by
    rcases keyIs_shape ha with ⟨i, t, rfl, rfl⟩ | ⟨x, t, rfl, rfl⟩
    · rcases keyIs_shape hb with ⟨j, u, rfl, e⟩ | ⟨y, u, rfl, e⟩
      · injection e with e1 _; rw [e1]
      · exact nomatch e
    · rcases keyIs_shape hb with ⟨j, u, rfl, e⟩ | ⟨y, u, rfl, e⟩
      · exact nomatch e
      · injection e with e1 _; rw [e1]
  byValue := fun k v h => by
    rcases keyIs_shape h with ⟨i, t, rfl, rfl⟩ | ⟨x, t, rfl, rfl⟩ <;> rfl
  pyHash := fun hv h => by
    rcases keyIs_shape hv with ⟨i, t, rfl, rfl⟩ | ⟨x, t, rfl, rfl⟩
    · exact wpAny_pyHash_int h
    · exact wpAny_pyHash_str h
  eqBool := fun hu hv h => by
    rcases keyIs_shape hu with ⟨i, t, rfl, rfl⟩ | ⟨x, t, rfl, rfl⟩
    · rcases keyIs_shape hv with ⟨j, u, rfl, rfl⟩ | ⟨y, u, rfl, rfl⟩
      · rw [key_ll] at h; exact wpAny_eqBool_int h
      · rw [key_lr] at h; exact SeqAt.EqAt.int_str i t y u _ _ _ _ h
    · rcases keyIs_shape hv with ⟨j, u, rfl, rfl⟩ | ⟨y, u, rfl, rfl⟩
      · rw [key_rl] at h; exact SeqAt.EqAt.str_int x t j u _ _ _ _ h
      · rw [key_rr] at h; exact wpAny_eqBool_str h
  «strs» := fun k x t v h => by
    rcases keyIs_shape h with ⟨i, u, rfl, e⟩ | ⟨y, u, rfl, e⟩
    · exact nomatch e
    · injection e with e1 _
      subst e1
      cases v <;> rfl

end L2

namespace L2
open PySem PySem.Spec PyProof.Rows

/-- a value, without the heap -/
inductive V where
  | non | bl (b : Bool) | int (i : Int) | str (x : Str) | byt (b : Array UInt8) | flt (b : UInt64) | ref (a : Addr) | ty (n : String)
  deriving DecidableEq

def RelV : V → Value → Prop
  | .non, u => u = Value.none
  | .bl b, u => u = Value.bool b
  | .int i, u => ∃ t, u = Value.int i t
  | .str x, u => ∃ t, u = Value.str x t
  | .byt b, u => ∃ t, u = Value.bytes b t
  | .flt b, u => ∃ t, u = Value.float b t
  | .ref a, u => u = Value.ref a
  | .ty n, u => u = Value.type n

abbrev Vals : List V → List Value → Prop := Paired RelV
theorem Vals.length {xs : List V} {us : List Value} (r : Vals xs us) : xs.length = us.length := Paired.length r
theorem Vals.get : ∀ {xs : List V} {us : List Value} {i : Nat} {x : V}, Vals xs us → xs[i]? = some x → ∃ u, us[i]? = some u ∧ RelV x u
  | _, _, _, _, .nil, e => by simp at e
  | _, _, 0, _, .cons r _, e => by simp at e; subst e; exact ⟨_, rfl, r⟩
  | _, _, i + 1, x, .cons _ t, e => by
    obtain ⟨u, h1, h2⟩ := Vals.get (i := i) (x := x) t (by simpa using e)
    exact ⟨u, by simpa using h1, h2⟩
theorem Vals.set {x : V} {u : Value} (r : RelV x u) : ∀ {xs : List V} {us : List Value} (i : Nat), Vals xs us → Vals (xs.set i x) (us.set i u)
  | _, _, _, .nil => .nil
  | _, _, 0, .cons _ t => .cons r t
  | _, _, i + 1, .cons q t => .cons q (Vals.set r i t)
theorem Vals.append : ∀ {xs ys : List V} {us ws : List Value}, Vals xs us → Vals ys ws → Vals (xs ++ ys) (us ++ ws)
  | _, _, _, _, .nil, s => s
  | _, _, _, _, .cons r t, s => .cons r (Vals.append t s)
theorem Vals.take : ∀ {xs : List V} {us : List Value} (n : Nat), Vals xs us → Vals (xs.take n) (us.take n)
  | _, _, 0, _ => .nil
  | _, _, _ + 1, .nil => .nil
  | _, _, n + 1, .cons r t => .cons r (Vals.take n t)
theorem Vals.drop : ∀ {xs : List V} {us : List Value} (n : Nat), Vals xs us → Vals (xs.drop n) (us.drop n)
  | _, _, 0, r => r
  | _, _, _ + 1, .nil => .nil
  | _, _, n + 1, .cons _ t => Vals.drop n t
theorem Vals.none_of : ∀ {xs : List V} {us : List Value} {i : Nat}, Vals xs us → xs[i]? = none → us[i]? = none := fun {xs us i} r e => by
  have h1 := r.length
  have h2 : xs.length ≤ i := List.getElem?_eq_none_iff.mp e
  exact List.getElem?_eq_none_iff.mpr (by omega)

def RelO : Option V → Option Value → Prop
  | some v, some u => RelV v u
  | none, none => True
  | _, _ => False
def KV {κ : Type} : List (κ × V) → List (κ × Value) → Prop := Paired fun (p : κ × V) (q : κ × Value) => p.1 = q.1 ∧ RelV p.2 q.2

/-- a key of a dict (00_mix): an int or a text -/
def kV : Key → V
  | .inl i => .int i
  | .inr x => .str x

/-- what stands at a tracked address -/
inductive HO where
  /-- a list -/
  | lst (xs : List V)
  /-- a tuple (never changes) -/
  | tup (xs : List V)
  /-- a dict whose keys are ints and texts; one whose keys are tuples of ints and texts (the empty one is both) -/
  | dK (kvs : List (Key × V)) | dT (kvs : List (List Key × V))
  /-- a set of ints: its members, its size -/
  | set (S : Int → Bool) (n : Nat)
  /-- an instance of the class at C, its dict at dx, its attributes -/
  | ins (C dx : Addr) (fs : List (Str × V))
  /-- the dict of the instance at x -/
  | own (x : Addr)
  /-- the dict of an exception -/
  | xd (fs : List (Str × V))
  /-- a bound method, f of x -/
  | met (f x : Addr)
  /-- a range object lo, lo + 1, .. below hi -/
  | rng (lo hi : Int)
  /-- a thing that is known to the object (the script; a dict while a loop walks it): read, never written while it is so -/
  | frz (o : Obj) (u : HO)
  /-- a code object's table -/
  | tbl (ps : Array Value)
  /-- any other thing, by what is true of its one object (a def of one's own: SetO a S n := HO.ext fun h => ..) -/
  | ext (φ : Heap → Prop)

abbrev Hp := Addr → Option HO
def upd (H : Hp) (a : Addr) (o : HO) : Hp := fun b => if b = a then some o else H b
theorem upd_same {H : Hp} {a : Addr} {o : HO} : upd H a o a = some o := by unfold upd; rw [if_pos rfl]
theorem upd_ne {H : Hp} {a b : Addr} {o : HO} (h : b ≠ a) : upd H a o b = H b := by unfold upd; rw [if_neg h]
theorem ne_of_none {H : Hp} {a b : Addr} {o : HO} (h : H a = some o) (h' : H b = none) : a ≠ b := by
  intro e; subst e; rw [h] at h'; cases h'

section
variable (P : Program) (w : World)
def ObjOk (H : Hp) (h : Heap) (a : Addr) : HO → Prop
  | .lst xs => xs.length ≤ sizeLine ∧ ∃ (its : List Value) (n : Nat), Vals xs its ∧ h.get? a = some { cls := .type "list", data := .seq its.toArray n }
  | .tup xs => xs.length ≤ sizeLine ∧ ∃ its : List Value, Vals xs its ∧ IsTup h a its.toArray
  | .dK kvs => kvs.length ≤ sizeLine ∧ (a == sysModules) = false ∧ ∃ vs, KV kvs vs ∧ h.DictOf (mixKind P w) a vs
  | .dT kvs => kvs.length ≤ sizeLine ∧ (a == sysModules) = false ∧ ∃ xs : List (List Key × Addr × Value),
      Paired (fun (p : List Key × V) (q : List Key × Addr × Value) => p.1 = q.1 ∧ H q.2.1 = some (.tup (p.1.map kV)) ∧ RelV p.2 q.2.2) kvs xs ∧
      ∃ o es ep, h.get? a = some o ∧ o.ExactDict ∧ o.data = .dict es ep ∧ es.toList = xs.map (entryOfKey (tupleKind (mixKind P w))) ∧ (xs.map (·.1)).Nodup
  | .set S n => h.SetOf (intKind P w) a S n
  | .ins C dx fs => H dx = some (.own a) ∧ fs.length ≤ 1000 ∧ dx ≠ a ∧ h.get? a = some (PySem.W.instObj C dx) ∧
      ∃ mA, h.Ns1 dx mA ∧ (∀ f, RelO (fs.lookup f) (mA f)) ∧ PySem.Within mA (fs.map (·.1))
  | .own _ => ∃ o, h.get? a = some o
  | .xd fs => ∃ mA, h.Ns1 a mA ∧ ∀ f, RelO (fs.lookup f) (mA f)
  | .rng lo hi => ∃ t u v, h.get? a = some { cls := .type "range", data := .fields #[.int lo t, .int hi u, .int 1 v] }
  | .frz o u => h.get? a = some o ∧ ObjOk H h a u
  | .tbl ps => h.get? a = some { cls := .none, data := .fields ps }
  | .met f x => h.get? a = some (PySem.W.methodObj (.ref f) (.ref x))
  | .ext φ => φ h ∧ (∃ o, h.get? a = some o) ∧ ∀ h1 h2 : Heap, φ h1 → (∀ o, h1.get? a = some o → h2.get? a = some o) → φ h2
/-- the abstract heap is held -/
def HOk (H : Hp) (h : Heap) : Prop := ∀ a o, H a = some o → ObjOk P w H h a o
end

section
variable {P : Program} {w : World} {H H' : Hp} {h h' : Heap} {a : Addr} {o : HO}
theorem ObjOk.lt (x : ObjOk P w H h a o) : a < h.objs.size := by
  cases o with
  | lst xs => obtain ⟨_, _, _, _, e⟩ := x; exact Heap.lt_size e
  | tup xs => obtain ⟨_, _, _, p⟩ := x; exact p.lt
  | dK kvs => obtain ⟨_, _, _, _, o, _, _, e, _⟩ := x; exact Heap.lt_size e
  | dT kvs => obtain ⟨_, _, _, _, o, _, _, e, _⟩ := x; exact Heap.lt_size e
  | set S n => obtain ⟨o, _, _, _, e, _⟩ := x; exact Heap.lt_size e
  | ins C dx fs => obtain ⟨_, _, _, e, _⟩ := x; exact Heap.lt_size e
  | own y => obtain ⟨_, e⟩ := x; exact Heap.lt_size e
  | xd fs => obtain ⟨_, ⟨_, _, _, e, _⟩, _⟩ := x; exact Heap.lt_size e
  | rng lo hi => obtain ⟨_, _, _, e⟩ := x; exact Heap.lt_size e
  | frz ob u => obtain ⟨e, _⟩ := x; exact Heap.lt_size e
  | tbl ps => exact Heap.lt_size (show h.get? a = some _ from x)
  | met f y => exact Heap.lt_size (show h.get? a = some _ from x)
  | ext φ => obtain ⟨_, ⟨_, e⟩, _⟩ := x; exact Heap.lt_size e
theorem Paired.mapP {α β : Type} {F G : α → β → Prop} : ∀ {l₁ : List α} {l₂ : List β}, Paired F l₁ l₂ → (∀ a b, F a b → G a b) → Paired G l₁ l₂
  | _, _, .nil, _ => .nil
  | _, _, .cons r t, f => .cons (f _ _ r) (Paired.mapP t f)
/-- what an object's description leans on: its own object, its own dict, the tuples -/
theorem ObjOk.stay (x : ObjOk P w H h a o) (k : ∀ b u, (b = a ∨ H b = some (.own a)) → h.get? b = some u → h'.get? b = some u)
    (ho : ∀ b, H b = some (.own a) → H' b = some (.own a)) (ht : ∀ b xs, H b = some (.tup xs) → H' b = some (.tup xs)) : ObjOk P w H' h' a o := by
  induction o with
  | lst xs => obtain ⟨z, its, n, r, e⟩ := x; exact ⟨z, its, n, r, k _ _ (.inl rfl) e⟩
  | tup xs => obtain ⟨z, its, r, ob, e, c⟩ := x; exact ⟨z, its, r, ob, k _ _ (.inl rfl) e, c⟩
  | dK kvs => obtain ⟨z, y, vs, r, ob, es, ep, e, c⟩ := x; exact ⟨z, y, vs, r, ob, es, ep, k _ _ (.inl rfl) e, c⟩
  | dT kvs =>
    obtain ⟨z, y, xs, r, ob, es, ep, e, c⟩ := x
    exact ⟨z, y, xs, Paired.mapP r fun p q z => ⟨z.1, ht _ _ z.2.1, z.2.2⟩, ob, es, ep, k _ _ (.inl rfl) e, c⟩
  | set S n => obtain ⟨ob, es, ep, t, e, c⟩ := x; exact ⟨ob, es, ep, t, k _ _ (.inl rfl) e, c⟩
  | ins C dx fs =>
    obtain ⟨d, z, ne, e, mA, ⟨od, es, ep, e2, c⟩, r⟩ := x
    exact ⟨ho _ d, z, ne, k _ _ (.inl rfl) e, mA, ⟨od, es, ep, k _ _ (.inr d) e2, c⟩, r⟩
  | own y => obtain ⟨ob, e⟩ := x; exact ⟨ob, k _ _ (.inl rfl) e⟩
  | xd fs => obtain ⟨mA, ⟨od, es, ep, e, c⟩, r⟩ := x; exact ⟨mA, ⟨od, es, ep, k _ _ (.inl rfl) e, c⟩, r⟩
  | rng lo hi => obtain ⟨t, u, v, e⟩ := x; exact ⟨t, u, v, k _ _ (.inl rfl) e⟩
  | frz ob u ih => obtain ⟨e, q⟩ := x; exact ⟨k _ _ (.inl rfl) e, ih q⟩
  | tbl ps =>
    have e : h.get? a = some { cls := .none, data := .fields ps } := x
    show h'.get? a = some { cls := .none, data := .fields ps }
    exact k a _ (.inl rfl) e
  | met f y =>
    have e : h.get? a = some (PySem.W.methodObj (.ref f) (.ref y)) := x
    show h'.get? a = some (PySem.W.methodObj (.ref f) (.ref y))
    exact k a _ (.inl rfl) e
  | ext φ => obtain ⟨p, ⟨o, e⟩, st⟩ := x; exact ⟨st _ _ p fun o q => k _ _ (.inl rfl) q, ⟨o, k _ _ (.inl rfl) e⟩, st⟩
theorem HOk.lt (x : HOk P w H h) (e : H a = some o) : a < h.objs.size := (x a o e).lt
theorem HOk.fresh (x : HOk P w H h) (e : h.objs.size ≤ a) : H a = none := by
  cases q : H a with
  | none => rfl
  | some u => exact absurd (Nat.lt_of_lt_of_le (x.lt q) e) (Nat.lt_irrefl _)
/-- every object of the heap is kept -/
theorem HOk.kept (x : HOk P w H h) (k : ∀ b u, h.get? b = some u → h'.get? b = some u) : HOk P w H h' := fun a o e =>
  (x a o e).stay (fun b u _ q => k b u q) (fun _ q => q) fun _ _ q => q
/-- a new object is laid and tracked -/
theorem HOk.laid (x : HOk P w H h) (k : ∀ b u, h.get? b = some u → h'.get? b = some u) (hp : h.objs.size ≤ a) (new : ObjOk P w (upd H a o) h' a o) : HOk P w (upd H a o) h' := fun b u e => by
  have hn := x.fresh hp
  by_cases hb : b = a
  · subst hb; rw [upd_same] at e; cases e; exact new
  · rw [upd_ne hb] at e
    exact (x b u e).stay (fun c v _ q => k c v q) (fun c q => by rw [upd_ne (ne_of_none q hn)]; exact q) fun c xs q => by rw [upd_ne (ne_of_none q hn)]; exact q
end

/-- what may be read as u: it is u, or a known u -/
def Rd (H : Hp) (a : Addr) (u : HO) : Prop := H a = some u ∨ ∃ o, H a = some (.frz o u)
theorem Rd.of {H : Hp} {a : Addr} {u : HO} (h : H a = some u) : Rd H a u := .inl h
theorem Rd.ok {P : Program} {w : World} {H : Hp} {h : Heap} {a : Addr} {u : HO} (r : Rd H a u) (x : HOk P w H h) : ObjOk P w H h a u := by
  rcases r with r | ⟨o, r⟩
  · exact x a u r
  · obtain ⟨_, q⟩ := x a _ r
    exact q
/-- what may be written -/
def Mut : Option HO → Prop
  | some (.lst _) => True
  | some (.dK _) => True
  | some (.dT _) => True
  | some (.set _ _) => True
  | some (.ins _ _ _) => True
  | some (.ext _) => True
  | _ => False
section
variable {P : Program} {w : World} {H : Hp} {h h' : Heap} {x e : Addr} {o' : HO}
/-- the object at e is changed: x itself, or the dict of the instance x -/
theorem HOk.write (ok : HOk P w H h) (mu : Mut (H x)) (he : e = x ∨ H e = some (.own x)) (k : ∀ b u, b ≠ e → h.get? b = some u → h'.get? b = some u) (heo : ∃ u, h'.get? e = some u)
    (new : ObjOk P w (upd H x o') h' x o') : HOk P w (upd H x o') h' := fun b u q => by
  have nown : ∀ c y, H c = some (.own y) → c ≠ x := fun c y r z => by subst z; rw [r] at mu; exact mu
  have ntup : ∀ c xs, H c = some (.tup xs) → c ≠ x := fun c xs r z => by subst z; rw [r] at mu; exact mu
  by_cases hb : b = x
  · subst hb; rw [upd_same] at q; cases q; exact new
  · rw [upd_ne hb] at q
    by_cases hbe : b = e
    · have q' : H b = some (.own x) := by
        rcases he with z | z
        · exact absurd (hbe.trans z) hb
        · rw [hbe]; exact z
      rw [q] at q'; cases q'
      obtain ⟨v, hv⟩ := heo
      exact ⟨v, by rw [hbe]; exact hv⟩
    · refine (ok b u q).stay (fun c v hc r => k c v ?_ r) (fun c r => by rw [upd_ne (nown c b r)]; exact r) fun c xs r => by rw [upd_ne (ntup c xs r)]; exact r
      rcases hc with rfl | hc
      · exact hbe
      · rintro rfl
        rcases he with z | z
        · exact nown c b hc z
        · rw [hc] at z; cases z; exact hb rfl
end

/-! ### kept unless tracked; of the frames at fs (the callers') the slots may change (an exception that passes writes there); of the records at ex (iterators) nothing is said -/
structure Un (fs ex : List Addr) (H H' : Hp) (h h' : Heap) : Prop where
  keep : ∀ b o, h.get? b = some o → H b = none → b ∉ fs → b ∉ ex → h'.get? b = some o
  slot : ∀ b o, h.get? b = some o → H b = none → b ∈ fs → b ∉ ex → ∃ sl, h'.get? b = some { o with slots := sl }
  free : ∀ b o, h.get? b = some o → H b = none → b ∉ ex → H' b = none
  there : ∀ b o, h.get? b = some o → b ∉ ex → ∃ o', h'.get? b = some o'
  tups : ∀ b xs, H b = some (.tup xs) → H' b = some (.tup xs)
  frzs : ∀ b o u, H b = some (.frz o u) → H' b = some (.frz o u)
  tbls : ∀ b ps, H b = some (.tbl ps) → ∃ more, H' b = some (.tbl (ps ++ more))
section
variable {fs fs' ex ex' : List Addr} {H H1 H2 : Hp} {h h1 h2 h' : Heap} {a x e : Addr} {o : HO}
theorem Un.any (u : Un fs ex H H1 h h1) {b : Addr} {ob : Obj} (q : h.get? b = some ob) (n : H b = none) (hx : b ∉ ex) : ∃ sl, h1.get? b = some { ob with slots := sl } := by
  by_cases hb : b ∈ fs
  · exact u.slot b ob q n hb hx
  · exact ⟨ob.slots, u.keep b ob q n hb hx⟩
theorem Un.trans (a : Un fs ex H H1 h h1) (b : Un fs ex H1 H2 h1 h2) : Un fs ex H H2 h h2 where
  keep := fun c ob q n hc hx => b.keep c ob (a.keep c ob q n hc hx) (a.free c ob q n hx) hc hx
  slot := fun c ob q n hc hx => by
    obtain ⟨sl, e1⟩ := a.slot c ob q n hc hx
    obtain ⟨sl', e2⟩ := b.slot c _ e1 (a.free c ob q n hx) hc hx
    exact ⟨sl', e2⟩
  free := fun c ob q n hx => by
    obtain ⟨o', e1⟩ := a.there c ob q hx
    exact b.free c o' e1 (a.free c ob q n hx) hx
  there := fun c ob q hx => by
    obtain ⟨o', e1⟩ := a.there c ob q hx
    exact b.there c o' e1 hx
  tups := fun c xs q => b.tups c xs (a.tups c xs q)
  frzs := fun c ob xs q => b.frzs c ob xs (a.frzs c ob xs q)
  tbls := fun c ps q => by
    obtain ⟨m1, e1⟩ := a.tbls c ps q
    obtain ⟨m2, e2⟩ := b.tbls c _ e1
    exact ⟨m1 ++ m2, by rw [e2, Array.append_assoc]⟩
theorem Un.kept (k : ∀ b u, h.get? b = some u → h'.get? b = some u) : Un fs ex H H h h' :=
  ⟨fun b ob q _ _ _ => k b ob q, fun b ob q _ _ _ => ⟨ob.slots, k b ob q⟩, fun _ _ _ n _ => n, fun b ob q _ => ⟨ob, k b ob q⟩, fun _ _ q => q, fun _ _ _ q => q, fun _ ps q => ⟨#[], by rw [q]; simp⟩⟩
theorem Un.refl : Un fs ex H H h h := Un.kept fun _ _ q => q
theorem Un.laid (k : ∀ b u, h.get? b = some u → h'.get? b = some u) (hp : h.objs.size ≤ a) (hn : H a = none) : Un fs ex H (upd H a o) h h' where
  keep := fun b u q _ _ _ => k b u q
  slot := fun b u q _ _ _ => ⟨u.slots, k b u q⟩
  free := fun b u q n _ => by rw [upd_ne (Nat.ne_of_lt (Nat.lt_of_lt_of_le (Heap.lt_size q) hp))]; exact n
  there := fun b u q _ => ⟨u, k b u q⟩
  tups := fun b xs q => by rw [upd_ne (ne_of_none q hn)]; exact q
  frzs := fun b u xs q => by rw [upd_ne (ne_of_none q hn)]; exact q
  tbls := fun b ps q => ⟨#[], by rw [upd_ne (ne_of_none q hn), q]; simp⟩
theorem Un.write (mu : Mut (H x)) (he : e = x ∨ H e = some (.own x)) (k : ∀ b u, b ≠ e → h.get? b = some u → h'.get? b = some u) (heo : ∃ u, h'.get? e = some u) : Un fs ex H (upd H x o) h h' := by
  have hx : ∀ b, H b = none → b ≠ x := fun b n z => by subst z; rw [n] at mu; exact mu
  have hb : ∀ b, H b = none → b ≠ e := fun b n z => by
    subst z
    rcases he with r | r
    · exact hx b n r
    · rw [n] at r; cases r
  have hm : ∀ b u, H b = some u → ¬ Mut (some u) → b ≠ x := fun b u q nm z => by subst z; rw [q] at mu; exact nm mu
  refine ⟨fun b u q n _ _ => k b u (hb b n) q, fun b u q n _ _ => ⟨u.slots, k b u (hb b n) q⟩, fun b u q n _ => by rw [upd_ne (hx b n)]; exact n, fun b u q _ => ?_,
    fun b xs q => by rw [upd_ne (hm b _ q fun z => z)]; exact q, fun b u xs q => by rw [upd_ne (hm b _ q fun z => z)]; exact q, fun b ps q => ⟨#[], by rw [upd_ne (hm b _ q fun z => z), q]; simp⟩⟩
  by_cases hbe : b = e
  · subst hbe; exact heo
  · exact ⟨u, k b u hbe q⟩
theorem Un.mono (u : Un fs ex H H1 h h1) (hs : ∀ b ∈ fs, b ∈ fs') (hx : ∀ b ∈ ex, b ∈ ex') : Un fs' ex' H H1 h h1 :=
  ⟨fun b ob q n hb he => u.keep b ob q n (fun z => hb (hs b z)) fun z => he (hx b z), fun _ _ q n _ he => u.any q n fun z => he (hx _ z), fun b ob q n he => u.free b ob q n fun z => he (hx b z), fun b ob q he => u.there b ob q fun z => he (hx b z), u.tups, u.frzs, u.tbls⟩
end

/-! ### the heap without what is tracked -/
def trk (h : Heap) (H : Hp) : List Addr := (List.range h.objs.size).filter fun a => (H a).isSome
def hidT (h : Heap) (H : Hp) : Heap := PySem.W.hideAll h (trk h H)
theorem hidT_size (h : Heap) (H : Hp) : (hidT h H).objs.size = h.objs.size := PySem.W.hideAll_size _ _
theorem hidT_get {h : Heap} {H : Hp} {b : Addr} {o : Obj} (e : h.get? b = some o) (n : H b = none) : (hidT h H).get? b = some o :=
  PySem.W.hideAll_get _ e fun hm => by
    have q : (H b).isSome = true := (List.mem_filter.mp hm).2
    rw [n] at q; simp at q
theorem of_hidT {h : Heap} {H : Hp} {b : Addr} {o : Obj} (e : (hidT h H).get? b = some o) : h.get? b = some o ∧ H b = none := by
  have e' : h.get? b = some o := PySem.W.of_hideAll (trk h H) e
  refine ⟨e', ?_⟩
  cases q : H b with
  | none => rfl
  | some x =>
    have hm : b ∈ trk h H := List.mem_filter.mpr ⟨List.mem_range.mpr (Heap.lt_size e'), by simp [q]⟩
    have z : (hidT h H).get? b = none := PySem.W.hideAll_none (trk h H) hm
    rw [z] at e; cases e

/-! ### OpenK's ledger, filled with every new object but one -/
def allNews (g h : Heap) (L : Addr) : List (Addr × Obj) := (List.range h.objs.size).filterMap fun a => if a = L ∨ (g.get? a).isSome = true then none else (h.get? a).map fun o => (a, o)
def rest (g h : Heap) (L d : Addr) : List (Addr × Obj) := (allNews g h L).filter fun p => decide (p.1 ≠ d)
end L2

namespace L2
open PySem PySem.Spec PyProof.Rows

/-- the module's facts, over the base: the heap at the law's entry without what is tracked there -/
structure Mod (K : PySem.W.Frag) (mg : Str → Option Value) (base : Heap) : Prop where
  kin : K.In base
  glob : base.Ns mainGlobals mg
  blt : ∃ mb, base.Ns builtinsNs mb ∧ ∀ x : Str, x ≠ "__name__" → mb x = bootBuiltins x
  nolimit : base.NoLimit

/-- the context: a def's body (or a comprehension's block) running. base: fixed through the whole law; s₀, H₀: the entry; outer: the frames whose slots others may change (a def's callers); stack: all frames that run;
   ex: iterators that were made ahead of the entry and are walked here (a comprehension's); fn: the names whose cells were made at the entry (a def: all; a comprehension's block: its own); calm: not within an except suite; pn: pins that every state bears; xe: what is wanted of an exception that leaves the code -/
structure Cx where
  prog : Program
  w : World
  K : PySem.W.Frag
  mg : Str → Option Value
  base : Heap
  A : Around
  N : List Str
  s₀ : Shared
  H₀ : Hp
  env : Env
  outer : List Env
  stack : List Env
  ex : List Addr
  fn : Str → Bool
  calm : Bool
  pn : List (Addr × Obj)
  xe : Value → Shared → Prop
/-- the callers' frames -/
def frs (l : List Env) : List Addr := l.filterMap (·.frame)
abbrev Cx.fs (X : Cx) : List Addr := frs X.outer

def Vis (sc : Scope) (x : Str) : Prop := sc.names.lookup x = some .local ∨ sc.names.lookup x = some .cell ∨ sc.names.lookup x = some .free
def Loc (sc : Scope) (x : Str) : Prop := sc.names.lookup x = some .local ∨ sc.names.lookup x = some .cell
def Look (env : Env) (h : Heap) (m : Str → Option Value) (x : Str) (u : Value) : Prop :=
  (env.kindOf x = some .local ∧ m x = some u) ∨ ((env.kindOf x = some .cell ∨ env.kindOf x = some .free) ∧ ∃ c, env.cells.lookup x = some c ∧ h.IsCell c (some u))

structure Cx.Ok (X : Cx) : Prop where
  mod : Mod X.K X.mg X.base
  kind : X.env.scope.kind = .function
  glob : X.env.globals = mainGlobals
  blt : X.env.builtins = builtinsNs
  above : X.s₀.heap.objs.size ≤ X.env.locals
  inj : ∀ x y c, X.env.cells.lookup x = some c → X.env.cells.lookup y = some c → x = y
  has : ∀ x, (X.env.kindOf x = some .cell ∨ X.env.kindOf x = some .free) → ∃ c, X.env.cells.lookup x = some c
  cab : ∀ x c, X.fn x = true → X.env.cells.lookup x = some c → X.s₀.heap.objs.size ≤ c
  hd : X.calm = true → X.A.handled = none
  frames : X.A.frames = some X.stack
  stk : X.stack = X.outer ∨ (X.stack = X.env :: X.outer ∧ X.env.frame = some X.env.locals)
  exf : ∀ b ∈ X.ex, b ≠ X.env.locals ∧ ∀ x c, X.env.cells.lookup x = some c → c ≠ b
  bs : ∀ b o, X.base.get? b = some o → X.s₀.heap.get? b = some o ∧ X.H₀ b = none
  bsz : X.base.objs.size ≤ X.s₀.heap.objs.size
  noex : ∀ b o, X.base.get? b = some o → b ∉ X.ex
  exfs : ∀ b ∈ X.ex, b ∉ X.fs
  funs : X.s₀.heap.FunFrames X.base X.outer
  frf : ∀ b ∈ X.fs, X.H₀ b = none

structure Inv (X : Cx) (pins : List (Addr × Obj)) (σ : List (Option V)) (H : Hp) (s : Shared) : Prop where
  ok : X.Ok
  os : s.os = X.s₀.os
  bare : AllBare s.gens
  base : Un X.fs X.ex X.H₀ H X.s₀.heap s.heap
  loc : ∃ m, s.heap.Ns X.env.locals m ∧ ∀ (i : Nat) (x : Str) (v : V), X.N[i]? = some x → σ[i]? = some (some v) → Vis X.env.scope x → ∃ u, RelV v u ∧ Look X.env s.heap m x u
  cell : ∀ x c, X.env.cells.lookup x = some c → ∃ v, s.heap.IsCell c v
  free : H X.env.locals = none
  freeC : ∀ x c, X.env.cells.lookup x = some c → H c = none
  pin : ∀ p ∈ X.pn ++ pins, s.heap.get? p.1 = some p.2 ∧ H p.1 = none ∧ p.1 ≠ X.env.locals ∧ p.1 ∉ X.fs ∧ ∀ v, p.2.data ≠ .cell v
  hok : HOk X.prog X.w H s.heap
  len : σ.length = X.N.length

section
variable {X : Cx} {pins : List (Addr × Obj)} {σ : List (Option V)} {H H' : Hp} {s : Shared} {h' : Heap}

theorem Cx.Ok.nofr (ok : X.Ok) {b : Addr} {o : Obj} (e : X.base.get? b = some o) : b ∉ X.fs := fun hb => by
  have := (ok.funs.mem hb).1
  rw [e] at this; cases this
theorem Inv.bs (I : Inv X pins σ H s) : ∀ b o, X.base.get? b = some o → s.heap.get? b = some o ∧ H b = none := fun b o e =>
  ⟨I.base.keep b o (I.ok.bs b o e).1 (I.ok.bs b o e).2 (I.ok.nofr e) (I.ok.noex b o e), I.base.free b o (I.ok.bs b o e).1 (I.ok.bs b o e).2 (I.ok.noex b o e)⟩
theorem Inv.bk (I : Inv X pins σ H s) : ∀ b o, X.base.get? b = some o → s.heap.get? b = some o := fun b o e => (I.bs b o e).1
theorem Inv.mod (I : Inv X pins σ H s) : Mod X.K X.mg X.base := I.ok.mod
theorem Inv.kIn (I : Inv X pins σ H s) : X.K.In s.heap := I.ok.mod.kin.keeps I.bk
theorem Inv.nolimit (I : Inv X pins σ H s) : s.heap.NoLimit := I.ok.mod.nolimit.keeps I.bk
/-- the frame over the base: for OpenK's rules (K.In X.base is I.mod.kin) -/
theorem Inv.fr (I : Inv X pins σ H s) : ∃ m, Fr X.base X.env.locals s.heap m :=
  let ⟨m, hn, _⟩ := I.loc
  ⟨m, hn, I.bk, Nat.le_trans I.ok.bsz I.ok.above⟩
theorem Inv.lt (I : Inv X pins σ H s) : X.env.locals < s.heap.objs.size := let ⟨_, hn, _⟩ := I.loc; hn.lt
theorem Inv.sz (I : Inv X pins σ H s) : X.s₀.heap.objs.size ≤ s.heap.objs.size := Nat.le_trans I.ok.above (Nat.le_of_lt I.lt)
theorem Inv.nofs (I : Inv X pins σ H s) {a : Addr} (h : s.heap.objs.size ≤ a) : a ∉ X.fs := fun hb => by
  obtain ⟨_, o, ho, _⟩ := I.ok.funs.mem hb
  exact absurd (Nat.lt_of_lt_of_le (Heap.lt_size ho) (Nat.le_trans I.sz h)) (Nat.lt_irrefl _)
theorem Inv.cne (I : Inv X pins σ H s) : ∀ x c, X.env.cells.lookup x = some c → c ≠ X.env.locals := fun x c e z => by
  obtain ⟨v, o, ho, hd⟩ := I.cell x c e
  obtain ⟨m, ⟨o', es, ep, ho', hd', _⟩, _⟩ := I.loc
  rw [z, ho'] at ho; cases ho; rw [hd'] at hd; cases hd
theorem Inv.funs (I : Inv X pins σ H s) : s.heap.FunFrames X.base X.outer := by
  have all : ∀ (l : List Env), (∀ b ∈ frs l, b ∈ X.fs) → X.s₀.heap.FunFrames X.base l → s.heap.FunFrames X.base l := by
    intro l
    induction l with
    | nil => intro _ _; trivial
    | cons env r ih =>
      intro hs hl
      obtain ⟨hk, ⟨L, o, hf, hn, ho, hd⟩, hr⟩ := hl
      have hL : L ∈ X.fs := hs L (by unfold frs; rw [List.filterMap_cons, hf]; exact List.mem_cons_self)
      obtain ⟨sl, e⟩ := I.base.slot L o ho (I.ok.frf L hL) hL fun z => I.ok.exfs L z hL
      exact ⟨hk, ⟨L, _, hf, hn, e, hd⟩, ih (fun b hb => hs b (by unfold frs; rw [List.filterMap_cons, hf]; exact List.mem_cons_of_mem _ hb)) hr⟩
  exact all X.outer (fun _ hb => hb) I.ok.funs

/-- the frames that run, for a call -/
theorem Inv.stack (I : Inv X pins σ H s) : s.heap.FunFrames X.base X.stack := by
  rcases I.ok.stk with e | ⟨e, hf⟩
  · rw [e]; exact I.funs
  · rw [e]
    obtain ⟨m, hn, _⟩ := I.loc
    refine .cons (by rw [I.ok.kind]; decide) hf hn ?_ I.funs
    exact Heap.get?_none_of_le (Nat.le_trans I.ok.bsz I.ok.above)
theorem Inv.stkSub (I : Inv X pins σ H s) : ∀ b ∈ frs X.stack, b ∈ X.env.locals :: X.fs := fun b hb => by
  rcases I.ok.stk with e | ⟨e, hf⟩
  · rw [e] at hb; exact List.mem_cons_of_mem _ hb
  · rw [e] at hb
    unfold frs at hb
    rw [List.filterMap_cons, hf] at hb
    exact hb
theorem Inv.stkFree (I : Inv X pins σ H s) : ∀ b ∈ frs X.stack, H b = none := fun b hb => by
  rcases List.mem_cons.mp (I.stkSub b hb) with e | hb
  · rw [e]; exact I.free
  · obtain ⟨_, o, ho, _⟩ := I.ok.funs.mem hb
    exact I.base.free b o ho (I.ok.frf b hb) fun z => I.ok.exfs b z hb

/-- THE STEP: the untracked objects but the frame and the records at ch are kept (the callers' frames up to slots), the frame's map is kept, the new abstract heap is held -/
theorem Inv.step {g' : Array GenState} {t' : Nat} {d' : Drawn} {ch : List Addr} (I : Inv X pins σ H s)
    (hch : ∀ b ∈ ch, (b ∈ X.ex ∨ X.s₀.heap.objs.size ≤ b) ∧ b ≠ X.env.locals ∧ (∀ x c, X.env.cells.lookup x = some c → c ≠ b) ∧ ∀ p ∈ X.pn ++ pins, p.1 ≠ b)
    (keep : ∀ b o, b ≠ X.env.locals → b ∉ X.fs → b ∉ ch → s.heap.get? b = some o → H b = none → h'.get? b = some o)
    (slot : ∀ b o, b ≠ X.env.locals → b ∈ X.fs → b ∉ ch → s.heap.get? b = some o → H b = none → ∃ sl, h'.get? b = some { o with slots := sl }) (free : ∀ b o, b ∉ ch → s.heap.get? b = some o → H b = none → H' b = none)
    (there : ∀ b o, b ∉ ch → s.heap.get? b = some o → ∃ o', h'.get? b = some o')
    (tups : ∀ b xs, H b = some (.tup xs) → H' b = some (.tup xs)) (frzs : ∀ b o u, H b = some (.frz o u) → H' b = some (.frz o u)) (tbls : ∀ b ps, H b = some (.tbl ps) → ∃ more, H' b = some (.tbl (ps ++ more)))
    (ns : ∀ m, s.heap.Ns X.env.locals m → h'.Ns X.env.locals m) (hok : HOk X.prog X.w H' h') (hg : AllBare g') :
    Inv X pins σ H' { s with heap := h', gens := g', drawn := d', toks := t' } := by
  have neL : ∀ b o, X.s₀.heap.get? b = some o → b ≠ X.env.locals := fun b o e => Nat.ne_of_lt (Nat.lt_of_lt_of_le (Heap.lt_size e) I.ok.above)
  have neC : ∀ b o, X.s₀.heap.get? b = some o → b ∉ X.ex → b ∉ ch := fun b o e hx hb => by
    rcases (hch b hb).1 with z | z
    · exact hx z
    · exact absurd (Nat.lt_of_lt_of_le (Heap.lt_size e) z) (Nat.lt_irrefl _)
  have cellK : ∀ x c, X.env.cells.lookup x = some c → ∀ v, s.heap.IsCell c v → h'.IsCell c v := fun x c e v ⟨o, ho, hd⟩ => by
    have nch : c ∉ ch := fun z => (hch c z).2.2.1 x c e rfl
    by_cases hc : c ∈ X.fs
    · obtain ⟨sl, q⟩ := slot c o (I.cne x c e) hc nch ho (I.freeC x c e)
      exact ⟨_, q, hd⟩
    · exact ⟨o, keep c o (I.cne x c e) hc nch ho (I.freeC x c e), hd⟩
  refine ⟨I.ok, I.os, hg, ⟨fun b o e n hb hx => ?_, fun b o e n hb hx => ?_, fun b o e n hx => ?_, fun b o e hx => ?_, fun b xs e => tups b xs (I.base.tups b xs e), fun b o xs e => frzs b o xs (I.base.frzs b o xs e), fun b ps e => ?_⟩, ?_, fun x c e => ?_, ?_, fun x c e => ?_, fun p hp => ?_, hok, I.len⟩
  · exact keep b o (neL b o e) hb (neC b o e hx) (I.base.keep b o e n hb hx) (I.base.free b o e n hx)
  · obtain ⟨sl, e1⟩ := I.base.slot b o e n hb hx
    obtain ⟨sl', e2⟩ := slot b _ (neL b o e) hb (neC b o e hx) e1 (I.base.free b o e n hx)
    exact ⟨sl', e2⟩
  · obtain ⟨o', e1⟩ := I.base.there b o e hx
    exact free b o' (neC b o e hx) e1 (I.base.free b o e n hx)
  · obtain ⟨o', e1⟩ := I.base.there b o e hx
    exact there b o' (neC b o e hx) e1
  · obtain ⟨m1, e1⟩ := I.base.tbls b ps e
    obtain ⟨m2, e2⟩ := tbls b _ e1
    exact ⟨m1 ++ m2, by rw [e2, Array.append_assoc]⟩
  · obtain ⟨m, hn, hl⟩ := I.loc
    refine ⟨m, ns m hn, fun i x v e1 e2 e3 => ?_⟩
    obtain ⟨u, r, l⟩ := hl i x v e1 e2 e3
    refine ⟨u, r, ?_⟩
    rcases l with l | ⟨k, c, e, z⟩
    · exact .inl l
    · exact .inr ⟨k, c, e, cellK x c e _ z⟩
  · obtain ⟨v, z⟩ := I.cell x c e
    exact ⟨v, cellK x c e v z⟩
  · obtain ⟨m, ⟨o, _, _, ho, _⟩, _⟩ := I.loc
    exact free _ o (fun z => (hch _ z).2.1 rfl) ho I.free
  · obtain ⟨v, o, ho, hd⟩ := I.cell x c e
    exact free c o (fun z => (hch c z).2.2.1 x c e rfl) ho (I.freeC x c e)
  · obtain ⟨e, n, ne, nf, d⟩ := I.pin p hp
    have nch : p.1 ∉ ch := fun z => (hch p.1 z).2.2.2 p hp rfl
    exact ⟨keep p.1 p.2 ne nf nch e n, free p.1 p.2 nch e n, ne, nf, d⟩
/-- .. where the frame's own object is kept too -/
theorem Inv.un {t' : Nat} (I : Inv X pins σ H s) (u : Un X.fs [] H H' s.heap h') (hok : HOk X.prog X.w H' h') : Inv X pins σ H' { s with heap := h', toks := t' } := by
  obtain ⟨m, ⟨o, es, ep, ho, r⟩, _⟩ := id I.loc
  obtain ⟨sl, hL⟩ := u.any ho I.free (by simp)
  exact I.step (g' := s.gens) (d' := s.drawn) (ch := []) (fun _ z => nomatch z) (fun b o _ hb _ e n => u.keep b o e n hb (by simp)) (fun b o _ hb _ e n => u.slot b o e n hb (by simp)) (fun b o _ e n => u.free b o e n (by simp)) (fun b o _ e => u.there b o e (by simp)) u.tups u.frzs u.tbls (fun m' hm => by
    obtain ⟨o', es', ep', ho', r'⟩ := hm
    rw [ho] at ho'; cases ho'
    exact ⟨_, es', ep', hL, r'⟩) hok I.bare
/-- behind a call (or a comprehension's block): the slots of this frame may have changed too, the records at ch may have turned -/
theorem Inv.call {g' : Array GenState} {t' : Nat} {d' : Drawn} {ch : List Addr} (I : Inv X pins σ H s) (u : Un (frs X.stack) ch H H' s.heap h') (hok : HOk X.prog X.w H' h') (hg : AllBare g')
    (hch : ∀ b ∈ ch, (b ∈ X.ex ∨ X.s₀.heap.objs.size ≤ b) ∧ b ≠ X.env.locals ∧ (∀ x c, X.env.cells.lookup x = some c → c ≠ b) ∧ ∀ p ∈ X.pn ++ pins, p.1 ≠ b) :
    Inv X pins σ H' { s with heap := h', gens := g', drawn := d', toks := t' } := by
  obtain ⟨m, ⟨o, es, ep, ho, r⟩, _⟩ := id I.loc
  obtain ⟨sl, hL⟩ := u.any ho I.free fun z => (hch _ z).2.1 rfl
  exact I.step (ch := ch) hch (fun b o hL hb hc e n => u.keep b o e n (fun z => (List.mem_cons.mp (I.stkSub b z)).elim hL hb) hc) (fun b o _ _ hc e n => u.any e n hc) (fun b o hc e n => u.free b o e n hc) (fun b o hc e => u.there b o e hc) u.tups u.frzs u.tbls (fun m' hm => by
    obtain ⟨o', es', ep', ho', r'⟩ := hm
    rw [ho] at ho'; cases ho'
    exact ⟨_, es', ep', hL, r'⟩) hok hg
/-- an untracked record of ours (an iterator) has turned -/
theorem Inv.turned {t' : Nat} {it : Addr} (I : Inv X pins σ H s) (k : ∀ b o, b ≠ it → s.heap.get? b = some o → h'.get? b = some o) (hn : H it = none) (hL : it ≠ X.env.locals)
    (h1 : it ∈ X.ex ∨ X.s₀.heap.objs.size ≤ it) (h2 : ∀ x c, X.env.cells.lookup x = some c → c ≠ it) (h3 : ∀ p ∈ X.pn ++ pins, p.1 ≠ it) : Inv X pins σ H { s with heap := h', toks := t' } := by
  have nit : ∀ b u, H b = some u → b ≠ it := fun b u e z => by rw [z, hn] at e; cases e
  refine I.step (g' := s.gens) (d' := s.drawn) (ch := [it]) (fun b hb => ?_) (fun b o _ _ hc e _ => k b o (fun z => hc (by simp [z])) e) (fun b o _ _ hc e _ => ⟨o.slots, k b o (fun z => hc (by simp [z])) e⟩) (fun _ _ _ _ n => n)
    (fun b o hc e => ⟨o, k b o (fun z => hc (by simp [z])) e⟩) (fun _ _ e => e) (fun _ _ _ e => e) (fun b ps e => ⟨#[], by rw [e]; simp⟩) (fun m hm => ?_) (fun b u e => ?_) I.bare
  · have e : b = it := by simpa using hb
    subst e
    exact ⟨h1, hL, h2, h3⟩
  · obtain ⟨o, es, ep, ho, r⟩ := hm
    exact ⟨o, es, ep, k _ o (Ne.symm hL) ho, r⟩
  · refine (I.hok b u e).stay (fun c v hc q => k c v ?_ q) (fun _ q => q) fun _ _ q => q
    rcases hc with z | z
    · rw [z]; exact nit b u e
    · exact nit c _ z
theorem Inv.tok (I : Inv X pins σ H s) (t : Nat) : Inv X pins σ H { s with toks := t } := I.un (h' := s.heap) (t' := t) Un.refl I.hok
/-- all objects kept -/
theorem Inv.kept {t' : Nat} (I : Inv X pins σ H s) (k : ∀ b u, s.heap.get? b = some u → h'.get? b = some u) : Inv X pins σ H { s with heap := h', toks := t' } := I.un (Un.kept k) (I.hok.kept k)
/-- a new object laid and tracked -/
theorem Inv.laid {a : Addr} {o : HO} {t' : Nat} (I : Inv X pins σ H s) (k : ∀ b u, s.heap.get? b = some u → h'.get? b = some u) (hp : s.heap.objs.size ≤ a) (new : ObjOk X.prog X.w (upd H a o) h' a o) :
    Inv X pins σ (upd H a o) { s with heap := h', toks := t' } := I.un (Un.laid k hp (I.hok.fresh hp)) (I.hok.laid k hp new)
/-- an object written -/
theorem Inv.write {x e : Addr} {o : HO} {t' : Nat} (I : Inv X pins σ H s) (mu : Mut (H x)) (he : e = x ∨ H e = some (.own x)) (k : ∀ b u, b ≠ e → s.heap.get? b = some u → h'.get? b = some u) (heo : ∃ u, h'.get? e = some u)
    (new : ObjOk X.prog X.w (upd H x o) h' x o) : Inv X pins σ (upd H x o) { s with heap := h', toks := t' } := I.un (Un.write mu he k heo) (I.hok.write mu he k heo new)
theorem Inv.pins_of {pins' : List (Addr × Obj)} (I : Inv X pins σ H s) (h : ∀ p ∈ pins', s.heap.get? p.1 = some p.2 ∧ H p.1 = none ∧ p.1 ≠ X.env.locals ∧ p.1 ∉ X.fs ∧ ∀ v, p.2.data ≠ .cell v) : Inv X pins' σ H s :=
  ⟨I.ok, I.os, I.bare, I.base, I.loc, I.cell, I.free, I.freeC, fun p hp => (List.mem_append.mp hp).elim (fun z => I.pin p (List.mem_append_left _ z)) (h p), I.hok, I.len⟩

theorem nodup_ix {N : List Str} (hN : N.Nodup) {i j : Nat} {x : Str} (a : N[i]? = some x) (b : N[j]? = some x) : i = j := by
  obtain ⟨h1, e1⟩ := List.getElem?_eq_some_iff.mp a
  obtain ⟨h2, e2⟩ := List.getElem?_eq_some_iff.mp b
  exact (List.getElem_inj hN).mp (e1.trans e2.symm)

/-- a name is stored; what changed -/
theorem store_ok2 {M : Model} {A : Around} {E : Value → Shared → Prop} {i : Nat} {x : Str} {v : V} {u : Value} {Q : Unit → Shared → Prop} (I : Inv X pins σ H s) (hN : X.N.Nodup) (hi : X.N[i]? = some x) (hx : Loc X.env.scope x) (r : RelV v u)
    (h : ∀ s', Inv X pins (σ.set i (some v)) H s' → (∃ a, Heap.SameBut a s.heap s'.heap ∧ (a = X.env.locals ∨ X.env.cells.lookup x = some a)) → Q () s') (hf : X.fn x = true ∨ X.env.scope.names.lookup x = some .local := by first | exact .inl rfl | exact .inr rfl | assumption) : wpAny M A (storeName X.env x u) Q E s := by
  obtain ⟨m, hn, hl⟩ := id I.loc
  have hcls : (X.env.scope.kind == .class || (X.env.scope.kind == .module && X.env.locals != X.env.globals)) = false := by rw [I.ok.kind]; rfl
  have hiσ : i < σ.length := by rw [I.len]; exact (List.getElem?_eq_some_iff.mp hi).1
  have cne := I.cne
  have tracked : ∀ {a : Addr} {h' : Heap}, (∃ o, s.heap.get? a = some o ∧ H a = none) → Heap.SameBut a s.heap h' → HOk X.prog X.w H h' := fun {a h'} ha hs b ob e => by
    obtain ⟨_, _, hfree⟩ := ha
    refine (I.hok b ob e).stay (fun c w' hc q => (hs.2 c ?_).trans q) (fun _ q => q) fun _ _ q => q
    rintro rfl
    rcases hc with rfl | hc
    · rw [hfree] at e; cases e
    · rw [hfree] at hc; cases hc
  rcases hx with hk | hk
  · refine wpAny_storeName_local hk hn (fun h' hn' hs => ?_) hcls
    obtain ⟨oL, _, _, hoL, _⟩ := id hn
    refine h _ ⟨I.ok, I.os, I.bare, ⟨fun b o e n hb hx => ?_, fun b o e n hb hx => ?_, I.base.free, fun b o e hx => ?_, I.base.tups, I.base.frzs, I.base.tbls⟩, ⟨_, hn', fun j y v' e1 e2 e3 => ?_⟩, fun y c e => ?_, I.free, I.freeC, fun p hp => ?_, tracked ⟨oL, hoL, I.free⟩ hs, by simpa using I.len⟩ ⟨_, hs, .inl rfl⟩
    · exact (hs.2 b (Nat.ne_of_lt (Nat.lt_of_lt_of_le (Heap.lt_size e) I.ok.above))).trans (I.base.keep b o e n hb hx)
    · obtain ⟨sl, e1⟩ := I.base.slot b o e n hb hx
      exact ⟨sl, (hs.2 b (Nat.ne_of_lt (Nat.lt_of_lt_of_le (Heap.lt_size e) I.ok.above))).trans e1⟩
    · obtain ⟨o', e1⟩ := I.base.there b o e hx
      exact ⟨o', (hs.2 b (Nat.ne_of_lt (Nat.lt_of_lt_of_le (Heap.lt_size e) I.ok.above))).trans e1⟩
    · by_cases hj : j = i
      · subst hj
        rw [hi] at e1; cases e1
        rw [List.getElem?_set_self hiσ] at e2
        cases e2
        exact ⟨u, r, .inl ⟨hk, by simp⟩⟩
      · rw [List.getElem?_set_ne (Ne.symm hj)] at e2
        obtain ⟨u', r', q⟩ := hl j y v' e1 e2 e3
        refine ⟨u', r', ?_⟩
        rcases q with ⟨k, e⟩ | ⟨k, c, e, z⟩
        · refine .inl ⟨k, ?_⟩
          have : y ≠ x := fun e => hj (nodup_ix hN e1 (e ▸ hi))
          simp [this, e]
        · exact .inr ⟨k, c, e, z.sameBut hs (cne y c e)⟩
    · obtain ⟨w', z⟩ := I.cell y c e
      exact ⟨w', z.sameBut hs (cne y c e)⟩
    · obtain ⟨e, n, ne, nf, d⟩ := I.pin p hp
      exact ⟨(hs.2 p.1 ne).trans e, n, ne, nf, d⟩
  · have hfn : X.fn x = true := by
      rcases hf with z | z
      · exact z
      · rw [z] at hk; cases hk
    obtain ⟨c, hc⟩ := I.ok.has x (.inl hk)
    obtain ⟨w', z⟩ := I.cell x c hc
    refine wpAny_storeName_cell I.ok.kind hk hc z (fun h' hc' hs => ?_)
    obtain ⟨oc, hoc, hocd⟩ := id z
    refine h { s with heap := h' } ⟨I.ok, I.os, I.bare, ⟨fun b o e n hb hx => ?_, fun b o e n hb hx => ?_, I.base.free, fun b o e hx => ?_, I.base.tups, I.base.frzs, I.base.tbls⟩, ⟨m, hn.sameBut hs (Ne.symm (cne x c hc)), fun j y v' e1 e2 e3 => ?_⟩, fun y c' e => ?_, I.free, I.freeC, fun p hp => ?_, tracked ⟨oc, hoc, I.freeC x c hc⟩ hs, by simpa using I.len⟩ ⟨c, hs, .inr hc⟩
    · exact (hs.2 b (Nat.ne_of_lt (Nat.lt_of_lt_of_le (Heap.lt_size e) (I.ok.cab x c hfn hc)))).trans (I.base.keep b o e n hb hx)
    · obtain ⟨sl, e1⟩ := I.base.slot b o e n hb hx
      exact ⟨sl, (hs.2 b (Nat.ne_of_lt (Nat.lt_of_lt_of_le (Heap.lt_size e) (I.ok.cab x c hfn hc)))).trans e1⟩
    · obtain ⟨o', e1⟩ := I.base.there b o e hx
      exact ⟨o', (hs.2 b (Nat.ne_of_lt (Nat.lt_of_lt_of_le (Heap.lt_size e) (I.ok.cab x c hfn hc)))).trans e1⟩
    · by_cases hj : j = i
      · subst hj
        rw [hi] at e1; cases e1
        rw [List.getElem?_set_self hiσ] at e2
        cases e2
        exact ⟨u, r, .inr ⟨.inl hk, c, hc, hc'⟩⟩
      · rw [List.getElem?_set_ne (Ne.symm hj)] at e2
        obtain ⟨u', r', q⟩ := hl j y v' e1 e2 e3
        refine ⟨u', r', ?_⟩
        rcases q with q | ⟨k, c', e, z'⟩
        · exact .inl q
        · refine .inr ⟨k, c', e, z'.sameBut hs ?_⟩
          rintro rfl
          exact hj (nodup_ix hN e1 (I.ok.inj _ _ _ e hc ▸ hi))
    · by_cases hcc : c' = c
      · subst hcc; exact ⟨_, hc'⟩
      · obtain ⟨w2, z2⟩ := I.cell y c' e
        exact ⟨w2, z2.sameBut hs hcc⟩
    · obtain ⟨e, n, ne, nf, d⟩ := I.pin p hp
      refine ⟨(hs.2 p.1 ?_).trans e, n, ne, nf, d⟩
      intro q
      rw [q, hoc] at e
      have q' : oc = p.2 := Option.some.inj e
      exact d w' (by rw [← q']; exact hocd)
theorem store_ok {M : Model} {A : Around} {E : Value → Shared → Prop} {i : Nat} {x : Str} {v : V} {u : Value} {Q : Unit → Shared → Prop} (I : Inv X pins σ H s) (hN : X.N.Nodup) (hi : X.N[i]? = some x) (hx : Loc X.env.scope x) (r : RelV v u)
    (h : ∀ s', Inv X pins (σ.set i (some v)) H s' → Q () s') (hf : X.fn x = true ∨ X.env.scope.names.lookup x = some .local := by first | exact .inl rfl | exact .inr rfl | assumption) : wpAny M A (storeName X.env x u) Q E s :=
  store_ok2 I hN hi hx r (fun s' I' _ => h s' I') hf
/-- behind a call or a block, the state as it is -/
theorem Inv.call' {s' : Shared} {ch : List Addr} (I : Inv X pins σ H s) (ho : s'.os = s.os) (u : Un (frs X.stack) ch H H' s.heap s'.heap) (hok : HOk X.prog X.w H' s'.heap) (hg : AllBare s'.gens)
    (hch : ∀ b ∈ ch, (b ∈ X.ex ∨ X.s₀.heap.objs.size ≤ b) ∧ b ≠ X.env.locals ∧ (∀ x c, X.env.cells.lookup x = some c → c ≠ b) ∧ ∀ p ∈ X.pn ++ pins, p.1 ≠ b) : Inv X pins σ H' s' := by
  obtain ⟨h', g', d', t', o'⟩ := s'
  have e : o' = s.os := ho
  subst e
  exact I.call (g' := g') (t' := t') (d' := d') u hok hg hch
end

/-! ### the judgements -/
/-- an exception: its class, its own dict's address (where it has one), the abstract heap behind it -/
abbrev XK := Value → Option Addr → Hp → Prop
abbrev St := List (Option V)
abbrev VK := V → Hp → Prop
/-- an expression's reading; a test's; an argument list's -/
abbrev TE := St → Hp → VK → Prop
abbrev TT := St → Hp → (Bool → Hp → Prop) → Prop
abbrev TA := St → Hp → (List V → Hp → Prop) → Prop
/-- what is wanted behind a statement -/
structure Ends where
  nx : St → Hp → Prop
  rt : VK
  bk : St → Hp → Prop := fun _ _ => False
  ct : St → Hp → Prop := fun _ _ => False
abbrev TS := Ends → St → Hp → Prop

def EP (X : Cx) (pins : List (Addr × Obj)) (σ : St) (Q : VK) (u : Value) (s' : Shared) : Prop := ∃ v H', Inv X pins σ H' s' ∧ RelV v u ∧ Q v H'
def TP (X : Cx) (pins : List (Addr × Obj)) (σ : St) (Q : Bool → Hp → Prop) (b : Bool) (s' : Shared) : Prop := ∃ H', Inv X pins σ H' s' ∧ Q b H'
def AP (X : Cx) (pins : List (Addr × Obj)) (σ : St) (Q : List V → Hp → Prop) (us : List Value) (s' : Shared) : Prop := ∃ vs H', Inv X pins σ H' s' ∧ Vals vs us ∧ Q vs H'
def SP (X : Cx) (pins : List (Addr × Obj)) (D : Ends) (f : Flow) (s' : Shared) : Prop :=
  match f with
  | .next => ∃ σ' H', Inv X pins σ' H' s' ∧ D.nx σ' H'
  | .brk => ∃ σ' H', Inv X pins σ' H' s' ∧ D.bk σ' H'
  | .cont => ∃ σ' H', Inv X pins σ' H' s' ∧ D.ct σ' H'
  | .ret u => ∃ v σ' H', Inv X pins σ' H' s' ∧ RelV v u ∧ D.rt v H'

def PE (X : Cx) (e : Expr) (t : TE) : Prop :=
  ∀ (pins : List (Addr × Obj)) (s : Shared) (σ : St) (H : Hp) (Q : VK), Inv X pins σ H s → t σ H Q → wpAny (model X.prog X.w) X.A (eval e X.env) (EP X pins σ Q) X.xe s
def PT (X : Cx) (e : Expr) (t : TT) : Prop :=
  ∀ (pins : List (Addr × Obj)) (s : Shared) (σ : St) (H : Hp) (Q : Bool → Hp → Prop), Inv X pins σ H s → t σ H Q → wpAny (model X.prog X.w) X.A (isTrue e X.env (eval e X.env)) (TP X pins σ Q) X.xe s
/-- a test whatever its 'whole' is (and, or) -/
def PW (X : Cx) (e : Expr) (t : TT) : Prop :=
  ∀ (whole : Sem Value) (pins : List (Addr × Obj)) (s : Shared) (σ : St) (H : Hp) (Q : Bool → Hp → Prop), Inv X pins σ H s → t σ H Q → wpAny (model X.prog X.w) X.A (isTrue e X.env whole) (TP X pins σ Q) X.xe s
theorem PW.pt {X : Cx} {e : Expr} {t : TT} (h : PW X e t) : PT X e t := h _
/-- an argument list (no star), from the left -/
def PA (X : Cx) (es : List Expr) (t : TA) : Prop :=
  ∀ (pos : Pos) (pins : List (Addr × Obj)) (s : Shared) (σ : St) (H : Hp) (Q : List V → Hp → Prop), Inv X pins σ H s → t σ H Q → wpAny (model X.prog X.w) X.A (spliced (backTo pos (starEach es X.env))) (AP X pins σ Q) X.xe s
def PS (X : Cx) (st : Stmt) (t : TS) : Prop :=
  ∀ (pins : List (Addr × Obj)) (s : Shared) (σ : St) (H : Hp) (D : Ends), Inv X pins σ H s → t D σ H → wpAny (model X.prog X.w) X.A (exec st X.env) (SP X pins D) X.xe s
def PSs (X : Cx) (st : List Stmt) (t : TS) : Prop :=
  ∀ (pins : List (Addr × Obj)) (s : Shared) (σ : St) (H : Hp) (D : Ends), Inv X pins σ H s → t D σ H → wpAny (model X.prog X.w) X.A (execs st X.env) (SP X pins D) X.xe s
/-- weaken the end -/
theorem thn {α : Type} {t : Sem α} {Q Q' : α → Shared → Prop} {M : Model} {A : Around} {E : Value → Shared → Prop} {s : Shared} (h : wpAny M A t Q E s) (hQ : ∀ a s, Q a s → Q' a s) : wpAny M A t Q' E s := wpAny_mono h hQ fun _ _ x => x
end L2

namespace L2
open PySem PySem.Spec PyProof.Rows
section
variable {X : Cx}

/-! ### names and constants -/
def tVar (i : Nat) : TE := fun σ H Q => ∃ v, σ[i]? = some (some v) ∧ Q v H
def tC (v : V) : TE := fun _ H Q => Q v H
theorem pe_var {i : Nat} {x : Str} {pos : Pos} (hN : X.N[i]? = some x) (hv : Vis X.env.scope x) (hd : (x == ("__debug__" : Str)) = false := by decide) (hcd : (x == ("__classdict__" : Str)) = false := by decide) : PE X (.Name x pos) (tVar i) := by
  intro pins s σ H Q I h
  obtain ⟨v, e, h⟩ := h
  obtain ⟨m, hn, hl⟩ := I.loc
  obtain ⟨u, r, l⟩ := hl i x v hN e hv
  have fin : EP X pins σ Q u s := ⟨v, H, I, r, h⟩
  rcases l with ⟨hk, hm⟩ | ⟨hk, c, hc, hcell⟩
  · exact wpAny_Name (wpAny_loadName_local I.ok.kind hk hn hm fin) hd
  · rcases hk with hk | hk
    · exact wpAny_Name (wpAny_loadName_cell I.ok.kind hk hc hcell fin) hd
    · exact wpAny_Name (wpAny_loadName_free I.ok.kind hk hc hcell fin hcd) hd
theorem pe_int {i j pos} : PE X (.Constant (.int i) j pos) (tC (.int i)) := fun _ _ _ H _ I h => wpAny_Constant_int ⟨.int i, H, I.tok _, ⟨_, rfl⟩, h⟩
theorem pe_bl {b j pos} : PE X (.Constant (.bool b) j pos) (tC (.bl b)) := fun _ _ _ H _ I h => Constant_bool ⟨.bl b, H, I, rfl, h⟩
theorem pe_non {j pos} : PE X (.Constant .none j pos) (tC .non) := fun _ _ _ H _ I h => Constant_none ⟨.non, H, I, rfl, h⟩
theorem pe_str {x j pos} : PE X (.Constant (.str x) j pos) (tC (.str x)) := fun _ _ _ H _ I h => Calls.Constant_str ⟨.str x, H, I.tok _, ⟨_, rfl⟩, h⟩

/-- a global name of the def -/
def Gl (X : Cx) (x : Str) : Prop := X.env.kindOf x = some .globalImplicit
theorem ld_glob {E : Value → Shared → Prop} {pins : List (Addr × Obj)} {s : Shared} {σ : St} {H : Hp} {x : Str} {u : Value} {pos : Pos} {Q : Value → Shared → Prop} (I : Inv X pins σ H s) (hg : Gl X x) (hm : X.mg x = some u) (h : Q u s)
    (hd : (x == ("__debug__" : Str)) = false := by decide) : wpAny (model X.prog X.w) X.A (eval (.Name x pos) X.env) Q E s :=
  Calls.Name_function_global I.ok.kind hg (Calls.loadGlobal_global (by rw [I.ok.glob]; exact I.mod.glob.keeps I.bk) hm h) hd
theorem ld_blt {E : Value → Shared → Prop} {pins : List (Addr × Obj)} {s : Shared} {σ : St} {H : Hp} {x : Str} {u : Value} {pos : Pos} {Q : Value → Shared → Prop} (I : Inv X pins σ H s) (hg : Gl X x) (hm : X.mg x = none) (hv : bootBuiltins x = some u) (h : Q u s)
    (hn : x ≠ "__name__" := by decide) (hd : (x == ("__debug__" : Str)) = false := by decide) : wpAny (model X.prog X.w) X.A (eval (.Name x pos) X.env) Q E s := by
  obtain ⟨mb, h1, h2⟩ := I.mod.blt
  exact Calls.Name_function_global I.ok.kind hg (Calls.loadGlobal_builtin (by rw [I.ok.glob]; exact I.mod.glob.keeps I.bk) hm (by rw [I.ok.blt]; exact h1.keeps I.bk) ((h2 x hn).trans hv) h) hd
/-- a module's constant, a class, a function, as a value -/
theorem pe_glob {x : Str} {v : V} {u : Value} {pos : Pos} (hg : Gl X x) (hm : X.mg x = some u) (r : RelV v u) (hd : (x == ("__debug__" : Str)) = false := by decide) : PE X (.Name x pos) (tC v) :=
  fun _ _ _ H _ I h => ld_glob I hg hm ⟨v, H, I, r, h⟩ hd
theorem pe_bltn {x : Str} {v : V} {u : Value} {pos : Pos} (hg : Gl X x) (hm : X.mg x = none) (hv : bootBuiltins x = some u) (r : RelV v u) (hn : x ≠ "__name__" := by decide) (hd : (x == ("__debug__" : Str)) = false := by decide) : PE X (.Name x pos) (tC v) :=
  fun _ _ _ H _ I h => ld_blt I hg hm hv ⟨v, H, I, r, h⟩ hn hd

/-! ### arithmetic -/
/-- two ints -/
def t2I (ta tb : TE) (k : Int → Int → Hp → Prop) : St → Hp → Prop := fun σ H => ta σ H fun x H1 => tb σ H1 fun y H2 => ∃ i j, x = .int i ∧ y = .int j ∧ k i j H2
def tAdd (ta tb : TE) : TE := fun σ H Q => t2I ta tb (fun i j H2 => Q (.int (i + j)) H2) σ H
def tSub (ta tb : TE) : TE := fun σ H Q => t2I ta tb (fun i j H2 => Q (.int (i - j)) H2) σ H
/-- the left factor below 2^64 -/
def tMul (ta tb : TE) : TE := fun σ H Q => t2I ta tb (fun i j H2 => (-(2 ^ 64) < i ∧ i < 2 ^ 64) ∧ Q (.int (i * j)) H2) σ H
variable {a b : Expr} {ta tb : TE} {pos : Pos}
/-! ### comparisons -/
def PC (X : Cx) (op : CmpOp) (a b : Expr) (t : TE) : Prop :=
  ∀ (pins : List (Addr × Obj)) (s : Shared) (σ : St) (H : Hp) (Q : VK), Inv X pins σ H s → t σ H Q →
    wpAny (model X.prog X.w) X.A (eval a X.env) (fun v s₁ => wpAny (model X.prog X.w) X.A (eval b X.env) (fun u s₂ => wpAny (model X.prog X.w) X.A (compareOp op v u) (EP X pins σ Q) X.xe s₂) X.xe s₁) X.xe s
def tCmp (p : Int → Int → Bool) (ta tb : TE) : TE := fun σ H Q => t2I ta tb (fun i j H2 => Q (.bl (p i j)) H2) σ H
abbrev tLt : TE → TE → TE := tCmp fun i j => decide (i < j)
abbrev tLe : TE → TE → TE := tCmp fun i j => decide (i ≤ j)
abbrev tGt : TE → TE → TE := tCmp fun i j => decide (j < i)
abbrev tGe : TE → TE → TE := tCmp fun i j => decide (j ≤ i)
abbrev tEqI : TE → TE → TE := tCmp fun i j => decide (i = j)
abbrev tNeI : TE → TE → TE := tCmp fun i j => !decide (i = j)
/-- is None -/
def tIsN (ta : TE) : TE := fun σ H Q => ta σ H fun x H1 => Q (.bl (decide (x = .non))) H1
def tNotN (ta : TE) : TE := fun σ H Q => ta σ H fun x H1 => Q (.bl (!decide (x = .non))) H1
/-- a comparison as a value, as a test -/
def tB (t : TE) : TT := fun σ H Q => t σ H fun x H1 => ∃ c, x = .bl c ∧ Q c H1
/-- an expression whose value is a bool, as a test -/
theorem pt_val {e : Expr} {t : TE} (h : PE X e t) (he : ∀ whole, isTrue e X.env whole = (do let v ← whole; standAt e.pos; holding [v] (truthy v)) := by intro _; rfl) : PT X e (tB t) := by
  intro pins s σ H Q I hw
  refine isTrue_plain (thn (h pins s σ H _ I hw) fun v s1 ⟨x, H1, I1, r1, q1⟩ => ?_) (he _)
  obtain ⟨d, rfl, q⟩ := q1
  cases r1
  exact wpAny_truthy_bool ⟨H1, I1, q⟩

/-! ### and, or, not -/
variable {tA tB' : TT} {rest : List Expr}
def tAnd (t u : TT) : TT := fun σ H Q => t σ H fun c H1 => if c = true then u σ H1 Q else Q false H1
def tOr (t u : TT) : TT := fun σ H Q => t σ H fun c H1 => if c = true then Q true H1 else u σ H1 Q
def tNot (t : TT) : TT := fun σ H Q => t σ H fun c H1 => Q (!c) H1
theorem pw_and1 (ha : PT X a tA) : PW X (.BoolOp .And [a] pos) tA := by
  intro wh pins s σ H Q I h
  refine isTrue_and (thn (ha pins s σ H Q I h) fun c s1 e => ?_)
  cases c with
  | true => exact isTrue_and_nil e
  | false => exact e
theorem pw_or1 (ha : PT X a tA) : PW X (.BoolOp .Or [a] pos) tA := by
  intro wh pins s σ H Q I h
  refine isTrue_or (thn (ha pins s σ H Q I h) fun c s1 e => ?_)
  cases c with
  | false => exact isTrue_or_nil e
  | true => exact e
theorem pw_and (ha : PT X a tA) (hb : PW X (.BoolOp .And (b :: rest) pos) tB') : PW X (.BoolOp .And (a :: b :: rest) pos) (tAnd tA tB') := by
  intro wh pins s σ H Q I h
  refine isTrue_and (thn (ha pins s σ H _ I h) fun c s1 ⟨H1, I1, q1⟩ => ?_)
  cases c with
  | true => exact hb wh pins s1 σ H1 Q I1 q1
  | false => exact ⟨H1, I1, q1⟩
theorem pw_or (ha : PT X a tA) (hb : PW X (.BoolOp .Or (b :: rest) pos) tB') : PW X (.BoolOp .Or (a :: b :: rest) pos) (tOr tA tB') := by
  intro wh pins s σ H Q I h
  refine isTrue_or (thn (ha pins s σ H _ I h) fun c s1 ⟨H1, I1, q1⟩ => ?_)
  cases c with
  | true => exact ⟨H1, I1, q1⟩
  | false => exact hb wh pins s1 σ H1 Q I1 q1
theorem pt_not (ha : PT X a tA) : PT X (.UnaryOp .Not a pos) (tNot tA) := by
  intro pins s σ H Q I h
  exact isTrue_not (ha pins s σ H (fun c H1 => Q (!c) H1) I h)
/-- .. as values (bools) -/
def tAndV (ta tb : TE) : TE := fun σ H Q => ta σ H fun x H1 => ∃ c, x = .bl c ∧ if c = true then tb σ H1 Q else Q (.bl false) H1
def tOrV (ta tb : TE) : TE := fun σ H Q => ta σ H fun x H1 => ∃ c, x = .bl c ∧ if c = true then Q (.bl true) H1 else tb σ H1 Q
def tNotV (ta : TE) : TE := fun σ H Q => ta σ H fun x H1 => ∃ c, x = .bl c ∧ Q (.bl (!c)) H1
theorem pe_one {op} {t : TE} (h : PE X a t) : PE X (.BoolOp op [a] pos) t := fun pins s σ H Q I hw => BoolOp_one (h pins s σ H Q I hw)
theorem pe_and (ha : PE X a ta) (hb : PE X (.BoolOp .And (b :: rest) pos) tb) : PE X (.BoolOp .And (a :: b :: rest) pos) (tAndV ta tb) := by
  intro pins s σ H Q I h
  refine BoolOp_and (thn (ha pins s σ H _ I h) fun v s1 ⟨x, H1, I1, r1, q1⟩ => ?_)
  obtain ⟨c, rfl, q1⟩ := q1
  cases r1
  refine wpAny_truthy_bool ?_
  cases c with
  | true => exact hb pins s1 σ H1 Q I1 q1
  | false => exact ⟨.bl false, H1, I1, rfl, q1⟩
theorem pe_or (ha : PE X a ta) (hb : PE X (.BoolOp .Or (b :: rest) pos) tb) : PE X (.BoolOp .Or (a :: b :: rest) pos) (tOrV ta tb) := by
  intro pins s σ H Q I h
  refine BoolOp_or (thn (ha pins s σ H _ I h) fun v s1 ⟨x, H1, I1, r1, q1⟩ => ?_)
  obtain ⟨c, rfl, q1⟩ := q1
  cases r1
  refine wpAny_truthy_bool ?_
  cases c with
  | false => exact hb pins s1 σ H1 Q I1 q1
  | true => exact ⟨.bl true, H1, I1, rfl, q1⟩
theorem pe_not (ha : PE X a ta) : PE X (.UnaryOp .Not a pos) (tNotV ta) := by
  intro pins s σ H Q I h
  refine UnaryOp_ (thn (ha pins s σ H _ I h) fun v s1 ⟨x, H1, I1, r1, q1⟩ => ?_)
  obtain ⟨c, rfl, q1⟩ := q1
  cases r1
  exact not_of (wpAny_truthy_bool ⟨.bl (!c), H1, I1, rfl, q1⟩)
/-- a if t else b -/
def tIf (t : TT) (ta tb : TE) : TE := fun σ H Q => t σ H fun c H1 => if c = true then ta σ H1 Q else tb σ H1 Q
theorem pe_ifExp {c : Expr} (hc : PT X c tA) (ha : PE X a ta) (hb : PE X b tb) : PE X (.IfExp c a b pos) (tIf tA ta tb) := by
  intro pins s σ H Q I h
  refine wpAny_IfExp (thn (hc pins s σ H _ I h) fun d s1 ⟨H1, I1, q1⟩ => ?_)
  cases d with
  | true => exact ha pins s1 σ H1 Q I1 q1
  | false => exact hb pins s1 σ H1 Q I1 q1
end
end L2

namespace L2
open PySem PySem.Spec PyProof.Rows

/-! ### a list, a tuple that is read: tracked, frozen, or an object of the module -/
def SqL (K : PySem.W.Frag) (H : Hp) (a : Addr) (xs : List V) : Prop :=
  Rd H a (.lst xs) ∨
    ∃ (o : Obj) (its : Array Value) (n : Nat), K.lookup a = some o ∧ o.cls = .type "list" ∧ o.dict = none ∧ o.data = .seq its n ∧ its.size ≤ sizeLine ∧ Vals xs its.toList
def SqT (K : PySem.W.Frag) (H : Hp) (a : Addr) (xs : List V) : Prop :=
  Rd H a (.tup xs) ∨
    ∃ (o : Obj) (its : Array Value) (n : Nat), K.lookup a = some o ∧ o.cls = .type "tuple" ∧ o.data = .seq its n ∧ its.size ≤ sizeLine ∧ Vals xs its.toList
def absV : Value → Option V
  | .none => some .non
  | .bool b => some (.bl b)
  | .int i _ => some (.int i)
  | .str x _ => some (.str x)
  | .bytes b _ => some (.byt b)
  | .float b _ => some (.flt b)
  | .ref a => some (.ref a)
  | .type n => some (.ty n)
  | _ => none
theorem RelV.abs {x : V} {u : Value} (r : RelV x u) : absV u = some x := by
  cases x with
  | non => cases r; rfl
  | bl _ => cases r; rfl
  | int _ => obtain ⟨t, rfl⟩ := r; rfl
  | str _ => obtain ⟨t, rfl⟩ := r; rfl
  | byt _ => obtain ⟨t, rfl⟩ := r; rfl
  | flt _ => obtain ⟨t, rfl⟩ := r; rfl
  | ref _ => cases r; rfl
  | ty _ => cases r; rfl
theorem RelV.inj {x y : V} {u : Value} (r : RelV x u) (q : RelV y u) : x = y := Option.some.inj (r.abs.symm.trans q.abs)
theorem Vals.inj : ∀ {xs ys : List V} {us : List Value}, Vals xs us → Vals ys us → xs = ys
  | _, _, _, .nil, .nil => rfl
  | _, _, _, .cons r t, .cons r' t' => by rw [r.inj r', Vals.inj t t']
section
variable {X : Cx} {pins : List (Addr × Obj)} {σ : St} {H : Hp} {s : Shared} {a : Addr} {xs ys : List V}
theorem SqL.of {K : PySem.W.Frag} (h : H a = some (.lst xs)) : SqL K H a xs := .inl (.inl h)
theorem SqT.of {K : PySem.W.Frag} (h : H a = some (.tup xs)) : SqT K H a xs := .inl (.inl h)
theorem Inv.list (I : Inv X pins σ H s) (h : SqL X.K H a xs) : ∃ its : List Value, Vals xs its ∧ PlainL s.heap a its.toArray ∧ xs.length ≤ sizeLine := by
  rcases h with h | ⟨o, its, n, hk, hc, hd, hs, hz, r⟩
  · obtain ⟨z, its, n, r, e⟩ := h.ok I.hok
    exact ⟨its, r, ⟨_, n, e, rfl, rfl, rfl⟩, z⟩
  · refine ⟨its.toList, r, ⟨o, n, I.kIn a o hk, hc, hd, by simpa using hs⟩, ?_⟩
    have e := r.length
    simp only [Array.length_toList] at e
    omega
theorem Inv.tuple (I : Inv X pins σ H s) (h : SqT X.K H a xs) : ∃ its : List Value, Vals xs its ∧ IsTup s.heap a its.toArray ∧ xs.length ≤ sizeLine := by
  rcases h with h | ⟨o, its, n, hk, hc, hs, hz, r⟩
  · obtain ⟨z, its, r, p⟩ := h.ok I.hok
    exact ⟨its, r, p, z⟩
  · refine ⟨its.toList, r, ⟨o, I.kIn a o hk, hc, n, by simpa using hs⟩, ?_⟩
    have e := r.length
    simp only [Array.length_toList] at e
    omega
theorem Inv.list_inj (I : Inv X pins σ H s) (h : SqL X.K H a xs) (h' : SqL X.K H a ys) : xs = ys := by
  obtain ⟨its, r, ⟨o, n, e, _, _, d⟩, _⟩ := I.list h
  obtain ⟨its', r', ⟨o', n', e', _, _, d'⟩, _⟩ := I.list h'
  rw [e] at e'; cases e'
  rw [d] at d'
  injection d' with d1 _
  have : its = its' := by simpa using congrArg Array.toList d1
  subst this
  exact r.inj r'
end

/-! ### another wish about exceptions -/
abbrev Cx.wish (X : Cx) (E : Value → Shared → Prop) : Cx := { X with xe := E }
/-- no exception leaves -/
abbrev Cx.nox (X : Cx) : Cx := X.wish fun _ _ => False
theorem Cx.Ok.wish {X : Cx} (ok : X.Ok) (E : Value → Shared → Prop) : (X.wish E).Ok :=
  ⟨ok.mod, ok.kind, ok.glob, ok.blt, ok.above, ok.inj, ok.has, ok.cab, ok.hd, ok.frames, ok.stk, ok.exf, ok.bs, ok.bsz, ok.noex, ok.exfs, ok.funs, ok.frf⟩
theorem Cx.Ok.unwish {X : Cx} {E : Value → Shared → Prop} (ok : (X.wish E).Ok) : X.Ok :=
  ⟨ok.mod, ok.kind, ok.glob, ok.blt, ok.above, ok.inj, ok.has, ok.cab, ok.hd, ok.frames, ok.stk, ok.exf, ok.bs, ok.bsz, ok.noex, ok.exfs, ok.funs, ok.frf⟩
section
variable {X : Cx} {pins : List (Addr × Obj)} {σ : St} {H : Hp} {s : Shared} {E : Value → Shared → Prop}
theorem Inv.wish (I : Inv X pins σ H s) (E : Value → Shared → Prop) : Inv (X.wish E) pins σ H s := ⟨I.ok.wish E, I.os, I.bare, I.base, I.loc, I.cell, I.free, I.freeC, I.pin, I.hok, I.len⟩
theorem Inv.unwish (I : Inv (X.wish E) pins σ H s) : Inv X pins σ H s := ⟨I.ok.unwish, I.os, I.bare, I.base, I.loc, I.cell, I.free, I.freeC, I.pin, I.hok, I.len⟩
theorem SP.unwish {D : Ends} {f : Flow} {s' : Shared} (h : SP (X.wish E) pins D f s') : SP X pins D f s' := by
  cases f with
  | next => obtain ⟨σ', H', I, q⟩ := h; exact ⟨σ', H', I.unwish, q⟩
  | brk => obtain ⟨σ', H', I, q⟩ := h; exact ⟨σ', H', I.unwish, q⟩
  | cont => obtain ⟨σ', H', I, q⟩ := h; exact ⟨σ', H', I.unwish, q⟩
  | ret u => obtain ⟨v, σ', H', I, r, q⟩ := h; exact ⟨v, σ', H', I.unwish, r, q⟩
theorem PE.nox {e : Expr} {t : TE} (h : PE X.nox e t) : PE X e t := fun pins s σ H Q I hw =>
  wpAny_mono (h pins s σ H Q (I.wish _) hw) (fun _ _ ⟨v, H', I', r, q⟩ => ⟨v, H', I'.unwish, r, q⟩) fun _ _ z => False.elim z
theorem PT.nox {e : Expr} {t : TT} (h : PT X.nox e t) : PT X e t := fun pins s σ H Q I hw =>
  wpAny_mono (h pins s σ H Q (I.wish _) hw) (fun _ _ ⟨H', I', q⟩ => ⟨H', I'.unwish, q⟩) fun _ _ z => False.elim z
theorem PSs.nox {st : List Stmt} {t : TS} (h : PSs X.nox st t) : PSs X st t := fun pins s σ H D I hw =>
  wpAny_mono (h pins s σ H D (I.wish _) hw) (fun _ _ q => q.unwish) fun _ _ z => False.elim z
end

/-! ### blocks and small statements -/
section
variable {X : Cx} {st : Stmt} {rest : List Stmt} {t u : TS} {e : Expr} {te : TE} {pos : Pos}
def tNext : TS := fun D σ H => D.nx σ H
def tSeq (t u : TS) : TS := fun D σ H => t { D with nx := u D } σ H
theorem pss_nil : PSs X [] tNext := fun _ _ σ H _ I h => wpAny_execs_nil ⟨σ, H, I, h⟩
theorem pss_cons (h1 : PS X st t) (h2 : PSs X rest u) : PSs X (st :: rest) (tSeq t u) := by
  intro pins s σ H D I h
  refine wpAny_execs_cons (thn (h1 pins s σ H { D with nx := u D } I h) fun f s1 q => ?_)
  cases f with
  | next =>
    obtain ⟨σ', H', I', q⟩ := q
    exact h2 pins s1 σ' H' D I' q
  | ret v => exact q
  | brk => exact q
  | cont => exact q
theorem pss_one (h1 : PS X st t) : PSs X [st] t := by
  intro pins s σ H D I h
  refine wpAny_execs_cons (thn (h1 pins s σ H D I h) fun f s1 q => ?_)
  cases f with
  | next => exact wpAny_execs_nil q
  | ret v => exact q
  | brk => exact q
  | cont => exact q
def tBreak : TS := fun D σ H => D.bk σ H
def tCont : TS := fun D σ H => D.ct σ H
/-- in a def's body nothing is shown -/
theorem Inv.quiet {pins : List (Addr × Obj)} {σ : St} {H : Hp} {s : Shared} (I : Inv X pins σ H s) : interactive X.env = false := by simp [interactive, I.ok.kind]
/-- an expression whose value is dropped -/
def tDrop (te : TE) : TS := fun D σ H => te σ H fun _ H1 => D.nx σ H1
theorem ps_expr (he : PE X e te) (hs : swapsWith e none pos.line X.env = pure false := by rfl) : PS X (.Expr e pos) (tDrop te) := by
  intro pins s σ H D I h
  exact wpAny_Expr_any (thn (he pins s σ H _ I h) fun v s1 ⟨x, H1, I1, r1, q1⟩ => ⟨σ, H1, I1, q1⟩) I.quiet hs
def tRet (te : TE) : TS := fun D σ H => te σ H D.rt
theorem ps_ret (he : PE X e te) : PS X (.Return (some e) pos) (tRet te) := by
  intro pins s σ H D I h
  exact wpAny_Return_some (thn (he pins s σ H _ I h) fun v s1 ⟨x, H1, I1, r1, q1⟩ => ⟨x, σ, H1, I1, r1, q1⟩)
def tRetN : TS := fun D _ H => D.rt .non H
def tIfS (c : TT) (t u : TS) : TS := fun D σ H => c σ H fun b H1 => if b = true then t D σ H1 else u D σ H1
theorem ps_if {c : Expr} {a b : List Stmt} {tc : TT} (hc : PT X c tc) (ha : PSs X a t) (hb : PSs X b u) : PS X (.If c a b pos) (tIfS tc t u) := by
  intro pins s σ H D I h
  refine wpAny_If (thn (hc pins s σ H _ I h) fun d s1 ⟨H1, I1, q1⟩ => ?_)
  cases d with
  | true => exact ha pins s1 σ H1 D I1 q1
  | false => exact hb pins s1 σ H1 D I1 q1
/-- code that the proof never comes to -/
def tNever : TS := fun _ _ _ => False
end

/-! ### targets -/
abbrev TG := V → St → Hp → (St → Hp → Prop) → Prop
abbrev TGs := List V → St → Hp → (St → Hp → Prop) → Prop
def PG (X : Cx) (target : Expr) (t : TG) : Prop :=
  ∀ (pins : List (Addr × Obj)) (s : Shared) (σ : St) (H : Hp) (v : V) (u : Value) (Q : St → Hp → Prop), Inv X pins σ H s → RelV v u → t v σ H Q →
    wpAny (model X.prog X.w) X.A (assign target X.env u) (fun _ s' => ∃ σ' H', Inv X pins σ' H' s' ∧ Q σ' H') X.xe s
/-- several targets, one after another -/
def PGs (X : Cx) (ts : List Expr) (t : TGs) : Prop :=
  ∀ (pins : List (Addr × Obj)) (s : Shared) (σ : St) (H : Hp) (vs : List V) (us : List Value) (Q : St → Hp → Prop), Inv X pins σ H s → Vals vs us → t vs σ H Q →
    wpAny (model X.prog X.w) X.A (assignInOrder ((assignEach ts X.env).map (·.2)) us) (fun _ s' => ∃ σ' H', Inv X pins σ' H' s' ∧ Q σ' H') X.xe s
/-- o[i] = v, by values -/
abbrev TSet := V → V → V → Hp → (Hp → Prop) → Prop
def PSet (X : Cx) (t : TSet) : Prop :=
  ∀ (pins : List (Addr × Obj)) (s : Shared) (σ : St) (H : Hp) (o i v : V) (ov iv u : Value) (Q : Hp → Prop), Inv X pins σ H s → RelV o ov → RelV i iv → RelV v u → t o i v H Q →
    wpAny (model X.prog X.w) X.A (setItem ov iv u) (fun _ s' => ∃ H', Inv X pins σ H' s' ∧ Q H') X.xe s
/-- a op= b, by values -/
abbrev TIp := V → V → Hp → VK → Prop
def PIp (X : Cx) (op : Operator) (t : TIp) : Prop :=
  ∀ (pins : List (Addr × Obj)) (s : Shared) (σ : St) (H : Hp) (x y : V) (v u : Value) (Q : VK), Inv X pins σ H s → RelV x v → RelV y u → t x y H Q →
    wpAny (model X.prog X.w) X.A (inplaceOp op v u) (EP X pins σ Q) X.xe s
section
variable {X : Cx} {pos : Pos}
def gName (i : Nat) : TG := fun v σ H Q => Q (σ.set i (some v)) H
theorem pg_name {i : Nat} {x : Str} (hN : X.N.Nodup) (hi : X.N[i]? = some x) (hx : Loc X.env.scope x) (hf : X.fn x = true ∨ X.env.scope.names.lookup x = some .local := by first | exact .inl rfl | exact .inr rfl | assumption) : PG X (.Name x pos) (gName i) := by
  intro pins s σ H v u Q I r h
  exact wpAny_assign_Name (store_ok I hN hi hx r (fun s' I' => ⟨_, H, I', h⟩) hf)
def gNil : TGs := fun vs σ H Q => vs = [] ∧ Q σ H
def gCons (t : TG) (u : TGs) : TGs := fun vs σ H Q => ∃ v r, vs = v :: r ∧ t v σ H fun σ' H' => u r σ' H' Q
theorem pgs_nil : PGs X [] gNil := by
  intro pins s σ H vs us Q I r h
  obtain ⟨e, h⟩ := h
  subst e
  cases r
  exact assignInOrder_nil ⟨σ, H, I, h⟩
theorem pgs_cons {e : Expr} {es : List Expr} {t : TG} {u : TGs} (h1 : PG X e t) (h2 : PGs X es u)
    (hs : (assignEach (e :: es) X.env).map (·.2) = assign e X.env :: (assignEach es X.env).map (·.2) := by rfl) : PGs X (e :: es) (gCons t u) := by
  intro pins s σ H vs us Q I r h
  obtain ⟨v, vr, e1, h⟩ := h
  subst e1
  cases r with
  | cons r rr =>
    rw [hs]
    refine assignInOrder_cons (thn (h1 pins s σ H _ _ _ I r h) fun _ s1 ⟨σ1, H1, I1, q1⟩ => ?_)
    exact h2 pins s1 σ1 H1 _ _ Q I1 rr q1
/-- (a, b, ..) = a tuple of that length -/
def gTup (K : PySem.W.Frag) (n : Nat) (t : TGs) : TG := fun v σ H Q => ∃ a xs, v = .ref a ∧ SqT K H a xs ∧ xs.length = n ∧ t xs σ H Q
theorem pg_tup {es : List Expr} {k : Nat} {t : TGs} {n : Nat} (hc : X.calm = true) (h : PGs X es t)
    (hn : (assignEach es X.env).length = n := by rfl) (hst : (assignEach es X.env).findIdx? (·.1) = none := by rfl) : PG X (.Tuple es k pos) (gTup X.K n t) := by
  intro pins s σ H v u Q I r hw
  obtain ⟨a, xs, e1, hq, hl, hw⟩ := hw
  subst e1
  cases r
  obtain ⟨its, rv, ht, hz⟩ := I.tuple hq
  refine assign_Tuple_tuple (I.ok.hd hc) ht (by simp [hn, ← hl, rv.length]) hst fun h' hx => ?_
  have I1 : Inv X pins σ H { s with heap := h' } := I.kept (t' := s.toks) fun b o e => hx b o (Nat.ne_of_lt (Heap.lt_size e)) e
  exact h pins _ σ H xs _ Q I1 (by simpa using rv) hw
/-- o[i] = .. -/
def gSub (to ti : TE) (t : TSet) : TG := fun v σ H Q => to σ H fun o H1 => ti σ H1 fun i H2 => t o i v H2 fun H3 => Q σ H3
/-- target = value -/
def tAsg (te : TE) (g : TG) : TS := fun D σ H => te σ H fun x H1 => g x σ H1 D.nx
theorem ps_asg {tg e : Expr} {te : TE} {g : TG} (he : PE X e te) (hg : PG X tg g) (hs : swapsWithSole [tg] e pos.line X.env = pure false := by rfl) (hw : swappedStores [tg] e X.env = pure none := by rfl)
    (h1 : (assignEach [tg] X.env).map (·.2) = [assign tg X.env] := by rfl) : PS X (.Assign [tg] e pos) (tAsg te g) := by
  intro pins s σ H D I h
  refine wpAny_Assign_stores (thn (he pins s σ H _ I h) fun v s1 ⟨x, H1, I1, r1, q1⟩ => ?_) hs hw
  rw [h1]
  exact thn (hg pins s1 σ H1 x v _ I1 r1 q1) fun _ s2 q => q
/-- name = value -/
theorem ps_set {i : Nat} {x : Str} {e : Expr} {te : TE} {pos' : Pos} (hN : X.N.Nodup) (hi : X.N[i]? = some x) (hx : Loc X.env.scope x) (he : PE X e te) (hs : swapsWith e (some (.Name x pos')) pos.line X.env = pure false := by rfl) (hf : X.fn x = true ∨ X.env.scope.names.lookup x = some .local := by first | exact .inl rfl | exact .inr rfl | assumption) :
    PS X (.Assign [.Name x pos'] e pos) (tAsg te (gName i)) := by
  intro pins s σ H D I h
  refine wpAny_Assign_Name (thn (he pins s σ H _ I h) fun v s1 ⟨y, H1, I1, r1, q1⟩ => ?_) hs
  exact store_ok I1 hN hi hx r1 (fun s2 I2 => ⟨_, H1, I2, q1⟩) hf
/-- a, b = x, y with plain local names: stored from the right; the pair itself is not tracked (the opening rows as in PyProof/Rows/TupAssign.lean:23) -/
def tPar (i j : Nat) (ta : TA) : TS := fun D σ H => ta σ H fun vs H1 => ∃ v w, vs = [v, w] ∧ D.nx ((σ.set i (some v)).set j (some w)) H1
/-- name op= e -/
def tAug (i : Nat) (te : TE) (ti : TIp) : TS := fun D σ H => ∃ x, σ[i]? = some (some x) ∧ te σ H fun y H1 => ti x y H1 fun z H2 => D.nx (σ.set i (some z)) H2
/-- o[i] op= e -/
def tAugS (to ti te : TE) (tget : V → V → Hp → VK → Prop) (tip : TIp) (tset : TSet) : TS := fun D σ H => to σ H fun o H1 => ti σ H1 fun i H2 => tget o i H2 fun x H3 => te σ H3 fun y H4 => tip x y H4 fun z H5 => tset o i z H5 fun H6 => D.nx σ H6
/-- o[i], by values -/
def PGet (X : Cx) (t : V → V → Hp → VK → Prop) : Prop :=
  ∀ (pins : List (Addr × Obj)) (s : Shared) (σ : St) (H : Hp) (o i : V) (ov iv : Value) (Q : VK), Inv X pins σ H s → RelV o ov → RelV i iv → t o i H Q →
    wpAny (model X.prog X.w) X.A (getItem ov iv) (EP X pins σ Q) X.xe s
/-- ints -/
def ipI (f : Int → Int → Int) : TIp := fun x y H Q => ∃ i j, x = .int i ∧ y = .int j ∧ Q (.int (f i j)) H
end

/-! ### while -/
section
variable {X : Cx} {pos : Pos}
/-- the invariant W with its measure -/
def tWhile (c : TT) (tb : TS) : TS := fun D σ H => ∃ W : Nat → St → Hp → Prop, (∃ m, W m σ H) ∧ ∀ m σ H, W m σ H →
  c σ H fun b H1 => if b = true then ∃ N : St → Hp → Prop, (∀ σ' H', N σ' H' → ∃ m', m' < m ∧ W m' σ' H') ∧ tb { D with nx := N, ct := N, bk := D.nx } σ H1 else D.nx σ H1
theorem ps_while {c : Expr} {body : List Stmt} {tc : TT} {tb : TS} (hp : PassesOwn (model X.prog X.w) X.A X.env X.xe) (hc : PT X c tc) (hb : PSs X body tb) : PS X (.While c body [] pos) (tWhile tc tb) := by
  intro pins s σ H D I h
  obtain ⟨W, ⟨m0, w0⟩, turn⟩ := h
  refine wpAny_While (codeAny_whileLoop (fun n s' => ∃ σ' H', Inv X pins σ' H' s' ∧ W n σ' H') ?_ m0 ⟨σ, H, I, w0⟩)
  rintro n s1 ⟨σ1, H1, I1, w1⟩
  refine wpAny_passesOwn hp (thn (hc pins s1 σ1 H1 _ I1 (turn n σ1 H1 w1)) fun b s2 ⟨H2, I2, q2⟩ => ?_)
  cases b with
  | true =>
    obtain ⟨N, hN, q2⟩ := q2
    rw [if_pos rfl]
    refine wpAny_passesOwn hp (thn (hb pins s2 σ1 H2 _ I2 q2) fun f s3 q3 => ?_)
    cases f with
    | next =>
      obtain ⟨σ3, H3, I3, n3⟩ := q3
      obtain ⟨m', hm, w3⟩ := hN σ3 H3 n3
      exact ⟨m', hm, σ3, H3, I3, w3⟩
    | cont =>
      obtain ⟨σ3, H3, I3, n3⟩ := q3
      obtain ⟨m', hm, w3⟩ := hN σ3 H3 n3
      exact ⟨m', hm, σ3, H3, I3, w3⟩
    | brk => exact q3
    | ret v => exact q3
  | false =>
    rw [if_neg Bool.false_ne_true]
    exact wpAny_execs_nil ⟨σ1, H2, I2, q2⟩
end

/-! ### what a loop or a comprehension walks -/
/-- at turn i: it yields x (the heap may grow), or it stops -/
structure It where
  go : Nat → Hp → Prop
  yld : Nat → Hp → V → Hp → Prop
  stop : Nat → Hp → Prop
/-- the iterator's own objects may turn: they are not the frame's, not pinned, younger than the entry (or a comprehension's own) -/
def FpOk (X : Cx) (pins : List (Addr × Obj)) (H : Hp) (b : Addr) : Prop :=
  H b = none ∧ b ≠ X.env.locals ∧ b ∉ X.fs ∧ (b ∈ X.ex ∨ X.s₀.heap.objs.size ≤ b) ∧ (∀ x c, X.env.cells.lookup x = some c → c ≠ b) ∧ ∀ p ∈ X.pn ++ pins, p.1 ≠ b
theorem Inv.fpOk {X : Cx} {pins : List (Addr × Obj)} {σ : St} {H H' : Hp} {s : Shared} {b : Addr} (I : Inv X pins σ H s) (hb : s.heap.objs.size ≤ b) (hn : H' b = none) : FpOk X pins H' b := by
  refine ⟨hn, Nat.ne_of_gt (Nat.lt_of_lt_of_le I.lt hb), I.nofs hb, .inr (Nat.le_trans I.sz hb), fun x c e z => ?_, fun p hp z => ?_⟩
  · obtain ⟨v, q⟩ := I.cell x c e
    exact absurd (Nat.lt_of_lt_of_le q.lt (by rw [z]; exact hb)) (Nat.lt_irrefl _)
  · exact absurd (Nat.lt_of_lt_of_le (Heap.lt_size (I.pin p hp).1) (by rw [z]; exact hb)) (Nat.lt_irrefl _)
structure Turn (P : Program) (w : World) (K : PySem.W.Frag) (tg : Expr) (J : It) (fp : List Addr) (it : Addr) (tn : Nat → Heap → Prop) : Prop where
  mem : it ∈ fp
  obj : ∀ i h, tn i h → ∀ b ∈ fp, ∃ o, h.get? b = some o ∧ ∀ v, o.data ≠ .cell v
  keep : ∀ i h h', tn i h → (∀ b ∈ fp, ∀ o, h.get? b = some o → h'.get? b = some o) → tn i h'
  item : ∀ (X : Cx), X.prog = P → X.w = w → X.K = K → X.calm = true → ∀ (i : Nat) (pins : List (Addr × Obj)) (s : Shared) (σ : St) (H : Hp) (E : Value → Shared → Prop), Inv X pins σ H s → (∀ b ∈ fp, FpOk X pins H b) → tn i s.heap → J.go i H →
    wpAny (model P w) X.A (pyNext (.ref it)) (fun r s1 => ∃ u, r = some u ∧
      wpAny (model P w) X.A (letOwnedTupleGo tg (.ref it) u) (fun _ s2 => ∃ x H', Inv X pins σ H' s2 ∧ RelV x u ∧ J.yld i H x H' ∧ tn (i + 1) s2.heap ∧ ∀ b ∈ fp, H' b = none) E s1) E s
  done : ∀ (X : Cx), X.prog = P → X.w = w → X.K = K → X.calm = true → ∀ (i : Nat) (pins : List (Addr × Obj)) (s : Shared) (σ : St) (H : Hp) (E : Value → Shared → Prop), Inv X pins σ H s → (∀ b ∈ fp, FpOk X pins H b) → tn i s.heap → J.stop i H →
    wpAny (model P w) X.A (pyNext (.ref it)) (fun r s1 => r = none ∧ Inv X pins σ H s1) E s
  self : ∀ (A : Around) (i : Nat) (s : Shared) (Q : Value → Shared → Prop) (E : Value → Shared → Prop), tn i s.heap → Q (.ref it) s → wpAny (model P w) A (pyIter (.ref it)) Q E s
abbrev TI := St → Hp → (It → Hp → Prop) → Prop
/-- an iterator has come -/
def PIE (X : Cx) (pins : List (Addr × Obj)) (σ : St) (tg : Expr) (R : It → Hp → Prop) (itv : Value) (s2 : Shared) : Prop :=
  ∃ (it : Addr) (fp : List Addr) (tn : Nat → Heap → Prop) (J : It) (H' : Hp), itv = .ref it ∧ Inv X pins σ H' s2 ∧ Turn X.prog X.w X.K tg J fp it tn ∧ tn 0 s2.heap ∧ (∀ b ∈ fp, FpOk X pins H' b) ∧ R J H'
def PI (X : Cx) (tg iter : Expr) (wi : TI) : Prop :=
  ∀ (pins : List (Addr × Obj)) (s : Shared) (σ : St) (H : Hp) (R : It → Hp → Prop), Inv X pins σ H s → wi σ H R →
    wpAny (model X.prog X.w) X.A (eval iter X.env) (fun v s1 => wpAny (model X.prog X.w) X.A (pyIter v) (PIE X pins σ tg R) X.xe s1) X.xe s

/-- the step ahead of the store is nothing for an iterator that keeps no tuple -/
theorem go_of {M : Model} {A : Around} {E : Value → Shared → Prop} {s : Shared} {tg : Expr} {it : Addr} {u : Value} {o : Obj} {n : String} {vs : Array Value} {Q : Unit → Shared → Prop} (ho : s.heap.get? it = some o) (hc : o.cls = .type n) (hd : o.data = .fields vs)
    (hn : ["enumerate", "zip", "dict_itemiterator", "dict_reverseitemiterator", "odict_iterator", "itertools.zip_longest", "itertools.pairwise"].contains n = false) (hQ : Q () s) : wpAny M A (letOwnedTupleGo tg (.ref it) u) Q E s := by
  unfold letOwnedTupleGo
  cases tg <;> first
    | exact wpAny_pure hQ
    | (cases u <;> first
        | exact wpAny_pure hQ
        | (refine wpAny_bind (wpAny_load ho ?_)
           rw [hc, hd]
           show wpAny M A (if (["enumerate", "zip", "dict_itemiterator", "dict_reverseitemiterator", "odict_iterator", "itertools.zip_longest", "itertools.pairwise"].contains n && vs[0]? == some (rawInt _)) = true then _ else _) Q E s
           rw [if_neg (by intro h; rw [hn, Bool.false_and] at h; cases h)]
           exact wpAny_pure hQ))

/-- the list at a, as it stands at each turn (a loop may append to it) -/
def Itl (K : PySem.W.Frag) (a : Addr) : It :=
  ⟨fun i H => ∃ xs x, SqL K H a xs ∧ xs[i]? = some x, fun i H x H' => H' = H ∧ ∀ xs, SqL K H a xs → xs[i]? = some x, fun i H => ∃ xs, SqL K H a xs ∧ xs.length ≤ i⟩
def Itt (K : PySem.W.Frag) (a : Addr) : It :=
  ⟨fun i H => ∃ xs x, SqT K H a xs ∧ xs[i]? = some x, fun i H x H' => H' = H ∧ ∀ xs, SqT K H a xs → xs[i]? = some x, fun i H => ∃ xs, SqT K H a xs ∧ xs.length ≤ i⟩
/-- lo, lo + 1, .. (n of them) -/
def Itr (lo : Int) (n : Nat) : It := ⟨fun i _ => i < n, fun i H x H' => H' = H ∧ x = .int (lo + i), fun i _ => n ≤ i⟩
theorem turn_list {P : Program} {w : World} {K : PySem.W.Frag} {tg : Expr} (a it : Addr) : Turn P w K tg (Itl K a) [it] it (fun i h => h.IsListIter it a i) where
  mem := by simp
  obj := fun i h st b hb => by
    have e : b = it := by simpa using hb
    subst e
    obtain ⟨o, e, c, d⟩ := st
    exact ⟨o, e, fun v z => by rw [d] at z; cases z⟩
  keep := fun i h h' st k => st.at fun o e => k it (by simp) o e
  item := by
    intro X hP hw hK hc i pins s σ H E I hf st hg
    subst hP hw hK
    obtain ⟨xs, x, hq, hx⟩ := hg
    obtain ⟨its, rv, p, hz⟩ := I.list hq
    obtain ⟨u, hu, ru⟩ := rv.get hx
    obtain ⟨f0, f1, f2, f3, f4, f5⟩ := hf it (by simp)
    refine wpAny_pyNext_list_item st p.isList (x := u) (by simpa using hu) fun h' st' sb => ?_
    have I1 : Inv X pins σ H { s with heap := h' } := I.turned (t' := s.toks) (fun b o hb e => (sb.2 b hb).trans e) f0 f1 f3 f4 f5
    obtain ⟨o, e, c, d⟩ := id st'
    exact ⟨u, rfl, go_of (s := { s with heap := h' }) e c d (by decide) ⟨x, H, I1, ru, ⟨rfl, fun ys hy => by rw [I.list_inj hy hq]; exact hx⟩, st', fun b hb => (hf b hb).1⟩⟩
  done := by
    intro X hP hw hK hc i pins s σ H E I hf st hg
    subst hP hw hK
    obtain ⟨xs, hq, hx⟩ := hg
    obtain ⟨its, rv, p, hz⟩ := I.list hq
    obtain ⟨f0, f1, f2, f3, f4, f5⟩ := hf it (by simp)
    have hl := rv.length
    exact wpAny_pyNext_list_end (I.ok.hd hc) st p.isList (by simp; omega) fun h' eb => ⟨rfl, I.turned (t' := s.toks) (fun b o hb e => eb b o hb e) f0 f1 f3 f4 f5⟩
  self := fun _ _ _ _ _ st h => wpAny_pyIter_listiter st h
theorem turn_range {P : Program} {w : World} {K : PySem.W.Frag} {tg : Expr} (it : Addr) (lo : Int) (n : Nat) : Turn P w K tg (Itr lo n) [it] it (fun i h => IsRangeIter h it (lo + (i : Nat) * 1) ((n : Int) - (i : Nat)) 1) where
  mem := by simp
  obj := fun i h st b hb => by
    have e : b = it := by simpa using hb
    subst e
    exact ⟨_, st, fun v z => by
      have z' : Data.fields _ = Data.cell v := z
      cases z'⟩
  keep := fun i h h' st k => k it (by simp) _ st
  item := by
    intro X hP hw hK hc i pins s σ H E I hf st hg
    subst hP hw hK
    obtain ⟨f0, f1, f2, f3, f4, f5⟩ := hf it (by simp)
    have W := Walks.range (prog := X.prog) (w := X.w) (I.ok.hd hc) it lo 1 n
    refine W.item i s _ _ hg st fun v h' tk hv st' kk => ?_
    obtain ⟨t, rfl⟩ := hv
    have I1 : Inv X pins σ H { s with heap := h', toks := tk } := I.turned (fun b o hb e => kk b o (by simpa using hb) e) f0 f1 f3 f4 f5
    refine ⟨_, rfl, go_of (s := { s with heap := h', toks := tk }) (n := "range_iterator") st' rfl rfl (by decide) ⟨.int (lo + i), H, I1, ⟨t, ?_⟩, ⟨rfl, rfl⟩, st', fun b hb => (hf b hb).1⟩⟩
    rw [Int.mul_one]
  done := by
    intro X hP hw hK hc i pins s σ H E I hf st hg
    subst hP hw hK
    obtain ⟨f0, f1, f2, f3, f4, f5⟩ := hf it (by simp)
    exact wpAny_pyNext_range_end (I.ok.hd hc) st (by have : n ≤ i := hg; omega) fun h' eb => ⟨rfl, I.turned (t' := s.toks) (fun b o hb e => eb b o hb e) f0 f1 f3 f4 f5⟩
  self := fun _ _ _ _ _ st h => wpAny_pyIter_rangeiter st h
end L2

namespace L2
open PySem PySem.Spec PyProof.Rows
section
variable {X : Cx} {tg : Expr}
def iList (K : PySem.W.Frag) (tl : TE) : TI := fun σ H R => tl σ H fun x H1 => ∃ a, x = .ref a ∧ (∃ xs, SqL K H1 a xs) ∧ R (Itl K a) H1
def iTup (K : PySem.W.Frag) (tl : TE) : TI := fun σ H R => tl σ H fun x H1 => ∃ a, x = .ref a ∧ (∃ xs, SqT K H1 a xs) ∧ R (Itt K a) H1
theorem pi_list {l : Expr} {tl : TE} (hl : PE X l tl) : PI X tg l (iList X.K tl) := by
  intro pins s σ H R I h
  refine thn (hl pins s σ H _ I h) fun v s1 ⟨x, H1, I1, r1, q1⟩ => ?_
  obtain ⟨a, e, ⟨xs, hq⟩, q⟩ := q1
  subst e
  cases r1
  obtain ⟨its, rv, p, hz⟩ := I1.list hq
  refine wpAny_pyIter_list p.isList ?_
  refine ⟨s1.heap.objs.size, [s1.heap.objs.size], _, _, H1, rfl, I1.kept (t' := s1.toks) fun b o e => Heap.get?_push_of_some _ e, turn_list a _, ⟨_, Heap.get?_push_size _ rfl, rfl, rfl⟩, fun b hb => ?_, q⟩
  have e : b = s1.heap.objs.size := by simpa using hb
  subst e
  exact I1.fpOk (Nat.le_refl _) (I1.hok.fresh (Nat.le_refl _))
/-- a range object just made, walked -/
theorem range_it {pins : List (Addr × Obj)} {σ : St} {H : Hp} {s : Shared} {R : It → Hp → Prop} {E : Value → Shared → Prop} {lo hi : Int} {t u v : Tok} {tk : Nat} (I : Inv X pins σ H s) (h1 : -(2 ^ 62) ≤ lo) (h2 : lo < 2 ^ 62) (h3 : -(2 ^ 62) ≤ hi) (h4 : hi < 2 ^ 62)
    (q : R (Itr lo (hi - lo).toNat) H) : wpAny (model X.prog X.w) X.A (pyIter (.ref s.heap.objs.size)) (PIE X pins σ tg R) E { s with heap := s.heap.push { cls := .type "range", data := .fields #[.int lo t, .int hi u, .int 1 v] }, toks := tk } := by
  refine wpAny_pyIter_range (IsRange.new ..) (small_one h1 h2 h3 h4) ?_
  have I1 : Inv X pins σ H { s with heap := s.heap.push { cls := .type "range", data := .fields #[.int lo t, .int hi u, .int 1 v] }, toks := tk } := I.kept fun b o e => Heap.get?_push_of_some _ e
  refine ⟨(s.heap.push { cls := .type "range", data := .fields #[.int lo t, .int hi u, .int 1 v] }).objs.size, [(s.heap.push { cls := .type "range", data := .fields #[.int lo t, .int hi u, .int 1 v] }).objs.size], _, _, H, rfl,
    I1.kept (t' := tk) fun b o e => Heap.get?_push_of_some _ e, turn_range _ lo (hi - lo).toNat, ?_, fun b hb => ?_, q⟩
  · have e1 : lo + ((0 : Nat) : Int) * 1 = lo := by simp
    have e2 : (((hi - lo).toNat : Nat) : Int) - ((0 : Nat) : Int) = Builtin.Range.rangeSize lo hi 1 := by rw [rangeSize_one]; split <;> omega
    show IsRangeIter _ _ (lo + ((0 : Nat) : Int) * 1) ((((hi - lo).toNat : Nat) : Int) - ((0 : Nat) : Int)) 1
    rw [e1, e2]
    exact Heap.get?_push_size _ rfl
  · have e : b = (s.heap.push { cls := .type "range", data := .fields #[.int lo t, .int hi u, .int 1 v] }).objs.size := by simpa using hb
    subst e
    exact I1.fpOk (Nat.le_refl _) (I1.hok.fresh (Nat.le_refl _))
def iRng1 (ta : TA) : TI := fun σ H R => ta σ H fun vs H1 => ∃ j : Int, vs = [.int j] ∧ -(2 ^ 62) ≤ j ∧ j < 2 ^ 62 ∧ R (Itr 0 j.toNat) H1
def iRng2 (ta : TA) : TI := fun σ H R => ta σ H fun vs H1 => ∃ i j : Int, vs = [.int i, .int j] ∧ (-(2 ^ 62) ≤ i ∧ i < 2 ^ 62 ∧ -(2 ^ 62) ≤ j ∧ j < 2 ^ 62) ∧ R (Itr i (j - i).toNat) H1
theorem pi_range1 {a : Expr} {ta : TA} {p pos : Pos} (hg : Gl X "range") (hm : X.mg "range" = none) (ha : PA X [a] ta) (hs : starEach [a] X.env = [(false, eval a X.env)] := by rfl) : PI X tg (.Call (.Name "range" p) [a] [] pos) (iRng1 ta) := by
  intro pins s σ H R I h
  refine Call_ (ld_blt I hg hm boot_range (PyProof.Rows.callWith_type1 (thn (ha pos pins s σ H _ I h) fun us s1 ⟨vs, H1, I1, r1, q1⟩ => ?_) hs rfl))
  obtain ⟨j, e, q1, q2, q⟩ := q1
  subst e
  cases r1 with
  | cons r rr =>
    cases rr
    obtain ⟨t, rfl⟩ := r
    exact call_range_1 (range_it I1 (by omega) (by omega) q1 q2 (by simpa using q))
theorem pi_range2 {a b : Expr} {ta : TA} {p pos : Pos} (hg : Gl X "range") (hm : X.mg "range" = none) (ha : PA X [a, b] ta) (hs : starEach [a, b] X.env = [(false, eval a X.env), (false, eval b X.env)] := by rfl) (hs2 : starEach [b] X.env = [(false, eval b X.env)] := by rfl) :
    PI X tg (.Call (.Name "range" p) [a, b] [] pos) (iRng2 ta) := by
  intro pins s σ H R I h
  refine Call_ (ld_blt I hg hm boot_range (PyProof.Rows.callWith_type1 (thn (ha pos pins s σ H _ I h) fun us s1 ⟨vs, H1, I1, r1, q1⟩ => ?_) (by rw [hs, hs2]) (by rw [hs2]; rfl)))
  obtain ⟨i, j, e, ⟨q1, q2, q3, q4⟩, q⟩ := q1
  subst e
  cases r1 with
  | cons r rr =>
    cases rr with
    | cons r' rr =>
      cases rr
      obtain ⟨t, rfl⟩ := r
      obtain ⟨t', rfl⟩ := r'
      exact call_range_2 (range_it I1 q1 q2 q3 q4 q)

/-! ### for -/
/-- W: the invariant by the turn and a measure; N: what the body is to reach -/
def tFor (wi : TI) (g : TG) (tb : TS) : TS := fun D σ H => wi σ H fun J H1 => ∃ W : Nat → Nat → St → Hp → Prop, (∃ m, W 0 m σ H1) ∧ ∀ i m σ H, W i m σ H →
  (J.stop i H ∧ D.nx σ H) ∨ (J.go i H ∧ ∃ N : St → Hp → Prop, (∀ σ' H', N σ' H' → ∃ m', m' < m ∧ W (i + 1) m' σ' H') ∧ ∀ x H', J.yld i H x H' → g x σ H' fun σ2 H2 => tb { D with nx := N, ct := N, bk := D.nx } σ2 H2)
/-- the records at fp as they stand -/
def pinsAt (fp : List Addr) (h : Heap) : List (Addr × Obj) := fp.filterMap fun b => (h.get? b).map fun o => (b, o)
theorem mem_pinsAt {fp : List Addr} {h : Heap} {b : Addr} {o : Obj} (hb : b ∈ fp) (e : h.get? b = some o) : (b, o) ∈ pinsAt fp h := List.mem_filterMap.mpr ⟨b, hb, by rw [e]; rfl⟩
theorem of_pinsAt {fp : List Addr} {h : Heap} {p : Addr × Obj} (hp : p ∈ pinsAt fp h) : p.1 ∈ fp ∧ h.get? p.1 = some p.2 := by
  obtain ⟨b, hb, e⟩ := List.mem_filterMap.mp hp
  cases q : h.get? b with
  | none => rw [q] at e; cases e
  | some o =>
    rw [q] at e
    have e' : (b, o) = p := Option.some.inj e
    subst e'
    exact ⟨hb, q⟩
theorem Inv.pinned {pins : List (Addr × Obj)} {σ : St} {H : Hp} {s : Shared} {fp : List Addr} (I : Inv X pins σ H s) (hf : ∀ b ∈ fp, FpOk X pins H b) (ho : ∀ b ∈ fp, ∃ o, s.heap.get? b = some o ∧ ∀ v, o.data ≠ .cell v) : Inv X (pins ++ pinsAt fp s.heap) σ H s :=
  I.pins_of fun p hp => (List.mem_append.mp hp).elim (fun z => I.pin p (List.mem_append_right _ z)) fun z => by
    obtain ⟨hb, e⟩ := of_pinsAt z
    obtain ⟨f0, f1, f2, _⟩ := hf p.1 hb
    obtain ⟨o, e', d⟩ := ho p.1 hb
    rw [e] at e'; cases e'
    exact ⟨e, f0, f1, f2, d⟩
theorem Inv.unpinned {pins pl : List (Addr × Obj)} {σ : St} {H : Hp} {s : Shared} (I : Inv X (pins ++ pl) σ H s) : Inv X pins σ H s := I.pins_of fun p hp => I.pin p (List.mem_append_right _ (List.mem_append_left _ hp))
theorem ps_for {iter : Expr} {body : List Stmt} {wi : TI} {g : TG} {tb : TS} {pos : Pos} (hp : PassesOwn (model X.prog X.w) X.A X.env X.xe) (hc : X.calm = true) (hi : PI X tg iter wi) (hg : PG X tg g) (hb : PSs X body tb)
    (hs : ∀ x, foldedSetIterable iter X.env x = pure x := by intro _; rfl) : PS X (.For tg iter body [] pos) (tFor wi g tb) := by
  intro pins s σ H D I h
  refine wpAny_For (thn (hi pins s σ H _ I h) fun v s1 h1 => thn h1 fun itv s2 h2 => ?_) hs
  obtain ⟨it, fp, tn, J, H2, e, I2, T, st2, f2, W, ⟨m0, w0⟩, turn⟩ := h2
  subst e
  -- what stays true of the iterator's objects through the loop
  have stat : ∀ {H' : Hp}, (∀ b ∈ fp, H' b = none) → ∀ b ∈ fp, FpOk X pins H' b := fun hn b hb => ⟨hn b hb, (f2 b hb).2⟩
  refine codeAny_forLoop_any (fun n s' => ∃ i σ' H', Inv X pins σ' H' s' ∧ tn i s'.heap ∧ (∀ b ∈ fp, H' b = none) ∧ W i n σ' H') ?_ m0 ⟨0, σ, H2, I2, st2, fun b hb => (f2 b hb).1, w0⟩
  rintro n s3 ⟨i, σ3, H3, I3, st3, fr3, w3⟩
  rcases turn i n σ3 H3 w3 with ⟨stop, qn⟩ | ⟨go, N, hN, step⟩
  · refine wpAny_passesOwn hp (thn (T.done X rfl rfl rfl hc i pins s3 σ3 H3 X.xe I3 (stat fr3) st3 stop) fun r s4 ⟨hr, I4⟩ => ?_)
    subst hr
    exact wpAny_execs_nil ⟨σ3, H3, I4, qn⟩
  · refine wpAny_passesOwn hp (thn (T.item X rfl rfl rfl hc i pins s3 σ3 H3 X.xe I3 (stat fr3) st3 go) fun r s4 ⟨u, hr, h4⟩ => ?_)
    subst hr
    refine wpAny_passesOwn hp (thn h4 fun _ s5 ⟨x, H5, I5, r5, y5, st5, fr5⟩ => ?_)
    have I5' := I5.pinned (stat fr5) (T.obj _ _ st5)
    refine wpAny_passesOwn hp (thn (hg _ s5 σ3 H5 x u _ I5' r5 (step x H5 y5)) fun _ s6 ⟨σ6, H6, I6, q6⟩ => ?_)
    refine wpAny_passesOwn hp (thn (hb _ s6 σ6 H6 _ I6 q6) fun f s7 q7 => ?_)
    have again : ∀ {σ7 : St} {H7 : Hp}, Inv X (pins ++ pinsAt fp s5.heap) σ7 H7 s7 → N σ7 H7 → ∃ m, m < n ∧ ∃ i σ' H', Inv X pins σ' H' s7 ∧ tn i s7.heap ∧ (∀ b ∈ fp, H' b = none) ∧ W i m σ' H' := fun {σ7 H7} I7 n7 => by
      obtain ⟨m', hm, w7⟩ := hN σ7 H7 n7
      refine ⟨m', hm, i + 1, σ7, H7, I7.unpinned, T.keep _ _ _ st5 fun b hb o e => (I7.pin (b, o) (List.mem_append_right _ (List.mem_append_right _ (mem_pinsAt hb e)))).1, fun b hb => ?_, w7⟩
      obtain ⟨o, e, d⟩ := T.obj _ _ st5 b hb
      exact (I7.pin (b, o) (List.mem_append_right _ (List.mem_append_right _ (mem_pinsAt hb e)))).2.1
    cases f with
    | next => obtain ⟨σ7, H7, I7, n7⟩ := q7; exact again I7 n7
    | cont => obtain ⟨σ7, H7, I7, n7⟩ := q7; exact again I7 n7
    | brk => obtain ⟨σ7, H7, I7, q7⟩ := q7; exact ⟨σ7, H7, I7.unpinned, q7⟩
    | ret v => obtain ⟨x7, σ7, H7, I7, r7, q7⟩ := q7; exact ⟨x7, σ7, H7, I7.unpinned, r7, q7⟩
end

/-! ### the forms one uses -/
/-- over a list that the body leaves as it is -/
theorem for_list {K : PySem.W.Frag} {a : Addr} {xs : List V} {g : TG} {tb : TS} {D : Ends} {σ : St} {H : Hp} (Pv : Nat → St → Hp → Prop) (h0 : Pv 0 σ H) (hl : ∀ i σ H, i ≤ xs.length → Pv i σ H → SqL K H a xs)
    (hs : ∀ i x σ H, xs[i]? = some x → Pv i σ H → g x σ H fun σ2 H2 => tb { D with nx := Pv (i + 1), ct := Pv (i + 1), bk := D.nx } σ2 H2) (hd : ∀ σ H, Pv xs.length σ H → D.nx σ H) :
    ∃ W : Nat → Nat → St → Hp → Prop, (∃ m, W 0 m σ H) ∧ ∀ i m σ H, W i m σ H →
      ((Itl K a).stop i H ∧ D.nx σ H) ∨ ((Itl K a).go i H ∧ ∃ N : St → Hp → Prop, (∀ σ' H', N σ' H' → ∃ m', m' < m ∧ W (i + 1) m' σ' H') ∧ ∀ x H', (Itl K a).yld i H x H' → g x σ H' fun σ2 H2 => tb { D with nx := N, ct := N, bk := D.nx } σ2 H2) := by
  refine ⟨fun i m σ H => m = xs.length - i ∧ i ≤ xs.length ∧ Pv i σ H, ⟨xs.length, by simp, Nat.zero_le _, h0⟩, ?_⟩
  rintro i m σ H ⟨rfl, hi, p⟩
  have q := hl i σ H hi p
  by_cases hlt : i < xs.length
  · refine .inr ⟨⟨xs, xs[i], q, by simp [hlt]⟩, Pv (i + 1), fun σ' H' p' => ⟨xs.length - (i + 1), by omega, rfl, hlt, p'⟩, fun x H' y => ?_⟩
    obtain ⟨e, y⟩ := y
    subst e
    exact hs i x σ _ (y xs q) p
  · have e : i = xs.length := by omega
    subst e
    exact .inl ⟨⟨xs, q, Nat.le_refl _⟩, hd σ H p⟩
theorem for_range {lo : Int} {n : Nat} {g : TG} {tb : TS} {D : Ends} {σ : St} {H : Hp} (Pv : Nat → St → Hp → Prop) (h0 : Pv 0 σ H)
    (hs : ∀ i σ H, i < n → Pv i σ H → g (.int (lo + i)) σ H fun σ2 H2 => tb { D with nx := Pv (i + 1), ct := Pv (i + 1), bk := D.nx } σ2 H2) (hd : ∀ σ H, Pv n σ H → D.nx σ H) :
    ∃ W : Nat → Nat → St → Hp → Prop, (∃ m, W 0 m σ H) ∧ ∀ i m σ H, W i m σ H →
      ((Itr lo n).stop i H ∧ D.nx σ H) ∨ ((Itr lo n).go i H ∧ ∃ N : St → Hp → Prop, (∀ σ' H', N σ' H' → ∃ m', m' < m ∧ W (i + 1) m' σ' H') ∧ ∀ x H', (Itr lo n).yld i H x H' → g x σ H' fun σ2 H2 => tb { D with nx := N, ct := N, bk := D.nx } σ2 H2) := by
  refine ⟨fun i m σ H => m = n - i ∧ i ≤ n ∧ Pv i σ H, ⟨n, by simp, Nat.zero_le _, h0⟩, ?_⟩
  rintro i m σ H ⟨rfl, hi, p⟩
  by_cases hlt : i < n
  · refine .inr ⟨hlt, Pv (i + 1), fun σ' H' p' => ⟨n - (i + 1), by omega, rfl, hlt, p'⟩, fun x H' y => ?_⟩
    obtain ⟨e, y⟩ := y
    subst e y
    exact hs i σ _ hlt p
  · have e : i = n := by omega
    subst e
    exact .inl ⟨Nat.le_refl _, hd σ H p⟩
end L2

namespace L2
open PySem PySem.Spec PyProof.Rows

abbrev R2 := V → V → Hp → VK → Prop
/-- a two-place operation on values: f is binaryOp op, inplaceOp op or compareOp op -/
def OpR (X : Cx) (f : Value → Value → Sem Value) (r : R2) : Prop :=
  ∀ (pins : List (Addr × Obj)) (s : Shared) (σ : St) (H : Hp) (x y : V) (v u : Value) (Q : VK), Inv X pins σ H s → RelV x v → RelV y u → r x y H Q →
    wpAny (model X.prog X.w) X.A (f v u) (EP X pins σ Q) X.xe s
/-- a one-place operation -/
def UnR (X : Cx) (f : Value → Sem Value) (r : V → Hp → VK → Prop) : Prop :=
  ∀ (pins : List (Addr × Obj)) (s : Shared) (σ : St) (H : Hp) (x : V) (v : Value) (Q : VK), Inv X pins σ H s → RelV x v → r x H Q →
    wpAny (model X.prog X.w) X.A (f v) (EP X pins σ Q) X.xe s
/-- a call of a value that is known (a builtin, a type) with values -/
def CallR (X : Cx) (f : Value) (r : List V → Hp → VK → Prop) : Prop :=
  ∀ (pins : List (Addr × Obj)) (s : Shared) (σ : St) (H : Hp) (xs : List V) (us : List Value) (Q : VK), Inv X pins σ H s → Vals xs us → r xs H Q →
    wpAny (model X.prog X.w) X.A (call f us) (EP X pins σ Q) X.xe s
/-- a value's truth -/
def TruR (X : Cx) (r : V → Hp → (Bool → Hp → Prop) → Prop) : Prop :=
  ∀ (pins : List (Addr × Obj)) (s : Shared) (σ : St) (H : Hp) (x : V) (v : Value) (Q : Bool → Hp → Prop), Inv X pins σ H s → RelV x v → r x H Q →
    wpAny (model X.prog X.w) X.A (truthy v) (TP X pins σ Q) X.xe s

def tOp (r : R2) (ta tb : TE) : TE := fun σ H Q => ta σ H fun x H1 => tb σ H1 fun y H2 => r x y H2 Q
def tUn (r : V → Hp → VK → Prop) (ta : TE) : TE := fun σ H Q => ta σ H fun x H1 => r x H1 Q
/-- ints in, under C, and a value out -/
def rI (C : Int → Int → Prop) (g : Int → Int → V) : R2 := fun x y H Q => ∃ i j, x = .int i ∧ y = .int j ∧ C i j ∧ Q (g i j) H
def rI0 (g : Int → Int → V) : R2 := fun x y H Q => ∃ i j, x = .int i ∧ y = .int j ∧ Q (g i j) H
def rU (g : Int → V) : V → Hp → VK → Prop := fun x H Q => ∃ i, x = .int i ∧ Q (g i) H

section
variable {X : Cx} {a b c : Expr} {ta tb tc : TE} {pos : Pos}

theorem binT (ha : PE X a ta) (hb : PE X b tb) {pins : List (Addr × Obj)} {s : Shared} {σ : St} {H : Hp} {R : V → V → Hp → Prop} (I : Inv X pins σ H s)
    (h : ta σ H fun x H1 => tb σ H1 fun y H2 => R x y H2) {Q : Value → Shared → Prop} {f : Value → Value → Sem Value}
    (hf : ∀ v u s2 x y H2, Inv X pins σ H2 s2 → RelV x v → RelV y u → R x y H2 → wpAny (model X.prog X.w) X.A (f v u) Q X.xe s2) :
    wpAny (model X.prog X.w) X.A (eval a X.env) (fun v s₁ => wpAny (model X.prog X.w) X.A (eval b X.env) (fun u s₂ => wpAny (model X.prog X.w) X.A (f v u) Q X.xe s₂) X.xe s₁) X.xe s := by
  refine thn (ha pins s σ H _ I h) fun v s1 ⟨x, H1, I1, r1, q1⟩ => ?_
  refine thn (hb pins s1 σ H1 _ I1 q1) fun u s2 ⟨y, H2, I2, r2, q2⟩ => ?_
  exact hf v u s2 x y H2 I2 r1 r2 q2

theorem pe_op {op : Operator} {r : R2} (ho : OpR X (binaryOp op) r) (ha : PE X a ta) (hb : PE X b tb) : PE X (.BinOp a op b pos) (tOp r ta tb) := by
  intro pins s σ H Q I h
  exact wpAny_BinOp (binT ha hb I h fun v u s2 x y H2 I2 rx ry q => ho pins s2 σ H2 x y v u Q I2 rx ry q)
theorem pe_un {op : UnaryOp} {r : V → Hp → VK → Prop} (ho : UnR X (unaryOp op) r) (ha : PE X a ta) : PE X (.UnaryOp op a pos) (tUn r ta) := by
  intro pins s σ H Q I h
  exact UnaryOp_ (thn (ha pins s σ H _ I h) fun v s1 ⟨x, H1, I1, r1, q1⟩ => ho pins s1 σ H1 x v Q I1 r1 q1)
/-! ### ints -/
theorem opI {f : Value → Value → Sem Value} {C : Int → Int → Prop} {g : Int → Int → Int}
    (rule : ∀ (i j : Int) (t u : Tok) (s : Shared) (Q : Value → Shared → Prop) (E : Value → Shared → Prop), C i j → Q (.int (g i j) s.toks) { s with toks := s.toks + 1 } → wpAny (model X.prog X.w) X.A (f (.int i t) (.int j u)) Q E s) :
    OpR X f (rI C fun i j => .int (g i j)) := by
  intro pins s σ H x y v u Q I rx ry h
  obtain ⟨i, j, rfl, rfl, hc, q⟩ := h
  obtain ⟨t, rfl⟩ := rx
  obtain ⟨t', rfl⟩ := ry
  exact rule i j t t' s _ _ hc ⟨.int (g i j), H, I.tok _, ⟨_, rfl⟩, q⟩
theorem opI0 {f : Value → Value → Sem Value} {g : Int → Int → Int}
    (rule : ∀ (i j : Int) (t u : Tok) (s : Shared) (Q : Value → Shared → Prop) (E : Value → Shared → Prop), Q (.int (g i j) s.toks) { s with toks := s.toks + 1 } → wpAny (model X.prog X.w) X.A (f (.int i t) (.int j u)) Q E s) :
    OpR X f (rI0 fun i j => .int (g i j)) := by
  intro pins s σ H x y v u Q I rx ry h
  obtain ⟨i, j, rfl, rfl, q⟩ := h
  obtain ⟨t, rfl⟩ := rx
  obtain ⟨t', rfl⟩ := ry
  exact rule i j t t' s _ _ ⟨.int (g i j), H, I.tok _, ⟨_, rfl⟩, q⟩
theorem opB0 {f : Value → Value → Sem Value} {g : Int → Int → Bool}
    (rule : ∀ (i j : Int) (t u : Tok) (s : Shared) (Q : Value → Shared → Prop) (E : Value → Shared → Prop), Q (.bool (g i j)) s → wpAny (model X.prog X.w) X.A (f (.int i t) (.int j u)) Q E s) :
    OpR X f (rI0 fun i j => .bl (g i j)) := by
  intro pins s σ H x y v u Q I rx ry h
  obtain ⟨i, j, rfl, rfl, q⟩ := h
  obtain ⟨t, rfl⟩ := rx
  obtain ⟨t', rfl⟩ := ry
  exact rule i j t t' s _ _ ⟨.bl (g i j), H, I, rfl, q⟩

def CDiv (i j : Int) : Prop := 0 < j ∧ j < 1073741824
def CDivN (i j : Int) : Prop := j ≠ 0 ∧ j.natAbs < 1073741824
def CPow (i j : Int) : Prop := 0 ≤ j ∧ j ≤ 1000000 ∧ i.natAbs < 2 ^ 64
def CMul (i j : Int) : Prop := (-(2 ^ 64) < i ∧ i < 2 ^ 64) ∨ (-(2 ^ 64) < j ∧ j < 2 ^ 64)
theorem CMul.ok {i j : Int} (h : CMul i j) : IntMulOk i j := by
  rcases h with ⟨h1, h2⟩ | ⟨h1, h2⟩
  · exact .of_left (intBits_le_64 h1 h2)
  · exact .of_right (intBits_le_64 h1 h2)
theorem op_add : OpR X (binaryOp .Add) (rI0 fun i j => .int (i + j)) := opI0 fun _ _ _ _ _ _ _ q => add_int q
theorem op_sub : OpR X (binaryOp .Sub) (rI0 fun i j => .int (i - j)) := opI0 fun _ _ _ _ _ _ _ q => sub_int q
theorem op_mul : OpR X (binaryOp .Mult) (rI CMul fun i j => .int (i * j)) := opI fun _ _ _ _ _ _ _ hc q => mul_int q hc.ok
/-- // by a positive divisor -/
theorem op_fdiv : OpR X (binaryOp .FloorDiv) (rI CDiv fun i j => .int (i / j)) := opI fun i j _ _ _ _ _ hc q => by
  have h1 : (0 : Int) < j := hc.1
  have h2 : j < 1073741824 := hc.2
  exact floordiv_int (by omega) (by rw [Int.fdiv_eq_ediv_of_nonneg i (by omega)]; exact q) (.inl (PyProof.noPylong_small (by omega)))
/-- % by a positive divisor of any size -/
theorem op_mod : OpR X (binaryOp .Mod) (rI (fun _ j => 0 < j) fun i j => .int (i % j)) := opI fun i j _ _ _ _ _ hc q => by
  have h1 : (0 : Int) < j := hc
  exact mod_int' (by omega) (by rw [Int.fmod_eq_emod_of_nonneg i (by omega)]; exact q)
theorem unI {f : Value → Sem Value} {g : Int → Int}
    (rule : ∀ (i : Int) (t : Tok) (s : Shared) (Q : Value → Shared → Prop) (E : Value → Shared → Prop), Q (.int (g i) s.toks) { s with toks := s.toks + 1 } → wpAny (model X.prog X.w) X.A (f (.int i t)) Q E s) :
    UnR X f (rU fun i => .int (g i)) := by
  intro pins s σ H x v Q I rx h
  obtain ⟨i, rfl, q⟩ := h
  obtain ⟨t, rfl⟩ := rx
  exact rule i t s _ _ ⟨.int (g i), H, I.tok _, ⟨_, rfl⟩, q⟩
theorem un_neg : UnR X (unaryOp .USub) (rU fun i => .int (-i)) := unI fun _ _ _ _ _ q => neg_int q
/-! ### bools among ints: n += (a < b) -/
end

/-! ### comparisons -/
/-- the scalars that == tells apart as data does -/
def scal : V → V → Bool
  | .non, .non => true | .non, .int _ => true | .int _, .non => true | .non, .bl _ => true | .bl _, .non => true | .non, .str _ => true | .str _, .non => true
  | .int _, .int _ => true | .bl _, .bl _ => true | .str _, .str _ => true | .byt _, .byt _ => true
  | .int _, .str _ => true | .str _, .int _ => true | .bl _, .str _ => true | .str _, .bl _ => true
  | _, _ => false
def rEq : R2 := fun x y H Q => scal x y = true ∧ Q (.bl (decide (x = y))) H
def rNe : R2 := fun x y H Q => scal x y = true ∧ Q (.bl (!decide (x = y))) H

theorem dec_int {i j : Int} : decide (V.int i = V.int j) = (i == j) := by
  rw [Bool.eq_iff_iff]
  simp
theorem dec_bl {i j : Bool} : decide (V.bl i = V.bl j) = (i == j) := by
  rw [Bool.eq_iff_iff]
  simp
theorem dec_str {i j : Str} : decide (V.str i = V.str j) = (i == j) := by
  rw [Bool.eq_iff_iff]
  simp
theorem dec_byt {i j : Array UInt8} : decide (V.byt i = V.byt j) = (i.toList == j.toList) := by
  rw [Bool.eq_iff_iff]
  cases i
  cases j
  simp

section
variable {X : Cx} {a b c : Expr} {ta tb tc : TE} {pos : Pos}
theorem fin_bl {pins : List (Addr × Obj)} {σ : St} {H : Hp} {s : Shared} {Q : VK} {k k' : Bool} (I : Inv X pins σ H s) (q : Q (.bl k) H) (e : k = k') : EP X pins σ Q (.bool k') s := by
  subst e
  exact ⟨.bl k, H, I, rfl, q⟩
theorem op_eq : OpR X (compareOp .Eq) rEq := by
  intro pins s σ H x y v u Q I rx ry h
  obtain ⟨hs, q⟩ := h
  cases x with
  | non =>
    cases rx
    cases y with
    | non => cases ry; exact PySem.EqNone.eq_none_none (fin_bl I q (by simp))
    | bl j => cases ry; exact PySem.EqNone.eq_none_bool (fin_bl I q (by simp))
    | int j => obtain ⟨t', rfl⟩ := ry; exact PySem.EqNone.eq_none_int (fin_bl I q (by simp))
    | str j => obtain ⟨t', rfl⟩ := ry; exact PySem.EqNone.eq_none_str (fin_bl I q (by simp))
    | _ => exact absurd (show false = true from hs) Bool.false_ne_true
  | bl i =>
    cases rx
    cases y with
    | non => cases ry; exact PySem.EqNone.eq_bool_none (fin_bl I q (by simp))
    | bl j => cases ry; exact eq_bool (fin_bl I q dec_bl)
    | str j => obtain ⟨t', rfl⟩ := ry; exact PySem.EqMixed.eq_bool_str (fin_bl I q (by simp))
    | _ => exact absurd (show false = true from hs) Bool.false_ne_true
  | int i =>
    obtain ⟨t, rfl⟩ := rx
    cases y with
    | non => cases ry; exact PySem.EqNone.eq_int_none (fin_bl I q (by simp))
    | int j => obtain ⟨t', rfl⟩ := ry; exact eq_int (fin_bl I q dec_int)
    | str j => obtain ⟨t', rfl⟩ := ry; exact PySem.EqMixed.eq_int_str (fin_bl I q (by simp))
    | _ => exact absurd (show false = true from hs) Bool.false_ne_true
  | str i =>
    obtain ⟨t, rfl⟩ := rx
    cases y with
    | non => cases ry; exact PySem.EqNone.eq_str_none (fin_bl I q (by simp))
    | bl j => cases ry; exact PySem.EqMixed.eq_str_bool (fin_bl I q (by simp))
    | int j => obtain ⟨t', rfl⟩ := ry; exact PySem.EqMixed.eq_str_int (fin_bl I q (by simp))
    | str j => obtain ⟨t', rfl⟩ := ry; exact eq_str (fin_bl I q dec_str)
    | _ => exact absurd (show false = true from hs) Bool.false_ne_true
  | byt i =>
    obtain ⟨t, rfl⟩ := rx
    cases y with
    | byt j => obtain ⟨t', rfl⟩ := ry; exact PySem.W.eq_bytes (fin_bl I q dec_byt)
    | _ => exact absurd (show false = true from hs) Bool.false_ne_true
  | _ => cases y <;> exact absurd (show false = true from hs) Bool.false_ne_true
theorem op_ne : OpR X (compareOp .NotEq) rNe := by
  intro pins s σ H x y v u Q I rx ry h
  obtain ⟨hs, q⟩ := h
  cases x with
  | non =>
    cases rx
    cases y with
    | non => cases ry; exact PySem.EqNone.ne_none_none (fin_bl I q (by simp))
    | bl j => cases ry; exact PySem.EqNone.ne_none_bool (fin_bl I q (by simp))
    | int j => obtain ⟨t', rfl⟩ := ry; exact PySem.EqNone.ne_none_int (fin_bl I q (by simp))
    | str j => obtain ⟨t', rfl⟩ := ry; exact PySem.EqNone.ne_none_str (fin_bl I q (by simp))
    | _ => exact absurd (show false = true from hs) Bool.false_ne_true
  | bl i =>
    cases rx
    cases y with
    | non => cases ry; exact PySem.EqNone.ne_bool_none (fin_bl I q (by simp))
    | bl j => cases ry; exact ne_bool (fin_bl I q (congrArg not dec_bl))
    | str j => obtain ⟨t', rfl⟩ := ry; exact PySem.EqMixed.ne_bool_str (fin_bl I q (by simp))
    | _ => exact absurd (show false = true from hs) Bool.false_ne_true
  | int i =>
    obtain ⟨t, rfl⟩ := rx
    cases y with
    | non => cases ry; exact PySem.EqNone.ne_int_none (fin_bl I q (by simp))
    | int j => obtain ⟨t', rfl⟩ := ry; exact ne_int (fin_bl I q (congrArg not dec_int))
    | str j => obtain ⟨t', rfl⟩ := ry; exact PySem.EqMixed.ne_int_str (fin_bl I q (by simp))
    | _ => exact absurd (show false = true from hs) Bool.false_ne_true
  | str i =>
    obtain ⟨t, rfl⟩ := rx
    cases y with
    | non => cases ry; exact PySem.EqNone.ne_str_none (fin_bl I q (by simp))
    | bl j => cases ry; exact PySem.EqMixed.ne_str_bool (fin_bl I q (by simp))
    | int j => obtain ⟨t', rfl⟩ := ry; exact PySem.EqMixed.ne_str_int (fin_bl I q (by simp))
    | str j => obtain ⟨t', rfl⟩ := ry; exact ne_str (fin_bl I q (congrArg not dec_str))
    | _ => exact absurd (show false = true from hs) Bool.false_ne_true
  | byt i =>
    obtain ⟨t, rfl⟩ := rx
    cases y with
    | byt j => obtain ⟨t', rfl⟩ := ry; exact PySem.W.ne_bytes (fin_bl I q (congrArg not dec_byt))
    | _ => exact absurd (show false = true from hs) Bool.false_ne_true
  | _ => cases y <;> exact absurd (show false = true from hs) Bool.false_ne_true

theorem op_lt : OpR X (compareOp .Lt) (rI0 fun i j => .bl (decide (i < j))) := opB0 fun _ _ _ _ _ _ _ q => lt_int q
theorem op_le : OpR X (compareOp .LtE) (rI0 fun i j => .bl (decide (i ≤ j))) := opB0 fun _ _ _ _ _ _ _ q => le_int q
theorem op_gt : OpR X (compareOp .Gt) (rI0 fun i j => .bl (decide (j < i))) := opB0 fun _ _ _ _ _ _ _ q => gt_int q
theorem op_ge : OpR X (compareOp .GtE) (rI0 fun i j => .bl (decide (j ≤ i))) := opB0 fun _ _ _ _ _ _ _ q => ge_int q
/-- is, is not of two objects that are tracked lists or instances -/
def isObj : HO → Bool
  | .lst _ => true
  | .ins _ _ _ => true
  | _ => false
/-- two rules for one operation: by cases -/
theorem OpR.or {f : Value → Value → Sem Value} {r r' : R2} (h : OpR X f r) (h' : OpR X f r') : OpR X f (fun x y H Q => r x y H Q ∨ r' x y H Q) := by
  intro pins s σ H x y v u Q I rx ry q
  rcases q with q | q
  · exact h pins s σ H x y v u Q I rx ry q
  · exact h' pins s σ H x y v u Q I rx ry q

theorem nomark (b : Expr) {op : CmpOp} (h : op ≠ .In := by decide) (h2 : op ≠ .NotIn := by decide) : behindInMarks op b = false := by
  have e1 : (op == CmpOp.In) = false := by cases op <;> first | rfl | exact absurd rfl h
  have e2 : (op == CmpOp.NotIn) = false := by cases op <;> first | rfl | exact absurd rfl h2
  cases b <;> simp [behindInMarks, e1, e2]
/-- a comparison as a value; hm: nomark b, or (for in, not in) by with_unfolding_all rfl -/
theorem pe_cmpR {op : CmpOp} {r : R2} (ho : OpR X (compareOp op) r) (ha : PE X a ta) (hb : PE X b tb) (hm : behindInMarks op b = false) : PE X (.Compare a [op] [b] pos) (tOp r ta tb) := by
  intro pins s σ H Q I h
  exact wpAny_Compare1 (binT ha hb I h fun v u s2 x y H2 I2 rx ry q => ho pins s2 σ H2 x y v u Q I2 rx ry q) hm
/-- a reading of a value as a test -/
def tTest (t : TE) : TT := fun σ H Q => t σ H fun x H' => ∃ k, x = .bl k ∧ Q k H'
theorem pt_cmpR {op : CmpOp} {r : R2} (ho : OpR X (compareOp op) r) (ha : PE X a ta) (hb : PE X b tb) (hm : behindInMarks op b = false) : PT X (.Compare a [op] [b] pos) (tTest (tOp r ta tb)) := by
  intro pins s σ H Q I h
  refine wpAny_isTrue_Compare1 (thn (ha pins s σ H _ I h) fun v s1 ⟨x, H1, I1, r1, q1⟩ => thn (hb pins s1 σ H1 _ I1 q1) fun u s2 ⟨y, H2, I2, r2, q2⟩ =>
    thn (ho pins s2 σ H2 x y v u _ I2 r1 r2 q2) fun c s3 ⟨z, H3, I3, r3, k, e, q3⟩ => ?_) hm
  subst e
  cases r3
  exact wpAny_truthy_bool ⟨H3, I3, q3⟩
/-- a op1 b op2 c -/
def tChain (r r' : R2) (ta tb tc : TE) : TE := fun σ H Q => ta σ H fun x H1 => tb σ H1 fun y H2 => r x y H2 fun z H3 => ∃ k, z = .bl k ∧
  (if k = true then tc σ H3 fun w' H4 => r' y w' H4 Q else Q (.bl false) H3)
/-! ### truth -/
/-- a value's truth by the abstract heap -/
def TruV (K : PySem.W.Frag) (x : V) (H : Hp) (k : Bool) : Prop :=
  match x with
  | .non => k = false
  | .bl b => k = b
  | .int i => k = (i != 0)
  | .str y => y.length ≤ sizeLine ∧ k = ((y.length : Int) != 0)
  | .byt y => y.size ≤ sizeLine ∧ k = ((y.size : Int) != 0)
  | .ref p => (∃ xs, SqL K H p xs ∧ k = !xs.isEmpty) ∨ (∃ xs, SqT K H p xs ∧ k = !xs.isEmpty) ∨ ∃ kvs, H p = some (.dK kvs) ∧ k = !kvs.isEmpty
  | _ => False
theorem isEmpty_kv {κ : Type} {kvs : List (κ × V)} {vs : List (κ × Value)} (r : KV kvs vs) : (!vs.isEmpty) = !kvs.isEmpty := by
  cases r <;> rfl
theorem isEmpty_of {xs : List V} {its : List Value} (r : Vals xs its) : (!its.toArray.isEmpty) = !xs.isEmpty := by
  cases r <;> simp
theorem line63 : (sizeLine : Nat) < 2 ^ 63 := by rw [sizeLine_eq]; decide
theorem tru_ok : TruR X (fun x H Q => ∃ k, TruV X.K x H k ∧ Q k H) := by
  intro pins s σ H x v Q I rx h
  obtain ⟨k, e, q⟩ := h
  have hl := line63
  have hs : sizeLine = 16777216 := sizeLine_eq
  cases x with
  | non =>
    cases rx
    have e' : k = false := e
    subst e'
    exact truthy_none ⟨H, I, q⟩
  | bl b =>
    cases rx
    have e' : k = b := e
    subst e'
    exact wpAny_truthy_bool ⟨H, I, q⟩
  | int i =>
    obtain ⟨t, rfl⟩ := rx
    have e' : k = (i != 0) := e
    subst e'
    exact PySem.P.truthy_int ⟨H, I, q⟩
  | str y =>
    obtain ⟨t, rfl⟩ := rx
    obtain ⟨hy, e'⟩ : y.length ≤ sizeLine ∧ k = ((y.length : Int) != 0) := e
    subst e'
    exact PySem.P.truthy_str (by omega) ⟨H, I.tok _, q⟩
  | byt y =>
    obtain ⟨t, rfl⟩ := rx
    obtain ⟨hy, e'⟩ : y.size ≤ sizeLine ∧ k = ((y.size : Int) != 0) := e
    subst e'
    exact PySem.W.truthy_bytes (by omega) ⟨H, I.tok _, q⟩
  | ref p =>
    cases rx
    have e' : (∃ xs, SqL X.K H p xs ∧ k = !xs.isEmpty) ∨ (∃ xs, SqT X.K H p xs ∧ k = !xs.isEmpty) ∨ ∃ kvs, H p = some (.dK kvs) ∧ k = !kvs.isEmpty := e
    rcases e' with ⟨xs, hx, e'⟩ | ⟨xs, hx, e'⟩ | ⟨kvs, hx, e'⟩
    · subst e'
      obtain ⟨its, r, pl, hz⟩ := I.list hx
      have hlen := r.length
      exact wpAny_truthy_list pl.isList (by simp only [List.size_toArray]; omega) ⟨H, I.tok _, by rw [isEmpty_of r]; exact q⟩
    · subst e'
      obtain ⟨its, r, pl, hz⟩ := I.tuple hx
      have hlen := r.length
      exact truthy_tuple pl (by simp only [List.size_toArray]; omega) ⟨H, I.tok _, by rw [isEmpty_of r]; exact q⟩
    · subst e'
      obtain ⟨hz, hS, vs, r, m⟩ : kvs.length ≤ sizeLine ∧ (p == sysModules) = false ∧ ∃ vs, KV kvs vs ∧ s.heap.DictOf (mixKind X.prog X.w) p vs := I.hok p _ hx
      have hlen : kvs.length = vs.length := Paired.length r
      exact wpAny_truthy_dict hS m (by omega) ⟨H, I.tok _, by rw [isEmpty_kv r]; exact q⟩
  | _ => exact (show False from e).elim
/-- any expression whose test is its value's truth (a name, a call, a subscript, a field ..: he by fun _ => rfl) -/
theorem pt_truth (ha : PE X a ta) (he : ∀ whole, isTrue a X.env whole = (do let v ← whole; standAt a.pos; holding [v] (truthy v))) :
    PT X a (fun σ H Q => ta σ H fun x H' => ∃ k, TruV X.K x H' k ∧ Q k H') := by
  intro pins s σ H Q I h
  exact isTrue_plain (thn (ha pins s σ H _ I h) fun v s1 ⟨x, H1, I1, r1, q1⟩ => tru_ok pins s1 σ H1 x v Q I1 r1 q1) (he _)

/-! ### strs and bytes -/
theorem op_add_str : OpR X (binaryOp .Add) (fun x y H Q => ∃ i j, x = .str i ∧ y = .str j ∧ i.length + j.length ≤ sizeLine ∧ Q (.str (i ++ j)) H) := by
  intro pins s σ H x y v u Q I rx ry h
  obtain ⟨i, j, rfl, rfl, hz, q⟩ := h
  obtain ⟨t, rfl⟩ := rx
  obtain ⟨t', rfl⟩ := ry
  exact add_str (fun t' tk => ⟨.str (i ++ j), H, I.tok _, ⟨_, rfl⟩, q⟩) hz
def PlainIxT (b : Expr) : Prop := ∀ o i, subscripted b false o i = operate [o, i] (getItem o i)
/-! ### scalar builtins, by CallR -/
theorem vals1 {x : V} {us : List Value} (r : Vals [x] us) : ∃ u, us = [u] ∧ RelV x u := by
  cases r with
  | cons r1 r2 => cases r2; exact ⟨_, rfl, r1⟩
theorem vals2 {x y : V} {us : List Value} (r : Vals [x, y] us) : ∃ u w', us = [u, w'] ∧ RelV x u ∧ RelV y w' := by
  cases r with
  | cons r1 r2 =>
    cases r2 with
    | cons r3 r4 => cases r4; exact ⟨_, _, rfl, r1, r3⟩
theorem call_max2 (hc : X.calm = true) : CallR X (.builtin "max") (fun xs H Q => ∃ i j, xs = [.int i, .int j] ∧ Q (.int (if j > i then j else i)) H) := by
  intro pins s σ H xs us Q I r h
  obtain ⟨i, j, rfl, q⟩ := h
  obtain ⟨u, w', rfl, ⟨t, rfl⟩, ⟨t', rfl⟩⟩ := vals2 r
  refine max_two_ints (I.ok.hd hc) fun h' tk k => ⟨_, H, I.kept k, ?_, q⟩
  by_cases hj : j > i
  · rw [if_pos hj, if_pos hj]; exact ⟨_, rfl⟩
  · rw [if_neg hj, if_neg hj]; exact ⟨_, rfl⟩
theorem call_int1 : CallR X (.type "int") (fun xs H Q => (∃ i, xs = [.int i] ∧ Q (.int i) H) ∨ ∃ k, xs = [.bl k] ∧ Q (.int (if k then 1 else 0)) H) := by
  intro pins s σ H xs us Q I r h
  rcases h with ⟨i, rfl, q⟩ | ⟨k, rfl, q⟩
  · obtain ⟨u, rfl, t, rfl⟩ := vals1 r
    exact call_int_int ⟨.int i, H, I, ⟨_, rfl⟩, q⟩
  · obtain ⟨u, rfl, r1⟩ := vals1 r
    cases r1
    exact call_int_bool ⟨.int (if k then 1 else 0), H, I.tok _, ⟨_, rfl⟩, q⟩
/-- len of a str, a bytes, a list, a tuple -/
def LenV (K : PySem.W.Frag) (x : V) (H : Hp) (n : Nat) : Prop :=
  match x with
  | .str y => y.length ≤ sizeLine ∧ n = y.length
  | .byt y => y.size ≤ sizeLine ∧ n = y.size
  | .ref p => (∃ xs, SqL K H p xs ∧ n = xs.length) ∨ ∃ xs, SqT K H p xs ∧ n = xs.length
  | _ => False
end
end L2

namespace L2
open PySem PySem.Spec PyProof.Rows

/-! ### an instance, its attributes a map -/
structure ObjM (h : Heap) (x dx C : Addr) (mA : Str → Option Value) : Prop where
  obj : h.get? x = some (PySem.W.instObj C dx)
  ns : h.Ns1 dx mA
  ne : dx ≠ x

theorem lookIn_ns {h : Heap} {dx : Addr} {mA : Str → Option Value} (n : h.Ns1 dx mA) : ∃ od, h.get? dx = some od ∧ ∀ name, PySem.W.lookIn name od = some (mA name) := by
  obtain ⟨o, es, ep, ho, hd, hk, _, hm⟩ := n
  refine ⟨o, ho, fun name => ?_⟩
  have e := hm name
  unfold nsFind findBy at e
  rw [← Array.find?_toList] at e
  unfold PySem.W.lookIn
  rw [hd]
  dsimp only
  split
  · rename_i y q
    rw [q] at e
    exact congrArg some e
  · rename_i q
    rw [q] at e
    have a : es.toList.any (·.refKey) = false := by
      rw [List.any_eq_false]
      intro y hy
      obtain ⟨z, t, hkey⟩ := hk y (Array.mem_toList_iff.mp hy)
      simp [DictEntry.refKey, hkey]
    have a' : ¬ es.toList.any (·.refKey) = true := by rw [a]; exact Bool.false_ne_true
    rw [if_neg a']
    exact congrArg some e

theorem ObjM.look {h : Heap} {x dx C : Addr} {mA : Str → Option Value} (I : ObjM h x dx C mA) : ∃ od, PySem.W.InstAt h x (PySem.W.instObj C dx) C (some od) ∧ ∀ name, PySem.W.lookIn name od = some (mA name) :=
  let ⟨od, ho, hl⟩ := lookIn_ns I.ns
  ⟨od, ⟨I.obj, rfl, rfl, ho⟩, hl⟩

section
variable {prog : Program} {w : World} {A : Around} {E : Value → Shared → Prop} {s : Shared} {K : PySem.W.Frag} {x dx C f : Addr} {mA : Str → Option Value} {name : Str} {v : Value}

end

/-! ### the attributes as a list of pairs -/
def putF (f : Str) (v : V) : List (Str × V) → List (Str × V)
  | [] => [(f, v)]
  | (g, x) :: r => if g = f then (g, v) :: r else (g, x) :: putF f v r
theorem RelO.none_of {o : Option Value} (r : RelO none o) : o = none := by
  cases o with
  | none => rfl
  | some u => exact (show False from r).elim
section
variable {P : Program} {w : World} {H H' : Hp} {h h' : Heap} {a C dx : Addr} {fs fs' : List (Str × V)}
theorem ins_get (hok : HOk P w H h) (e : H a = some (.ins C dx fs)) : ∃ mA, ObjM h a dx C mA ∧ (∀ f, RelO (fs.lookup f) (mA f)) ∧ PySem.Within mA (fs.map (·.1)) ∧ fs.length ≤ 1000 ∧ H dx = some (.own a) := by
  obtain ⟨d, z, ne, ob, mA, n, r, q⟩ := (show ObjOk P w H h a (.ins C dx fs) from hok a _ e)
  exact ⟨mA, ⟨ob, n, ne⟩, r, q, z, d⟩
end

/-! ### what of the text a class must have -/
structure Cls (K : PySem.W.Frag) (C : Addr) : Prop where
  pg : PySem.W.plainGet K C Str.empty = true
  hd : PySem.W.hasDictIn K C = true
  po : PySem.W.plainOver K C = true
  sa : PySem.W.findIn K (.ref C) "__setattr__" = some (some (.builtin "object.__setattr__"))
theorem Cls.get {K : PySem.W.Frag} {C : Addr} (c : Cls K C) (f : Str) : PySem.W.plainGet K C f = true := c.pg
/-- no class of it has the name -/
def NoAttr (K : PySem.W.Frag) (C : Addr) (f : Str) : Prop := PySem.W.findIn K (.ref C) f = some none
/-- a constant of the class -/
structure Con (K : PySem.W.Frag) (C : Addr) (f : Str) (v : V) (u : Value) : Prop where
  at_ : PySem.W.findIn K (.ref C) f = some (some u)
  rel : RelV v u
  get : PySem.W.specialIn K u "__get__" = some none
  cp : PySem.W.copiedNames.contains f = false
/-- a method: a plain def of the class or of one above it -/
structure Meth (K : PySem.W.Frag) (C : Addr) (m : Str) (f : Addr) : Prop where
  at_ : PySem.W.findIn K (.ref C) m = some (some (.ref f))
  fn : PySem.W.isFn K (.ref f) = true
  kp : PySem.W.keepIn K (.ref f) = true

section
variable {X : Cx} {pins : List (Addr × Obj)} {σ : St} {H : Hp} {s : Shared} {a C dx : Addr} {fs : List (Str × V)} {f : Str} {v : V} {A : Around} {E : Value → Shared → Prop}

/-- a new instance, tracked, without attributes -/
theorem Inv.made (I : Inv X pins σ H s) : Inv X pins σ (upd (upd H s.heap.objs.size (.own (s.heap.objs.size + 1))) (s.heap.objs.size + 1) (.ins C s.heap.objs.size []))
    { s with heap := (s.heap.push PySem.W.emptyDict).push (PySem.W.instObj C s.heap.objs.size) } := by
  have e1 : (s.heap.push PySem.W.emptyDict).get? s.heap.objs.size = some PySem.W.emptyDict := Heap.get?_push_size s.heap rfl
  have e2 : ((s.heap.push PySem.W.emptyDict).push (PySem.W.instObj C s.heap.objs.size)).get? (s.heap.objs.size + 1) = some (PySem.W.instObj C s.heap.objs.size) := by
    have := Heap.get?_push_size (s.heap.push PySem.W.emptyDict) (o := PySem.W.instObj C s.heap.objs.size) rfl
    rwa [Heap.size_push] at this
  have e3 : (s.heap.push PySem.W.emptyDict).Ns s.heap.objs.size (fun _ => none) := ⟨PySem.W.emptyDict, #[], _, e1, rfl, (fun e he => absurd he (by simp)), fun _ => rfl⟩
  have I1 := I.laid (a := s.heap.objs.size) (o := .own (s.heap.objs.size + 1)) (h' := s.heap.push PySem.W.emptyDict) (t' := s.toks) (fun b u q => Heap.get?_push_of_some _ q) (Nat.le_refl _) ⟨_, e1⟩
  refine I1.laid (a := s.heap.objs.size + 1) (o := .ins C s.heap.objs.size []) (t' := s.toks) (fun b u q => Heap.get?_push_of_some _ q) (Nat.le_of_eq (Heap.size_push _ _)) ?_
  have ne : s.heap.objs.size ≠ s.heap.objs.size + 1 := Nat.ne_of_lt (Nat.lt_succ_self _)
  refine ⟨by rw [upd_ne ne, upd_same], Nat.zero_le _, ne, e2, fun _ => none, (Heap.Ns1.of_empty e3).at fun o q => Heap.get?_push_of_some _ q, fun _ => True.intro, fun y hy => absurd rfl hy⟩

end

/-! ### readings and rules -/
/-- e.f, an attribute of the instance -/
def tFld (K : PySem.W.Frag) (ta : TE) (f : Str) : TE := fun σ H Q => ta σ H fun x H1 => ∃ a C dx fs v, x = .ref a ∧ H1 a = some (.ins C dx fs) ∧ Cls K C ∧ NoAttr K C f ∧ fs.lookup f = some v ∧ Q v H1
/-- e.f, a constant of the class -/
def tCon (K : PySem.W.Frag) (ta : TE) (f : Str) : TE := fun σ H Q => ta σ H fun x H1 => ∃ a C dx fs v u, x = .ref a ∧ H1 a = some (.ins C dx fs) ∧ Cls K C ∧ Con K C f v u ∧ fs.lookup f = none ∧ Q v H1
/-- e.f = value -/
def sFld (K : PySem.W.Frag) (ta tv : TE) (f : Str) : TS := fun D σ H => tv σ H fun y H1 => ta σ H1 fun x H2 => ∃ a C dx fs, x = .ref a ∧ H2 a = some (.ins C dx fs) ∧ Cls K C ∧ NoAttr K C f ∧ fs.length < 1000 ∧
  D.nx σ (upd H2 a (.ins C dx (putF f y fs)))
/-- an augmented operator on two values -/
def InOp (X : Cx) (op : Operator) (rd : V → V → Hp → VK → Prop) : Prop :=
  ∀ (pins : List (Addr × Obj)) (s : Shared) (σ : St) (H : Hp) (x y : V) (u v : Value) (Q : VK), Inv X pins σ H s → RelV x u → RelV y v → rd x y H Q → wpAny (model X.prog X.w) X.A (inplaceOp op u v) (EP X pins σ Q) X.xe s
/-- e.f op= value -/
def sFldAug (K : PySem.W.Frag) (ta tv : TE) (rd : V → V → Hp → VK → Prop) (f : Str) : TS := fun D σ H => ta σ H fun x H1 => ∃ a C dx fs v, x = .ref a ∧ H1 a = some (.ins C dx fs) ∧ Cls K C ∧ NoAttr K C f ∧ fs.lookup f = some v ∧
  tv σ H1 fun y H2 => rd v y H2 fun z H3 => ∃ dx' fs', H3 a = some (.ins C dx' fs') ∧ fs'.length < 1000 ∧ D.nx σ (upd H3 a (.ins C dx' (putF f z fs')))

section
variable {X : Cx} {o e value : Expr} {f : Str} {pos pos' tpos : Pos} {ta tv : TE}
def rAdd : V → V → Hp → VK → Prop := fun x y H Q => ∃ i j, x = .int i ∧ y = .int j ∧ Q (.int (i + j)) H
def rSub : V → V → Hp → VK → Prop := fun x y H Q => ∃ i j, x = .int i ∧ y = .int j ∧ Q (.int (i - j)) H
end

/-! ### isinstance -/
section
variable {X : Cx} {pins : List (Addr × Obj)} {σ : St} {H : Hp} {s : Shared} {A : Around} {E : Value → Shared → Prop} {Q : Value → Shared → Prop} {c : Value} {b : Bool}
/-- the type of a value, as the fragment's deciders take it; for an instance its class -/
inductive TyOf (K : PySem.W.Frag) (H : Hp) : V → Value → Prop where
  | non : TyOf K H .non (.type "NoneType")
  | bl (x : Bool) : TyOf K H (.bl x) (.type "bool")
  | int (i : Int) : TyOf K H (.int i) (.type "int")
  | str (x : Str) : TyOf K H (.str x) (.type "str")
  | flt (x : UInt64) : TyOf K H (.flt x) (.type "float")
  | lst {a : Addr} {xs : List V} (e : H a = some (.lst xs)) : TyOf K H (.ref a) (.type "list")
  | frz {a : Addr} {o : Obj} {xs : List V} (e : H a = some (.frz o (.lst xs))) : TyOf K H (.ref a) (.type "list")
  | tup {a : Addr} {xs : List V} (e : H a = some (.tup xs)) : TyOf K H (.ref a) (.type "tuple")
  | dK {a : Addr} {kvs : List (Key × V)} (e : H a = some (.dK kvs)) : TyOf K H (.ref a) (.type "dict")
  | dT {a : Addr} {kvs : List (List Key × V)} (e : H a = some (.dT kvs)) : TyOf K H (.ref a) (.type "dict")
  | ins {a C dx : Addr} {fs : List (Str × V)} (e : H a = some (.ins C dx fs)) (cl : Cls K C) (ha : PySem.W.findIn K (.ref C) "__class__" = some (some (.builtin "object.__class__")))
      (hn : PySem.W.specialIn K (.builtin "object.__class__") "__get__" = some (some (.builtin "getset_descriptor.__get__"))) (htk : PySem.W.takesIn K (.builtin "object.__class__") = some true)
      (hm : PySem.W.mroIn K C (.type "object") = some true) : TyOf K H (.ref a) (.ref C)
/-- isinstance(x, c) for one class c, a built-in or an own one: kitOne's answer -/
theorem isinst_ok {x : V} {u t : Value} (I : Inv X pins σ H s) (rx : RelV x u) (ty : TyOf X.K H x t) (e : PySem.W.kitOne X.K t c = some b) (h : ∀ tk, Q (.bool b) { s with toks := tk }) :
    wpAny (model X.prog X.w) A (call (.builtin "isinstance") [u, c]) Q E s := by
  cases ty with
  | non => cases (show u = Value.none from rx); exact PySem.W.kia_one PySem.W.kitx_none I.kIn True.intro e (fun z => nomatch z) h
  | bl y => cases (show u = Value.bool y from rx); exact PySem.W.kia_one PySem.W.kitx_bool I.kIn True.intro e (fun z => nomatch z) h
  | int i => obtain ⟨t, q⟩ := (show ∃ t, u = Value.int i t from rx); cases q; exact PySem.W.kia_one PySem.W.kitx_int I.kIn True.intro e (fun z => nomatch z) h
  | str y => obtain ⟨t, q⟩ := (show ∃ t, u = Value.str y t from rx); cases q; exact PySem.W.kia_one PySem.W.kitx_str I.kIn True.intro e (fun z => nomatch z) h
  | flt y => obtain ⟨t, q⟩ := (show ∃ t, u = Value.float y t from rx); cases q; exact PySem.W.kia_one PySem.W.kitx_float I.kIn True.intro e (fun z => nomatch z) h
  | @lst a xs ea =>
    cases (show u = Value.ref a from rx)
    obtain ⟨_, _, n, _, h1⟩ := (show ObjOk X.prog X.w H s.heap a (.lst xs) from I.hok a _ ea)
    exact PySem.W.kia_one PySem.W.kitx_list I.kIn ⟨_, h1, rfl⟩ e (fun z => nomatch z) h
  | @frz a ob xs ea =>
    cases (show u = Value.ref a from rx)
    obtain ⟨_, _, _, n, _, h1⟩ := (show ObjOk X.prog X.w H s.heap a (.frz ob (.lst xs)) from I.hok a _ ea)
    exact PySem.W.kia_one PySem.W.kitx_list I.kIn ⟨_, h1, rfl⟩ e (fun z => nomatch z) h
  | @tup a xs ea =>
    cases (show u = Value.ref a from rx)
    obtain ⟨_, _, _, p⟩ := (show ObjOk X.prog X.w H s.heap a (.tup xs) from I.hok a _ ea)
    obtain ⟨o, h1, h2, _⟩ := p
    exact PySem.W.kia_one PySem.W.kitx_tuple I.kIn ⟨o, h1, h2⟩ e (fun z => nomatch z) h
  | @dK a kvs ea =>
    cases (show u = Value.ref a from rx)
    obtain ⟨_, _, vs, _, p⟩ := (show ObjOk X.prog X.w H s.heap a (.dK kvs) from I.hok a _ ea)
    obtain ⟨o, es, ep, h1, h2, _⟩ := p
    exact PySem.W.kia_one PySem.W.kitx_dict I.kIn ⟨o, h1, h2.1⟩ e (fun z => nomatch z) h
  | @dT a kvs ea =>
    cases (show u = Value.ref a from rx)
    obtain ⟨_, _, xs, _, o, es, ep, h1, h2, _⟩ := (show ObjOk X.prog X.w H s.heap a (.dT kvs) from I.hok a _ ea)
    exact PySem.W.kia_one PySem.W.kitx_dict I.kIn ⟨o, h1, h2.1⟩ e (fun z => nomatch z) h
  | @ins a C dx fs ea cl ha hn htk hm =>
    cases (show u = Value.ref a from rx)
    obtain ⟨mA, O, _⟩ := ins_get I.hok ea
    obtain ⟨od, J, _⟩ := O.look
    exact PySem.W.kia_one (PySem.W.kitx_own (cl.get _) cl.hd ha hn htk hm) I.kIn J e (fun z => nomatch z) h
end
end L2

namespace L2
open PySem PySem.Spec PyProof.Rows

/-! ### room -/
structure Room (k : Nat) (A : Around) : Prop where
  hd : A.handled = none
  dp : A.depth + 3 * k + 5 < recursionLimit
  un : A.units + 16 * k + 200 < cLine
theorem Room.mono {j k : Nat} {A : Around} (r : Room k A) (h : j ≤ k) : Room j A := ⟨r.hd, by have := r.dp; omega, by have := r.un; omega⟩
theorem Room.deeper {k : Nat} {A : Around} (r : Room (k + 1) A) (env : Env) : Room k (A.deeper env) :=
  ⟨r.hd, by have := r.dp; show A.depth + 1 + 3 * k + 5 < _; omega, by have := r.un; show A.units + 3 + 16 * k + 200 < _; omega⟩
theorem Room.in1 {k : Nat} {A : Around} (r : Room (k + 1) A) : Room k A.in1 :=
  ⟨r.hd, by have := r.dp; show A.depth + 3 * k + 5 < _; omega, by have := r.un; show A.units + 1 + 16 * k + 200 < _; omega⟩
theorem make_depth {A : Around} {C : Addr} {us : List Value} {kw : List (Str × Value)} : (A.under (.builtin "type.__call__" ⟨.ref C :: us, kw⟩)).depth = A.depth + 1 := by
  first | rfl | simp [Around.under, Code.weight, Code.isCreation, Code.isGuard, Code.isCaller, Code.frames, Code.isFrame, guardIds]
theorem make_units {A : Around} {C : Addr} {us : List Value} {kw : List (Str × Value)} : (A.under (.builtin "type.__call__" ⟨.ref C :: us, kw⟩)).units = A.units + 1 := by
  first | rfl | simp [Around.under, Code.cUnits, Code.frames, Code.isFrame]
theorem Room.make {k : Nat} {A : Around} (r : Room (k + 1) A) (C : Addr) (us : List Value) (kw : List (Str × Value)) : Room k (A.under (.builtin "type.__call__" ⟨.ref C :: us, kw⟩)) :=
  ⟨r.hd, by have := r.dp; rw [make_depth]; omega, by have := r.un; rw [make_units]; omega⟩
theorem Room.depth {k : Nat} {A : Around} (r : Room k A) : A.depth < recursionLimit := by have := r.dp; omega
theorem Room.units {k : Nat} {A : Around} (r : Room k A) : A.units + 64 < cLine := by have := r.un; omega
/-! ### argument lists and displays -/
def tNil : TA := fun _ H Q => Q [] H
def tCons (ta : TE) (tr : TA) : TA := fun σ H Q => ta σ H fun x H1 => tr σ H1 fun xs H2 => Q (x :: xs) H2
section
variable {X : Cx} {e : Expr} {es : List Expr} {te : TE} {t : TA} {pos : Pos}
theorem pa_nil : PA X [] tNil := fun _ _ _ _ H Q I h => Calls.spliced_nil ⟨[], H, I, .nil, h⟩
theorem pa_cons (ha : PE X e te) (hr : PA X es t) (hs : starEach (e :: es) X.env = (false, eval e X.env) :: starEach es X.env := by rfl) : PA X (e :: es) (tCons te t) := by
  intro pos pins s σ H Q I h
  rw [hs]
  show wpAny _ _ (spliced ((false, eval e X.env) :: backTo pos (starEach es X.env))) _ _ s
  refine Calls.spliced_cons (thn (ha pins s σ H _ I h) fun u s1 ⟨x, H1, I1, r1, q1⟩ => ?_)
  exact thn (hr pos pins s1 σ H1 _ I1 q1) fun us s2 ⟨xs, H2, I2, r2, q2⟩ => ⟨x :: xs, H2, I2, .cons r1 r2, q2⟩

/-- a tuple, a list of written items -/
def tTup (t : TA) : TE := fun σ H Q => t σ H fun xs H1 => xs.length ≤ sizeLine ∧ ∀ p, H1 p = none → Q (.ref p) (upd H1 p (.tup xs))
def tLst (t : TA) : TE := fun σ H Q => t σ H fun xs H1 => xs.length ≤ sizeLine ∧ ∀ p, H1 p = none → Q (.ref p) (upd H1 p (.lst xs))
theorem pe_tup {x1} (h : PA X es t) : PE X (.Tuple es x1 pos) (tTup t) := by
  intro pins s σ H Q I hq
  refine wpAny_Tuple_spliced (thn (h pos pins s σ H _ I hq) fun us s1 ⟨xs, H1, I1, r, z, q⟩ => ⟨by rw [← r.length]; exact z, ?_⟩)
  have hf : H1 s1.heap.objs.size = none := I1.hok.fresh (Nat.le_refl _)
  refine ⟨.ref s1.heap.objs.size, upd H1 s1.heap.objs.size (.tup xs), I1.laid (t' := s1.toks) (fun b u e => Heap.get?_push_of_some _ e) (Nat.le_refl _) ?_, rfl, q _ hf⟩
  exact ⟨z, us, r, ⟨_, Heap.get?_push_size _ rfl, rfl, _, rfl⟩⟩
theorem pe_lst (h : PA X es t) : PE X (.List es pos) (tLst t) := by
  intro pins s σ H Q I hq
  refine wpAny_List_spliced (thn (h pos pins s σ H _ I hq) fun us s1 ⟨xs, H1, I1, r, z, q⟩ => ⟨by rw [← r.length]; exact z, ?_⟩)
  have hf : H1 s1.heap.objs.size = none := I1.hok.fresh (Nat.le_refl _)
  refine ⟨.ref s1.heap.objs.size, upd H1 s1.heap.objs.size (.lst xs), I1.laid (t' := s1.toks) (fun b u e => Heap.get?_push_of_some _ e) (Nat.le_refl _) ?_, rfl, q _ hf⟩
  exact ⟨z, us, 0, r, Heap.get?_push_size _ rfl⟩
end

/-! ### what a def promises -/
/-- a def's promise: the bound arguments in the parameters' order, the heap, the wanted end, the wanted exception -/
abbrev Sp := List V → Hp → VK → XK → Prop
/-- how an exception lies behind a call (file 08 gives it): the callers' frames, abstract heap and state ahead of the call, the wish, the exception, the state -/
abbrev CXT := List Env → Hp → Shared → XK → Value → Shared → Prop

/-- the state at a call -/
structure Env0 (P : Program) (w : World) (K : PySem.W.Frag) (mg : Str → Option Value) (base : Heap) (A : Around) (outer : List Env) (s : Shared) (H : Hp) : Prop where
  frames : A.frames = some outer
  mod : Mod K mg base
  bs : ∀ b o, base.get? b = some o → s.heap.get? b = some o ∧ H b = none
  bsz : base.objs.size ≤ s.heap.objs.size
  funs : s.heap.FunFrames base outer
  frf : ∀ b ∈ frs outer, H b = none
  hok : HOk P w H s.heap
  bare : AllBare s.gens
/-- a call's end -/
def CE (outer : List Env) (P : Program) (w : World) (H : Hp) (s : Shared) (Q : VK) (u : Value) (s' : Shared) : Prop :=
  ∃ v H', s'.os = s.os ∧ AllBare s'.gens ∧ Un (frs outer) [] H H' s.heap s'.heap ∧ HOk P w H' s'.heap ∧ RelV v u ∧ Q v H'
def CR (CX : CXT) (outer : List Env) (P : Program) (w : World) (H : Hp) (s : Shared) (Q : VK) (E : XK) (r : Result) (s' : Shared) : Prop :=
  match r with
  | .ok (.ret u) => CE outer P w H s Q u s'
  | .ok _ => False
  | .error e => CX outer H s E e s'
structure FnOk (P : Program) (w : World) (K : PySem.W.Frag) (mg : Str → Option Value) (base : Heap) (CX : CXT) (k : Nat) (f : Addr) (fd : FuncData) (ps : List Str) (sp : Sp) : Prop where
  len : ∀ vs H Q E, sp vs H Q E → vs.length = ps.length
  run : ∀ (A : Around) (outer : List Env) (s : Shared) (H : Hp) (args : Args) (us : List Value) (vs : List V) (Q : VK) (E : XK), Room k A → Env0 P w K mg base A outer s H → BindsTo s fd args (ps.zip us) → Vals vs us → sp vs H Q E →
    codeAny (model P w) A (.call (.ref f) args) (CR CX outer P w H s Q E) s
theorem FnOk.mono {P : Program} {w : World} {K : PySem.W.Frag} {mg : Str → Option Value} {base : Heap} {CX : CXT} {j k : Nat} {f : Addr} {fd : FuncData} {ps : List Str} {sp : Sp} (F : FnOk P w K mg base CX j f fd ps sp) (h : j ≤ k) :
    FnOk P w K mg base CX k f fd ps sp := ⟨F.len, fun A outer s H args us vs Q E hr => F.run A outer s H args us vs Q E (hr.mono h)⟩
/-- a weaker promise -/
theorem FnOk.imp {P : Program} {w : World} {K : PySem.W.Frag} {mg : Str → Option Value} {base : Heap} {CX : CXT} {k : Nat} {f : Addr} {fd : FuncData} {ps : List Str} {sp sp' : Sp} (F : FnOk P w K mg base CX k f fd ps sp)
    (h : ∀ vs H Q E, sp' vs H Q E → sp vs H Q E) : FnOk P w K mg base CX k f fd ps sp' :=
  ⟨fun vs H Q E q => F.len vs H Q E (h _ _ _ _ q), fun A outer s H args us vs Q E hr he hb hv hs => F.run A outer s H args us vs Q E hr he hb hv (h _ _ _ _ hs)⟩

theorem Env0.make {P : Program} {w : World} {K : PySem.W.Frag} {mg : Str → Option Value} {base : Heap} {A : Around} {outer : List Env} {s : Shared} {H : Hp} (e : Env0 P w K mg base A outer s H) (C : Addr) (us : List Value) (kw : List (Str × Value)) :
    Env0 P w K mg base (A.under (.builtin "type.__call__" ⟨.ref C :: us, kw⟩)) outer s H := ⟨by first | exact e.frames | (simpa [Around.under, Code.envs, Code.isFrame, pushEnvs] using e.frames), e.mod, e.bs, e.bsz, e.funs, e.frf, e.hok, e.bare⟩
theorem Env0.in1 {P : Program} {w : World} {K : PySem.W.Frag} {mg : Str → Option Value} {base : Heap} {A : Around} {outer : List Env} {s : Shared} {H : Hp} (e : Env0 P w K mg base A outer s H) :
    Env0 P w K mg base A.in1 outer s H := ⟨e.frames, e.mod, e.bs, e.bsz, e.funs, e.frf, e.hok, e.bare⟩

section
variable {X : Cx} {pins : List (Addr × Obj)} {σ : St} {H : Hp} {s s' : Shared}
/-- from a body: what a callee wants -/
theorem Inv.env0 (I : Inv X pins σ H s) : Env0 X.prog X.w X.K X.mg X.base X.A X.stack s H :=
  ⟨I.ok.frames, I.ok.mod, I.bs, Nat.le_trans I.ok.bsz I.sz, I.stack, I.stkFree, I.hok, I.bare⟩
/-- behind a call -/
theorem Inv.after {Q : VK} {u : Value} (I : Inv X pins σ H s) (h : CE X.stack X.prog X.w H s Q u s') : EP X pins σ Q u s' := by
  obtain ⟨v, H', os, bare, un, hok, r, q⟩ := h
  obtain ⟨hh, g, d, t, os'⟩ := s'
  obtain rfl : os' = s.os := os
  exact ⟨v, H', I.call (h' := hh) (g' := g) (d' := d) (t' := t) (ch := []) un hok bare (fun b z => absurd z (by simp)), r, q⟩
end

/-! ### calls -/
/-- f(..): the written arguments, then the defaults dvs; E: what is wanted of an exception -/
def tCall (sp : Sp) (dvs : List V) (E : XK) (t : TA) : TE := fun σ H Q => t σ H fun vs H1 => sp (vs ++ dvs) H1 Q E
/-- o.m(..) of an instance of the class at C -/
def tMeth (C : Addr) (m : Str) (sp : Sp) (dvs : List V) (E : XK) (ta : TE) (t : TA) : TE := fun σ H Q => ta σ H fun x H1 => ∃ a dx fs, x = .ref a ∧ H1 a = some (.ins C dx fs) ∧ fs.lookup m = none ∧
  t σ H1 fun vs H2 => sp (x :: (vs ++ dvs)) H2 Q E
/-- C(..): a new instance and its dict, then __init__ -/
def tMake (C : Addr) (sp : Sp) (dvs : List V) (E : XK) (t : TA) : TE := fun σ H Q => t σ H fun vs H1 => ∀ x dx, H1 x = none → H1 dx = none → dx ≠ x →
  sp (.ref x :: (vs ++ dvs)) (upd (upd H1 dx (.own x)) x (.ins C dx [])) (fun v H2 => v = .non ∧ Q (.ref x) H2) E

/-- how the parameters are bound: us the positional arguments, kw the keywords' values by name, ds the defaults that fill up -/
def Binds (K : PySem.W.Frag) (fd : FuncData) (ps : List Str) (ds : List Value) : Prop :=
  ∀ (s : Shared) (us : List Value), K.In s.heap → (us ++ ds).length = ps.length → BindsTo s fd ⟨us, []⟩ (ps.zip (us ++ ds))
/-- every parameter is given -/
theorem Binds.all {K : PySem.W.Frag} {fd : FuncData} {ps : List Str} (h : ∀ us : List Value, us.length = ps.length → bindArgs fd ⟨us, []⟩ = pure (ps.zip us)) : Binds K fd ps [] := fun s us _ hl => by
  rw [List.append_nil] at hl ⊢
  exact .of_eq (h us hl)

/-- an exception of a callee reaches what this body wants of exceptions -/
def Passes (CX : CXT) (X : Cx) (E : XK) : Prop := ∀ (pins : List (Addr × Obj)) (σ : St) (H : Hp) (s : Shared) (e : Value) (s' : Shared), Inv X pins σ H s → CX X.stack H s E e s' → X.xe e s'

section
variable {X : Cx} {CX : CXT} {k : Nat} {f C : Addr} {fd : FuncData} {ps : List Str} {sp : Sp} {dvs : List V} {ds : List Value} {E : XK} {x m : Str} {p pos apos : Pos} {e o : Expr} {es : List Expr} {ta : TE} {t : TA}

/-- the callee runs -/
theorem run_fn {pins : List (Addr × Obj)} {σ : St} {H : Hp} {s : Shared} {Q : VK} {us : List Value} {vs : List V} (F : FnOk X.prog X.w X.K X.mg X.base CX k f fd ps sp) (hr : Room k X.A) (hb : Binds X.K fd ps ds) (hd : Vals dvs ds) (hx : Passes CX X E)
    (I : Inv X pins σ H s) (r : Vals vs us) (h : sp (vs ++ dvs) H Q E) : wpAny (model X.prog X.w) X.A (call (.ref f) us) (EP X pins σ Q) X.xe s := by
  have r2 : Vals (vs ++ dvs) (us ++ ds) := r.append hd
  have hl : (us ++ ds).length = ps.length := by rw [← r2.length]; exact F.len _ _ _ _ h
  refine wpAny_call (codeAny_mono (F.run X.A X.stack s H ⟨us, []⟩ (us ++ ds) (vs ++ dvs) Q E hr I.env0 (hb s us I.kIn hl) r2 h) fun r s' hq => ?_)
  cases r with
  | error e => exact hx pins σ H s e s' I hq
  | ok fl =>
    cases fl with
    | ret u => exact I.after hq
    | next => exact False.elim hq
    | brk => exact False.elim hq
    | cont => exact False.elim hq

theorem pe_call (F : FnOk X.prog X.w X.K X.mg X.base CX k f fd ps sp) (hr : Room k X.A) (hg : Gl X x) (hm : X.mg x = some (.ref f)) (hk : PySem.W.keepIn X.K (.ref f) = true) (hb : Binds X.K fd ps ds) (hd : Vals dvs ds) (hx : Passes CX X E)
    (ha : PA X (e :: es) t) (hdb : (x == ("__debug__" : Str)) = false := by decide) (he : starEach (e :: es) X.env = (false, eval e X.env) :: starEach es X.env := by rfl) (hpl : (backTo pos (starEach es X.env)).any (·.1) = false := by rfl) :
    PE X (.Call (.Name x p) (e :: es) [] pos) (tCall sp dvs E t) := by
  intro pins s σ H Q I h
  refine wpAny_Call_Name_kw (ld_glob I hg hm ?_ hdb)
  refine PySem.W.callWith_K (h₀ := X.base) I.ok.mod.kin hk (thn (ha pos pins s σ H _ I h) fun us s1 ⟨vs, H1, I1, r, q⟩ => ⟨I1.kIn, ?_⟩) he hpl
  exact run_fn F hr hb hd hx I1 r q
/-- what a class must have to be made -/
structure Mk (K : PySem.W.Frag) (C f : Addr) : Prop where
  makes : PySem.W.makesIn K C = true
  init : PySem.W.findIn K (.ref C) "__init__" = some (some (.ref f))
  fn : PySem.W.isFn K (.ref f) = true
  kp : PySem.W.keepIn K (.ref C) = true

end

/-! ### keywords -/
/-- the values of the keywords, from the left -/
def PK (X : Cx) (kws : List Keyword) (t : TA) : Prop :=
  ∀ (pos : Pos) (pins : List (Addr × Obj)) (s : Shared) (σ : St) (H : Hp) (Q : List V → Hp → Prop), Inv X pins σ H s → t σ H Q → wpAny (model X.prog X.w) X.A (evalAll ((backToKw pos (keywordEach kws X.env)).map (·.2))) (AP X pins σ Q) X.xe s
section
variable {X : Cx} {CX : CXT} {k : Nat} {f C : Addr} {fd : FuncData} {ps ks : List Str} {sp : Sp} {E : XK} {x m : Str} {p pos apos kpos : Pos} {e o : Expr} {es : List Expr} {kws : List Keyword} {te ta : TE} {t tk : TA} {nm : Option Str}
/-- how a call with keywords binds: g puts the positional values us and the keywords' values ws (names ks) in the parameters' order, defaults among them -/
structure KBinds (K : PySem.W.Frag) (fd : FuncData) (ps ks : List Str) (g : List Value → List Value → List Value) (gV : List V → List V → List V) : Prop where
  to : ∀ (s : Shared) (us ws : List Value), K.In s.heap → (g us ws).length = ps.length → BindsTo s fd ⟨us, ks.zip ws⟩ (ps.zip (g us ws))
  rel : ∀ {vs : List V} {us : List Value} {zs : List V} {ws : List Value}, Vals vs us → Vals zs ws → Vals (gV vs zs) (g us ws)
def tCallK (sp : Sp) (gV : List V → List V → List V) (E : XK) (t tk : TA) : TE := fun σ H Q => t σ H fun vs H1 => tk σ H1 fun zs H2 => sp (gV vs zs) H2 Q E
variable {g : List Value → List Value → List Value} {gV : List V → List V → List V}
end

/-! ### a def's body keeps its promise -/
/-- names: the parameters first -/
structure FnScope (N P : List Str) (sc : Scope) : Prop where
  kind : sc.kind = .function
  co : sc.isCoroutine = false
  gen : sc.isGenerator = false
  nd : N.Nodup
  pre : N.take P.length = P
  par : ∀ x ∈ P, sc.names.lookup x = some .local ∨ sc.names.lookup x = some .cell
  nofree : ∀ y ∈ sc.names, y.2 ≠ .free

theorem bindL_out {kindOf : Str → Option NameKind} {x : Str} : ∀ {binds : List (Str × Value)} {m : Str → Option Value}, (∀ v, (x, v) ∉ binds) → bindL kindOf binds m x = m x
  | [], _, _ => rfl
  | (n, v) :: r, m, h => by
    unfold bindL
    rw [bindL_out fun w hw => h w (List.mem_cons_of_mem _ hw)]
    split
    · have : x ≠ n := by rintro rfl; exact h v List.mem_cons_self
      simp [this]
    · rfl
theorem bindC_out {kindOf : Str → Option NameKind} {x : Str} : ∀ {binds : List (Str × Value)} {m : Str → Option Value}, (∀ v, (x, v) ∉ binds) → bindC kindOf binds m x = m x
  | [], _, _ => rfl
  | (n, v) :: r, m, h => by
    unfold bindC
    rw [bindC_out fun w hw => h w (List.mem_cons_of_mem _ hw)]
    split
    · rfl
    · have : x ≠ n := by rintro rfl; exact h v List.mem_cons_self
      simp [this]
theorem bindL_get {kindOf : Str → Option NameKind} {x : Str} {v : Value} : ∀ {P : List Str} {vs : List Value} {i : Nat} {m : Str → Option Value}, P.Nodup → P[i]? = some x → vs[i]? = some v → kindOf x = some .local →
    bindL kindOf (P.zip vs) m x = some v
  | [], _, _, _, _, h, _, _ => by simp at h
  | _ :: _, [], _, _, _, _, h, _ => by simp at h
  | p :: P, w :: vs, 0, m, nd, h1, h2, hk => by
    simp at h1 h2; subst h1; subst h2
    show bindL kindOf ((p, w) :: P.zip vs) m p = _
    unfold bindL
    rw [bindL_out fun v hv => (List.nodup_cons.mp nd).1 (List.of_mem_zip hv).1, if_pos hk]
    simp
  | p :: P, w :: vs, i + 1, m, nd, h1, h2, hk => by
    show bindL kindOf ((p, w) :: P.zip vs) m x = _
    unfold bindL
    exact bindL_get (i := i) (List.nodup_cons.mp nd).2 (by simpa using h1) (by simpa using h2) hk
theorem bindC_get {kindOf : Str → Option NameKind} {x : Str} {v : Value} : ∀ {P : List Str} {vs : List Value} {i : Nat} {m : Str → Option Value}, P.Nodup → P[i]? = some x → vs[i]? = some v → kindOf x ≠ some .local →
    bindC kindOf (P.zip vs) m x = some v
  | [], _, _, _, _, h, _, _ => by simp at h
  | _ :: _, [], _, _, _, _, h, _ => by simp at h
  | p :: P, w :: vs, 0, m, nd, h1, h2, hk => by
    simp at h1 h2; subst h1; subst h2
    show bindC kindOf ((p, w) :: P.zip vs) m p = _
    unfold bindC
    rw [bindC_out fun v hv => (List.nodup_cons.mp nd).1 (List.of_mem_zip hv).1, if_neg hk]
    simp
  | p :: P, w :: vs, i + 1, m, nd, h1, h2, hk => by
    show bindC kindOf ((p, w) :: P.zip vs) m x = _
    unfold bindC
    exact bindC_get (i := i) (List.nodup_cons.mp nd).2 (by simpa using h1) (by simpa using h2) hk

/-- the names' values at the entry -/
def start (N : List Str) (vs : List V) : St := vs.map some ++ List.replicate (N.length - vs.length) none

/-- the context of a def's body, at its entry; an exception leaves the frame, then lies as CX says -/
def cxOf (CX : CXT) (P : Program) (w : World) (K : PySem.W.Frag) (mg : Str → Option Value) (base : Heap) (N : List Str) (qual : Str) (scope : Scope) (f : Addr) (cd : Value) (A : Around) (outer : List Env) (s : Shared) (H : Hp) (E : XK) : Cx where
  prog := P
  w := w
  K := K
  mg := mg
  base := base
  A := A.deeper (envOfC qual scope s.heap.objs.size f cd)
  N := N
  s₀ := s
  H₀ := H
  env := envOfC qual scope s.heap.objs.size f cd
  outer := outer
  stack := envOfC qual scope s.heap.objs.size f cd :: outer
  ex := []
  calm := true
  fn := fun _ => true
  pn := []
  xe := fun e s' => wpAny (model P w) (A.deeper (envOfC qual scope s.heap.objs.size f cd)) (leaving (envOfC qual scope s.heap.objs.size f cd) e) (fun _ s'' => CX outer H s E e s'') (fun e' s'' => CX outer H s E e' s'') s'

theorem cell_has {sc : Scope} {n : Nat} {x : Str} (h : sc.names.lookup x = some .cell) : ∃ c, (cellsFrom n sc.names []).lookup x = some c := by
  have q := PySem.W.cellsFrom_some sc.names n [] (.inl h)
  exact Option.isSome_iff_exists.mp q

theorem inv_start {CX : CXT} {P : Program} {w : World} {K : PySem.W.Frag} {mg : Str → Option Value} {base : Heap} {N ps : List Str} {qual : Str} {scope : Scope} {f : Addr} {cd : Value} {A : Around} {outer : List Env} {s s1 : Shared} {H : Hp} {E : XK} {us : List Value} {vs : List V}
    (S : FnScope N ps scope) (hd : A.handled = none) (e0 : Env0 P w K mg base A outer s H) (hl : vs.length = ps.length) (r : Vals vs us)
    (x : InCallC s s.heap.objs.size (bindL (envOfC qual scope s.heap.objs.size f cd).kindOf (ps.zip us) fun _ => none) (cellsFrom (s.heap.objs.size + 1) scope.names []) (bindC (envOfC qual scope s.heap.objs.size f cd).kindOf (ps.zip us) fun _ => none) s1) :
    Inv (cxOf CX P w K mg base N qual scope f cd A outer s H E) [] (start N vs) H s1 := by
  have hpl : ps.length ≤ N.length := by have := congrArg List.length S.pre; rw [List.length_take] at this; omega
  obtain ⟨h1, tk, rfl, hk⟩ := x.done
  have noA : ∀ b : Addr, b ∉ (cxOf CX P w K mg base N qual scope f cd A outer s H E).ex := fun b z => absurd (show b ∈ ([] : List Addr) from z) (by simp)
  refine ⟨⟨e0.mod, S.kind, rfl, rfl, Nat.le_refl _, fun y z c h1 h2 => ?_, fun y hy => ?_, fun y c _ h => ?_, fun _ => hd, Around.frames_deeper e0.frames, .inr ⟨rfl, rfl⟩, fun b z => absurd z (noA b), e0.bs, e0.bsz, fun b _ _ => noA b, fun b z => absurd z (noA b), e0.funs, e0.frf⟩,
    rfl, e0.bare, Un.kept hk, ⟨_, x.toInCall.ns, fun i y v h1 h2 h3 => ?_⟩, fun y c h => ⟨_, x.cell y c h⟩, e0.hok.fresh (Nat.le_refl _), fun y c h => ?_, fun p hp => absurd (show p ∈ ([] : List (Addr × Obj)) from hp) (by simp), e0.hok.kept hk, ?_⟩
  · exact name_of_addr x.apart (PySem.mem_of_lookup h1) (PySem.mem_of_lookup h2)
  · have hy : scope.names.lookup y = some .cell ∨ scope.names.lookup y = some .free := hy
    rcases hy with hy | hy
    · exact cell_has hy
    · exact absurd rfl (S.nofree _ (PySem.mem_of_lookup hy))
  · exact Nat.le_of_lt (x.above y c (PySem.mem_of_lookup h))
  · have hi : i < vs.length := by
      unfold start at h2
      by_cases hi : i < vs.length
      · exact hi
      · rw [List.getElem?_append_right (by simpa using hi)] at h2
        rw [List.getElem?_replicate] at h2
        split at h2 <;> cases h2
    have ha : vs[i]? = some v := by
      unfold start at h2
      rw [List.getElem?_append_left (by simpa using hi), List.getElem?_map] at h2
      cases e : vs[i]? with
      | none => rw [e] at h2; cases h2
      | some a => rw [e] at h2; cases h2; rfl
    obtain ⟨u, hu, rv⟩ := r.get ha
    have hp : ps[i]? = some y := by
      rw [← S.pre, List.getElem?_take_of_lt (by omega)]; exact h1
    have ndP : ps.Nodup := by rw [← S.pre]; exact S.nd.sublist (List.take_sublist _ _)
    refine ⟨u, rv, ?_⟩
    rcases S.par y (List.mem_of_getElem? hp) with k | k
    · exact .inl ⟨k, bindL_get ndP hp hu k⟩
    · obtain ⟨c, e⟩ := cell_has (n := s.heap.objs.size + 1) k
      refine .inr ⟨.inl k, c, e, ?_⟩
      have q := x.cell y c e
      rw [bindC_get ndP hp hu (by show scope.names.lookup y ≠ _; rw [k]; decide)] at q
      exact q
  · exact e0.hok.fresh (Nat.le_of_lt (x.above y c (PySem.mem_of_lookup h)))
  · unfold start
    show _ = N.length
    rw [List.length_append, List.length_map, List.length_replicate]
    omega

/-- THE RULE: a def (or a method) of the text, by its body. The body's reading t is chosen for each entry; it is run at the parameters' values -/
theorem fn_of {CX : CXT} {P : Program} {w : World} {K : PySem.W.Frag} {mg : Str → Option Value} {base : Heap} {k : Nat} {f : Addr} {name qual : Str} {params : Arguments} {body : List Stmt} {scope : Scope} {dV kV doc pm cdv ct oc : Value} {an od : Option Addr}
    {osl : Array (Option Value)} {N ps : List Str} {sp : Sp} (lk : K.lookup f = some ⟨oc, od, .func (PySem.W.fnOf name qual params body scope dV kV doc pm an cdv ct), osl⟩) (hcd : PySem.W.codeIn K cdv qual = true) (S : FnScope N ps scope)
    (len : ∀ vs H Q E, sp vs H Q E → vs.length = ps.length)
    (hbody : ∀ (A : Around) (outer : List Env) (s : Shared) (H : Hp) (vs : List V) (Q : VK) (E : XK), Room k (A.deeper (envOfC qual scope s.heap.objs.size f cdv)) → sp vs H Q E →
      ∃ t, PSs (cxOf CX P w K mg base N qual scope f cdv A outer s H E) body t ∧ t { nx := fun _ H' => Q .non H', rt := Q } (start N vs) H) :
    FnOk P w K mg base CX (k + 1) f (PySem.W.fnOf name qual params body scope dV kV doc pm an cdv ct) ps sp := by
  refine ⟨len, fun A outer s H args us vs Q E hr e0 hb r hsp => ?_⟩
  have hl := len _ _ _ _ hsp
  have KX : K.In s.heap := e0.mod.kin.keeps fun b o e => (e0.bs b o e).1
  have lim : s.heap.NoLimit := e0.mod.nolimit.keeps fun b o e => (e0.bs b o e).1
  have hkind : ∀ y ∈ ps.zip us, scope.names.lookup y.1 = some .local ∨ (scope.names.lookup y.1 = some .cell ∧ ((cellsFrom (s.heap.objs.size + 1) scope.names []).lookup y.1).isSome = true) := fun ⟨n, v⟩ hy => by
    rcases S.par n (List.of_mem_zip hy).1 with q | q
    · exact .inl q
    · exact .inr ⟨q, PySem.W.cellsFrom_some _ _ _ (.inl q)⟩
  refine codeAny_call_function hr.depth (KX _ _ lk) rfl S.co S.gen rfl (PySem.W.codeRec_of KX hcd) (hb _ _ _ _ ?_)
  refine wpAny_newFunctionEnv_cells S.kind hkind fun env he s1 x => ?_
  subst he
  refine ⟨lim.keeps x.toInCall.keep, codeAny_func ?_⟩
  obtain ⟨t, ht, hq⟩ := hbody A outer s H vs Q E (hr.deeper _) hsp
  have I : Inv (cxOf CX P w K mg base N qual scope f cdv A outer s H E) [] (start N vs) H s1 := inv_start S hr.hd e0 hl r x
  refine wpAny_mono (ht [] s1 (start N vs) H _ I hq) (fun fl s' hs => ?_) fun e s' hs => hs
  have fin : ∀ {σ' : St} {H' : Hp} {v : V} {u : Value}, Inv (cxOf CX P w K mg base N qual scope f cdv A outer s H E) [] σ' H' s' → RelV v u → Q v H' → CE outer P w H s Q u s' :=
    fun {σ' H' v u} J rv q => ⟨v, H', J.os, J.bare, J.base, J.hok, rv, q⟩
  cases fl with
  | ret u =>
    obtain ⟨v, σ', H', J, rv, q⟩ := hs
    exact fin J rv q
  | next =>
    obtain ⟨σ', H', J, q⟩ := hs
    exact fin (v := V.non) (u := Value.none) J rfl q
  | brk =>
    obtain ⟨_, _, _, q⟩ := hs
    exact False.elim q
  | cont =>
    obtain ⟨_, _, _, q⟩ := hs
    exact False.elim q
end L2

namespace L2
open PySem PySem.Spec PyProof.Rows
section
variable {X : Cx} {x : Str} {p pos : Pos} {e : Expr} {es : List Expr} {t : TA} {id T : String} {r : List V → Hp → VK → Prop}

def tCB (r : List V → Hp → VK → Prop) (t : TA) : TE := fun σ H Q => t σ H fun vs H1 => r vs H1 Q
/-- f(e, ..), f a built-in function -/
theorem pe_callB (hc : CallR X (.builtin id) r) (hg : Gl X x) (hm : X.mg x = none) (hv : bootBuiltins x = some (.builtin id)) (ha : PA X (e :: es) t) (hn : x ≠ "__name__" := by decide) (hdb : (x == ("__debug__" : Str)) = false := by decide)
    (he : starEach (e :: es) X.env = (false, eval e X.env) :: starEach es X.env := by rfl) (hpl : (backTo pos (starEach es X.env)).any (·.1) = false := by rfl) : PE X (.Call (.Name x p) (e :: es) [] pos) (tCB r t) := by
  intro pins s σ H Q I h
  refine wpAny_Call_Name_kw (ld_blt I hg hm hv ?_ hn hdb)
  exact PyProof.Rows.callWith_builtin1 (thn (ha pos pins s σ H _ I h) fun us s1 ⟨vs, H1, I1, r1, q1⟩ => hc pins s1 σ H1 vs us Q I1 r1 q1) he hpl
/-- T(e, ..), T a built-in type -/
theorem pe_callTy (hc : CallR X (.type T) r) (hg : Gl X x) (hm : X.mg x = none) (hv : bootBuiltins x = some (.type T)) (ha : PA X (e :: es) t) (hn : x ≠ "__name__" := by decide) (hdb : (x == ("__debug__" : Str)) = false := by decide)
    (he : starEach (e :: es) X.env = (false, eval e X.env) :: starEach es X.env := by rfl) (hpl : (backTo pos (starEach es X.env)).any (·.1) = false := by rfl) : PE X (.Call (.Name x p) (e :: es) [] pos) (tCB r t) := by
  intro pins s σ H Q I h
  refine wpAny_Call_Name_kw (ld_blt I hg hm hv ?_ hn hdb)
  exact PyProof.Rows.callWith_type1 (thn (ha pos pins s σ H _ I h) fun us s1 ⟨vs, H1, I1, r1, q1⟩ => hc pins s1 σ H1 vs us Q I1 r1 q1) he hpl
end
end L2

namespace HT
open PySem PyProof.Rows

/-- t < u of tuples of ints -/
def lexLt : List Int → List Int → Bool
  | [], [] => false
  | [], _ :: _ => true
  | _ :: _, [] => false
  | x :: xs, y :: ys => if x = y then lexLt xs ys else decide (x < y)
section
open PySem.SeqAt
open PySem.AutoSeq1 (wpAny_loadPart')
open PySem.MeetsSeq PySem.MeetsSeq2 PySem.MeetsSeq3

end

section
variable {prog : Program} {w : World} {A : Around} {E : Value → Shared → Prop} {s : Shared}

/-! ### t[a:b], not the whole -/
/-- a slice's bound as a place among n (d where it is left out) -/
def sIx (n d : Nat) : Option Int → Nat
  | none => d
  | some v => if v < 0 then (v + (n : Int)).toNat else min v.toNat n
theorem sIx_none (n d : Nat) : sIx n d none = d := rfl
theorem sIx_nat (n d k : Nat) : sIx n d (some (k : Int)) = min k n := by
  show (if (k : Int) < 0 then ((k : Int) + (n : Int)).toNat else min (k : Int).toNat n) = min k n
  rw [if_neg (by omega), Int.toNat_natCast]
end
end HT

namespace L2
open PySem PySem.Spec PyProof.Rows

/-! ### the parts of a slice -/
abbrev TO := St → Hp → (Option Int → Hp → Prop) → Prop
/-- a slice's part (left out, or an int) -/
def PO (X : Cx) (e : Option Expr) (t : TO) : Prop :=
  ∀ (pins : List (Addr × Obj)) (s : Shared) (σ : St) (H : Hp) (Q : Option Int → Hp → Prop), Inv X pins σ H s → t σ H Q →
    wpAny (model X.prog X.w) X.A (evalPart e X.env) (fun u s' => ∃ o H', Inv X pins σ H' s' ∧ IsPart u o ∧ Q o H') X.xe s
def tNoPart : TO := fun _ H Q => Q none H
def tPart (t : TE) : TO := fun σ H Q => t σ H fun x H1 => ∃ i, x = .int i ∧ Q (some i) H1

theorem intsAre_of {ns : List Int} : ∀ {us : List Value}, Vals (ns.map V.int) us → IntsAre us ns := by
  induction ns with
  | nil => intro us r; rw [List.map_nil] at r; cases r; exact .nil
  | cons n ns ih =>
    intro us r
    rw [List.map_cons] at r
    cases r with
    | cons r1 r2 =>
      obtain ⟨t, e⟩ := r1
      subst e
      exact .cons n t (ih r2)

section
variable {X : Cx} {e : Expr} {te : TE} {lo hi : Option Expr} {tl th : TO} {pos p2 : Pos}

theorem po_none : PO X none tNoPart := by
  intro pins s σ H Q I h
  rw [evalPart_none]
  exact wpAny_pure ⟨none, H, I, .none, h⟩
theorem po_some (h : PE X e te) : PO X (some e) (tPart te) := by
  intro pins s σ H Q I hw
  rw [evalPart_some]
  refine thn (h pins s σ H _ I hw) fun u s1 ⟨x, H1, I1, r1, q1⟩ => ?_
  obtain ⟨i, rfl, q⟩ := q1
  obtain ⟨t, rfl⟩ := r1
  exact ⟨some i, H1, I1, .int i t, q⟩

/-- what a slice of a value is, by values: the slice object stands at sl -/
def SlR (X : Cx) (r : V → Option Int → Option Int → Hp → VK → Prop) : Prop :=
  ∀ (pins : List (Addr × Obj)) (s : Shared) (σ : St) (H : Hp) (x : V) (v vl vu : Value) (lo hi : Option Int) (sl : Addr) (Q : VK), Inv X pins σ H s → RelV x v → s.heap.IsSliceOf sl vl vu .none → IsPart vl lo → IsPart vu hi → r x lo hi H Q →
    ∃ T id, typeLookup (.type T) "__getitem__" = pure (some (.builtin id)) ∧ s.TypeIs v T ∧ wpAny (model X.prog X.w) X.A (getItem v (.ref sl)) (EP X pins σ Q) X.xe s
theorem SlR.or {r r' : V → Option Int → Option Int → Hp → VK → Prop} (h : SlR X r) (h' : SlR X r') : SlR X (fun x lo hi H Q => r x lo hi H Q ∨ r' x lo hi H Q) := by
  intro pins s σ H x v vl vu lo hi sl Q I rx hs pl pu q
  rcases q with q | q
  · exact h pins s σ H x v vl vu lo hi sl Q I rx hs pl pu q
  · exact h' pins s σ H x v vl vu lo hi sl Q I rx hs pl pu q
def tSl (r : V → Option Int → Option Int → Hp → VK → Prop) (te : TE) (tl th : TO) : TE := fun σ H Q => te σ H fun x H1 => tl σ H1 fun l H2 => th σ H2 fun u H3 => r x l u H3 Q
/-- a[lo:hi], any a -/
theorem pe_slice {r : V → Option Int → Option Int → Hp → VK → Prop} (hr : SlR X r) (he : PE X e te) (hl : PO X lo tl) (hu : PO X hi th) : PE X (.Subscript e (.Slice lo hi none p2) pos) (tSl r te tl th) := by
  intro pins s σ H Q I h
  refine Subscript_ (thn (he pins s σ H _ I h) fun v s1 ⟨x, H1, I1, r1, q1⟩ => ?_)
  refine wpAny_Slice (thn (hl pins s1 σ H1 _ I1 q1) fun vl s2 ⟨l, H2, I2, pl, q2⟩ => thn (hu pins s2 σ H2 _ I2 q2) fun vu s3 ⟨u, H3, I3, pu, q3⟩ => ?_)
  rw [evalPart_none]
  refine wpAny_pure ?_
  have I4 : Inv X pins σ H3 { s3 with heap := s3.heap.push { cls := .type "slice", data := .fields #[vl, vu, .none] } } := I3.kept (t' := s3.toks) fun b ob q => Heap.get?_push_of_some _ q
  obtain ⟨T, id, hT, ht, hg⟩ := hr pins { s3 with heap := s3.heap.push { cls := .type "slice", data := .fields #[vl, vu, .none] } } σ H3 x v vl vu l u s3.heap.objs.size Q I4 r1 (Heap.IsSliceOf.new ..) pl pu q3
  show wpAny (model X.prog X.w) X.A (subscriptTail e (.Slice lo hi none p2) v (.ref s3.heap.objs.size)) (EP X pins σ Q) X.xe { s3 with heap := s3.heap.push { cls := .type "slice", data := .fields #[vl, vu, .none] } }
  exact tail_any (ops := [.ref s3.heap.objs.size, v]) ht hT hg (by with_unfolding_all rfl)

/-- the items of xs[lo:hi] -/
def cutV (xs : List V) (lo hi : Option Int) : List V := (xs.drop (HT.sIx xs.length 0 lo)).take (HT.sIx xs.length xs.length hi - HT.sIx xs.length 0 lo)
theorem cutV_length (xs : List V) (lo hi : Option Int) : (cutV xs lo hi).length ≤ xs.length := by
  unfold cutV
  rw [List.length_take, List.length_drop]
  omega
/-- t[lo:hi], not the whole of it (the whole would be t itself) -/
def rSlT (K : PySem.W.Frag) : V → Option Int → Option Int → Hp → VK → Prop := fun x lo hi H Q => ∃ a xs, x = .ref a ∧ SqT K H a xs ∧
  ¬ (HT.sIx xs.length 0 lo = 0 ∧ HT.sIx xs.length xs.length hi = xs.length) ∧ ∀ p, H p = none → Q (.ref p) (upd H p (.tup (cutV xs lo hi)))
/-! ### t < u, t + u -/
def rLtT (K : PySem.W.Frag) : R2 := fun x y H Q => ∃ a b ns ms, x = .ref a ∧ y = .ref b ∧ SqT K H a (ns.map V.int) ∧ SqT K H b (ms.map V.int) ∧ Q (.bl (HT.lexLt ns ms)) H
/-- t + u, t not empty: u empty gives t itself -/
def rCatT (K : PySem.W.Frag) : R2 := fun x y H Q => ∃ a b xs ys, x = .ref a ∧ y = .ref b ∧ SqT K H a xs ∧ SqT K H b ys ∧ xs ≠ [] ∧ xs.length + ys.length ≤ sizeLine ∧
  (ys = [] → Q (.ref a) H) ∧ (ys ≠ [] → ∀ p, H p = none → Q (.ref p) (upd H p (.tup (xs ++ ys))))
end
end L2

namespace L2
open PySem PySem.Spec PyProof.Rows

/-! ### places -/
/-- the place that an index of any sign means -/
def ixN (n : Nat) (i : Int) : Option Nat := if 0 ≤ i then (if i < n then some i.toNat else none) else if -(n : Int) ≤ i then some (i + n).toNat else none
def atI {α : Type} (xs : List α) (i : Int) : Option α := (ixN xs.length i).bind fun j => xs[j]?
theorem ixN_seq {n : Nat} {i : Int} {j : Nat} (h : ixN n i = some j) : seqIndex? i n = some j ∧ j < n ∧ -(n : Int) ≤ i ∧ i < n := by
  unfold ixN at h
  by_cases h0 : 0 ≤ i
  · rw [if_pos h0] at h
    by_cases h1 : i < n
    · rw [if_pos h1] at h
      have e : i.toNat = j := Option.some.inj h
      exact ⟨by rw [seqIndex_of h0 h1, e], by omega, by omega, h1⟩
    · rw [if_neg h1] at h; cases h
  · rw [if_neg h0] at h
    by_cases h1 : -(n : Int) ≤ i
    · rw [if_pos h1] at h
      have e : (i + n).toNat = j := Option.some.inj h
      exact ⟨by rw [seqIndex_neg (by omega) h1, e], by omega, h1, by omega⟩
    · rw [if_neg h1] at h; cases h
theorem atI_get {α : Type} {xs : List α} {i : Int} {v : α} (h : atI xs i = some v) : ∃ j, seqIndex? i xs.length = some j ∧ xs[j]? = some v ∧ j < xs.length ∧ -(xs.length : Int) ≤ i ∧ i < xs.length := by
  unfold atI at h
  cases e : ixN xs.length i with
  | none => rw [e] at h; cases h
  | some j =>
    rw [e] at h
    obtain ⟨h1, h2, h3, h4⟩ := ixN_seq e
    exact ⟨j, h1, h, h2, h3, h4⟩
theorem atI_nat {α : Type} {xs : List α} {j : Nat} {v : α} (h : xs[j]? = some v) : atI xs (j : Int) = some v := by
  have hj : j < xs.length := (List.getElem?_eq_some_iff.mp h).1
  have e : ixN xs.length (j : Int) = some j := by
    unfold ixN
    rw [if_pos (by omega), if_pos (by omega)]; simp
  unfold atI; rw [e]; exact h
theorem atI_last {α : Type} (xs : List α) (v : α) : atI (xs ++ [v]) (-1) = some v := by
  have hl : (xs ++ [v]).length = xs.length + 1 := by simp
  have e : ixN (xs ++ [v]).length (-1) = some xs.length := by
    unfold ixN
    rw [hl, if_neg (by decide), if_pos (by omega)]
    congr 1
    omega
  unfold atI
  rw [e]
  show (xs ++ [v])[xs.length]? = some v
  simp

/-! ### what may be subscripted -/
/-- what stands as an index of a plain subscript -/
def PlainIx (b : Expr) : Prop := ∀ o i, subscripted b false o i = operate [o, i] (getItem o i)
/-- a subscript by values -/
def IxR (X : Cx) (r : R2) : Prop :=
  ∀ (value slice : Expr) (pins : List (Addr × Obj)) (s : Shared) (σ : St) (H : Hp) (x y : V) (v u : Value) (Q : VK), Inv X pins σ H s → RelV x v → RelV y u → r x y H Q →
    subscripted slice false v u = operate [v, u] (getItem v u) → wpAny (model X.prog X.w) X.A (subscriptTail value slice v u) (EP X pins σ Q) X.xe s
/-- a call of a builtin's method by values: the receiver, the arguments -/
def MtR (X : Cx) (id : String) (r : V → List V → Hp → VK → Prop) : Prop :=
  ∀ (pins : List (Addr × Obj)) (s : Shared) (σ : St) (H : Hp) (x : V) (xs : List V) (v : Value) (us : List Value) (Q : VK), Inv X pins σ H s → RelV x v → Vals xs us → r x xs H Q →
    wpAny (model X.prog X.w) X.A (call (.builtin id) (v :: us)) (EP X pins σ Q) X.xe s
section
variable {X : Cx} {a b : Expr} {ta tb : TE} {pos : Pos}
theorem IxR.or {r r' : R2} (h : IxR X r) (h' : IxR X r') : IxR X (fun x y H Q => r x y H Q ∨ r' x y H Q) := by
  intro value slice pins s σ H x y v u Q I rx ry q hs
  rcases q with q | q
  · exact h value slice pins s σ H x y v u Q I rx ry q hs
  · exact h' value slice pins s σ H x y v u Q I rx ry q hs
theorem MtR.or {id : String} {r r' : V → List V → Hp → VK → Prop} (h : MtR X id r) (h' : MtR X id r') : MtR X id (fun x xs H Q => r x xs H Q ∨ r' x xs H Q) := by
  intro pins s σ H x xs v us Q I rx rs q
  rcases q with q | q
  · exact h pins s σ H x xs v us Q I rx rs q
  · exact h' pins s σ H x xs v us Q I rx rs q
/-- a[b] -/
theorem pe_ix {r : R2} (hr : IxR X r) (ha : PE X a ta) (hb : PE X b tb) (hs : PlainIx b) : PE X (.Subscript a b pos) (tOp r ta tb) := by
  intro pins s σ H Q I h
  exact Subscript_ (binT ha hb I h fun v u s2 x y H2 I2 rx ry q => hr a b pins s2 σ H2 x y v u Q I2 rx ry q (hs _ _))

def rIxL (K : PySem.W.Frag) : R2 := fun x y H Q => ∃ p xs i v, x = .ref p ∧ y = .int i ∧ SqL K H p xs ∧ atI xs i = some v ∧ Q v H
def rIxT (K : PySem.W.Frag) : R2 := fun x y H Q => ∃ p xs i v, x = .ref p ∧ y = .int i ∧ SqT K H p xs ∧ atI xs i = some v ∧ Q v H
def rIxS : R2 := fun x y H Q => ∃ z i c, x = .str z ∧ y = .int i ∧ z.length ≤ sizeLine ∧ atI z.cps.toList i = some c ∧ Q (.str ⟨#[c]⟩) H
theorem ix_list : IxR X (rIxL X.K) := by
  intro value slice pins s σ H x y v u Q I rx ry h hs
  obtain ⟨p, xs, i, z, rfl, rfl, hq, he, q⟩ := h
  cases rx
  obtain ⟨t, rfl⟩ := ry
  obtain ⟨its, r, pl, hz⟩ := I.list hq
  obtain ⟨j, h1, h2, h3, h4, h5⟩ := atI_get he
  obtain ⟨w, ew, rw'⟩ := r.get h2
  have hl := r.length
  have hn := line63
  have fin : EP X pins σ Q w s := ⟨z, H, I, rw', q⟩
  by_cases h0 : 0 ≤ i
  · have hj : i.toNat = j := by
      rw [seqIndex_of h0 h5] at h1
      exact Option.some.inj h1
    exact item_listR pl.isList h0 (by omega) (by rw [hj]; simpa using ew) fin hs
  · have hj : (i + (its.toArray.size : Int)).toNat = j := by
      rw [seqIndex_neg (by omega) h4] at h1
      rw [List.size_toArray, ← hl]
      exact Option.some.inj h1
    exact subscriptTail_builtinR (x := w) pl.isList.typeIs slot_list_getitem.lookup
      (wpAny_getItem_list_neg (Q := fun r s' => r = w ∧ EP X pins σ Q r s') pl.isList (by omega) (by rw [List.size_toArray] <;> omega) (by omega) (by rw [hj]; simpa using ew) ⟨rfl, fin⟩) hs
theorem ix_tup : IxR X (rIxT X.K) := by
  intro value slice pins s σ H x y v u Q I rx ry h hs
  obtain ⟨p, xs, i, z, rfl, rfl, hq, he, q⟩ := h
  cases rx
  obtain ⟨t, rfl⟩ := ry
  obtain ⟨its, r, pl, hz⟩ := I.tuple hq
  obtain ⟨j, h1, h2, h3, h4, h5⟩ := atI_get he
  obtain ⟨w, ew, rw'⟩ := r.get h2
  have hl := r.length
  have hn := line63
  have fin : EP X pins σ Q w s := ⟨z, H, I, rw', q⟩
  exact subscriptTail_builtinR (x := w) pl.typeIs slot_tuple_getitem.lookup
    (getItem_tuple (j := j) (Q := fun r s' => r = w ∧ EP X pins σ Q r s') pl (by omega) (by omega) (by rw [List.size_toArray, ← hl]; exact h1) (by simpa using ew) ⟨rfl, fin⟩) hs
theorem ix_str : IxR X rIxS := by
  intro value slice pins s σ H x y v u Q I rx ry h hs
  obtain ⟨z, i, c, rfl, rfl, hz, he, q⟩ := h
  obtain ⟨t, rfl⟩ := rx
  obtain ⟨t', rfl⟩ := ry
  obtain ⟨j, h1, h2, h3, h4, h5⟩ := atI_get he
  have hl : z.cps.toList.length = z.length := by simp [Str.length]
  rw [hl] at h1 h4 h5
  have hn := line63
  exact tail_any (typeIs_str s z t) slot_str_getitem.lookup (getItem_str (c := c) (by
    have e1 : decide (i < -(2 ^ 63 : Int)) = false := decide_eq_false (by omega)
    have e2 : decide (i ≥ 2 ^ 63) = false := decide_eq_false (by omega)
    rw [e1, e2, Bool.or_false]) (by rw [h1]; simpa using h2) ⟨.str ⟨#[c]⟩, H, I.tok _, ⟨_, rfl⟩, q⟩) hs
/-- list, tuple or str -/
def rIx (K : PySem.W.Frag) : R2 := fun x y H Q => rIxL K x y H Q ∨ rIxT K x y H Q ∨ rIxS x y H Q
/-! ### xs[i] = v, any sign -/
theorem Inv.lst {pins : List (Addr × Obj)} {σ : St} {H : Hp} {s : Shared} {p : Addr} {xs : List V} (I : Inv X pins σ H s) (h : H p = some (.lst xs)) :
    ∃ (its : List Value) (n : Nat), Vals xs its ∧ s.heap.get? p = some { cls := .type "list", data := .seq its.toArray n } ∧ xs.length ≤ sizeLine := by
  obtain ⟨z, its, n, r, e⟩ := I.hok p _ h
  exact ⟨its, n, r, e, z⟩
def rSetL : V → V → V → Hp → (Hp → Prop) → Prop := fun o i v H Q => ∃ p xs k j, o = .ref p ∧ i = .int k ∧ H p = some (.lst xs) ∧ ixN xs.length k = some j ∧ Q (upd H p (.lst (xs.set j v)))
/-! ### slices -/
theorem slice_bounds (lo hi : Option Int) (n : Nat) : (sliceBounds lo hi none n).1 = ((HT.sIx n 0 lo : Nat) : Int) ∧ (sliceBounds lo hi none n).2.1 = ((HT.sIx n n hi : Nat) : Int) ∧ (sliceBounds lo hi none n).2.2 = 1 := by
  refine ⟨?_, ?_, rfl⟩
  · cases lo with
    | none => simp [sliceBounds, HT.sIx]
    | some i =>
      simp only [sliceBounds, HT.sIx, Option.getD_none, show (1 : Int) > 0 by decide, if_true]
      by_cases h : i < 0
      · simp only [h, if_true] <;> omega
      · simp only [h, if_false] <;> omega
  · cases hi with
    | none => simp [sliceBounds, HT.sIx]
    | some i =>
      simp only [sliceBounds, HT.sIx, Option.getD_none, show (1 : Int) > 0 by decide, if_true]
      by_cases h : i < 0
      · simp only [h, if_true] <;> omega
      · simp only [h, if_false] <;> omega
theorem slicePick_cut (its : List Value) (lo hi : Option Int) : slicePick its.toArray lo hi none = ((its.drop (HT.sIx its.length 0 lo)).take (HT.sIx its.length its.length hi - HT.sIx its.length 0 lo)).toArray := by
  obtain ⟨h1, h2, h3⟩ := slice_bounds lo hi its.toArray.size
  unfold slicePick
  rw [h1, h2, h3]
  simp only [sliceRange_one, pick_run, List.size_toArray] <;> rfl
/-- xs[lo:hi] of a list: a new list -/
def rSlL (K : PySem.W.Frag) : V → Option Int → Option Int → Hp → VK → Prop := fun x lo hi H Q => ∃ a xs, x = .ref a ∧ SqL K H a xs ∧ ∀ p, H p = none → Q (.ref p) (upd H p (.lst (cutV xs lo hi)))
theorem sl_list : SlR X (rSlL X.K) := by
  intro pins s σ H x v vl vu lo hi sl Q I rx hs pl pu h
  obtain ⟨a, xs, rfl, hx, q⟩ := h
  cases rx
  obtain ⟨its, r, ht, hz⟩ := I.list hx
  have hlen := r.length
  refine ⟨"list", _, slot_list_getitem.lookup, ht.isList.typeIs, ?_⟩
  refine wpAny_getItem_list_slice ht.isList hs pl pu .none (by simp) ?_ (by rw [List.size_toArray] <;> omega)
  rw [slicePick_cut, ← hlen]
  refine ⟨.ref s.heap.objs.size, _, I.laid (t' := s.toks) (o := .lst (cutV xs lo hi)) (fun b ob q => Heap.get?_push_of_some _ q) (Nat.le_refl _) ?_, rfl, q _ (I.hok.fresh (Nat.le_refl _))⟩
  exact ⟨Nat.le_trans (cutV_length xs lo hi) hz, _, 0, (r.drop (HT.sIx xs.length 0 lo)).take (HT.sIx xs.length xs.length hi - HT.sIx xs.length 0 lo), Heap.get?_push_size _ rfl⟩

/-! ### in, not in: flat items -/
def flatV : V → Bool
  | .non => true
  | .bl _ => true
  | .int _ => true
  | .str _ => true
  | _ => false
/-- == of flat values -/
def eqV : V → V → Bool
  | .non, .non => true
  | .bl a, .bl b => a == b
  | .bl a, .int b => (if a then 1 else 0) == b
  | .int a, .bl b => a == (if b then 1 else 0)
  | .int a, .int b => a == b
  | .str a, .str b => a == b
  | _, _ => false
/-- the items' answers, read off the values (a value's own answer does not lean on its token) -/
def eqU (x : V) (u : Value) : Bool := match u with
  | .none => eqV .non x
  | .bool b => eqV (.bl b) x
  | .int i _ => eqV (.int i) x
  | .str z _ => eqV (.str z) x
  | _ => false
def inV (x : V) (xs : List V) : Bool := xs.any fun y => eqV y x
/-- x in a list or tuple of flat items -/
def rIn (K : PySem.W.Frag) (neg : Bool) : R2 := fun x y H Q => ∃ p xs, y = .ref p ∧ (SqL K H p xs ∨ SqT K H p xs) ∧ flatV x = true ∧ xs.all flatV = true ∧ Q (.bl (if neg then !inV x xs else inV x xs)) H
/-! ### len, list(x), tuple(x) of any list or tuple that is read -/
theorem call_len_seq : CallR X (.builtin "len") (fun xs H Q => ∃ p ys, xs = [.ref p] ∧ (SqL X.K H p ys ∨ SqT X.K H p ys) ∧ Q (.int ys.length) H) := by
  intro pins s σ H xs us Q I r h
  obtain ⟨p, ys, rfl, hq, q⟩ := h
  obtain ⟨u, rfl, rx⟩ := vals1 r
  cases rx
  have hn := line63
  rcases hq with hq | hq
  · obtain ⟨its, r', pl, hz⟩ := I.list hq
    have hlen := r'.length
    exact Calls.call_len_list pl.isList (by simp only [List.size_toArray] <;> omega) ⟨.int ys.length, H, I.tok _, ⟨s.toks + 1, by rw [List.size_toArray, hlen]⟩, q⟩
  · obtain ⟨its, r', pl, hz⟩ := I.tuple hq
    have hlen := r'.length
    exact len_tuple pl (by simp only [List.size_toArray] <;> omega) ⟨.int ys.length, H, I.tok _, ⟨s.toks + 1, by rw [List.size_toArray, hlen]⟩, q⟩
theorem call_len_str : CallR X (.builtin "len") (fun xs H Q => ∃ z, xs = [.str z] ∧ z.length ≤ sizeLine ∧ Q (.int z.length) H) := by
  intro pins s σ H xs us Q I r h
  obtain ⟨z, rfl, hz, q⟩ := h
  obtain ⟨u, rfl, t, rfl⟩ := vals1 r
  have hn := line63
  exact len_str (by omega) ⟨.int z.length, H, I.tok _, ⟨_, rfl⟩, q⟩
theorem CallR.or {f : Value} {r r' : List V → Hp → VK → Prop} (h : CallR X f r) (h' : CallR X f r') : CallR X f (fun xs H Q => r xs H Q ∨ r' xs H Q) := by
  intro pins s σ H xs us Q I rs q
  rcases q with q | q
  · exact h pins s σ H xs us Q I rs q
  · exact h' pins s σ H xs us Q I rs q
/-! ### the call of a builtin's method: o.m(..) -/
/-- the value is of that builtin type -/
def tyV (K : PySem.W.Frag) (T : String) (x : V) (H : Hp) : Prop := match x with
  | .str _ => T = "str"
  | .int _ => T = "int"
  | .ref p => (T = "list" ∧ ∃ xs, SqL K H p xs) ∨ (T = "tuple" ∧ ∃ o, K.lookup p = some o ∧ o.cls = .type "tuple" ∧ o.dict = none) ∨
      (T = "dict" ∧ ((∃ kvs, H p = some (.dK kvs)) ∨ ∃ kvs, H p = some (.dT kvs))) ∨ (T = "set" ∧ ∃ S n, H p = some (.set S n))
  | _ => False
theorem tyV_is {pins : List (Addr × Obj)} {σ : St} {H : Hp} {s : Shared} {T : String} {x : V} {v : Value} (I : Inv X pins σ H s) (r : RelV x v) (ty : tyV X.K T x H) :
    s.TypeIs v T ∧ ∀ a, v = .ref a → ∃ ob, s.heap.get? a = some ob ∧ ob.dict = none := by
  cases x with
  | str z =>
    obtain ⟨t, rfl⟩ := r
    cases (show T = "str" from ty)
    exact ⟨typeIs_str s z t, fun _ e => nomatch e⟩
  | int i =>
    obtain ⟨t, rfl⟩ := r
    cases (show T = "int" from ty)
    exact ⟨typeIs_int s i t, fun _ e => nomatch e⟩
  | ref p =>
    cases r
    rcases ty with ⟨rfl, xs, hq⟩ | ⟨rfl, o, hk, hc, hd⟩ | ⟨rfl, hk⟩ | ⟨rfl, S, n, hk⟩
    · obtain ⟨its, _, pl, _⟩ := I.list hq
      refine ⟨pl.isList.typeIs, fun a e => ?_⟩
      cases e
      obtain ⟨o, n, e, c, hd, _⟩ := pl
      exact ⟨o, e, hd⟩
    · refine ⟨⟨o, I.kIn p o hk, hc⟩, fun a e => ?_⟩
      cases e
      exact ⟨o, I.kIn _ o hk, hd⟩
    · have z : ∃ o, s.heap.get? p = some o ∧ o.ExactDict := by
        rcases hk with ⟨kvs, hk⟩ | ⟨kvs, hk⟩
        · obtain ⟨_, _, _, _, o, _, _, e, ex, _⟩ := I.hok p _ hk
          exact ⟨o, e, ex⟩
        · obtain ⟨_, _, _, _, o, _, _, e, ex, _⟩ := I.hok p _ hk
          exact ⟨o, e, ex⟩
      obtain ⟨o, e, ex⟩ := z
      refine ⟨⟨o, e, ex.1⟩, fun a e2 => ?_⟩
      cases e2
      exact ⟨o, e, ex.2.1⟩
    · obtain ⟨o, _, _, _, e, ex, _⟩ := I.hok p _ hk
      refine ⟨⟨o, e, ex.1⟩, fun a e2 => ?_⟩
      cases e2
      exact ⟨o, e, ex.2.1⟩
  | _ => exact False.elim ty
def tBM0 (K : PySem.W.Frag) (T : String) (r : V → List V → Hp → VK → Prop) (to : TE) : TE := fun σ H Q => to σ H fun x H1 => tyV K T x H1 ∧ r x [] H1 Q
def tBM (K : PySem.W.Frag) (T : String) (r : V → List V → Hp → VK → Prop) (to : TE) (t : TA) : TE := fun σ H Q => to σ H fun x H1 => tyV K T x H1 ∧ t σ H1 fun xs H2 => r x xs H2 Q
variable {o e : Expr} {es : List Expr} {to : TE} {t : TA} {name : Str} {apos cpos : Pos} {T id : String} {r : V → List V → Hp → VK → Prop}
theorem pe_bm0 (pa : PlainAttrs T) (slot : Slot T name id) (hty : typeOf (.builtin id) = pure (.type "method_descriptor")) (hm : MtR X id r) (ho : PE X o to)
    (hbase : attributeBase o name X.env (eval o X.env) = eval o X.env := by rfl) (hline : (apos.endLine == cpos.line) = true := by rfl) : PE X (.Call (.Attribute o name apos) [] [] cpos) (tBM0 X.K T r to) := by
  intro pins s σ H Q I h
  refine wpAny_Call_method0_late hbase hline (thn (ho pins s σ H _ I h) fun v s1 ⟨x, H1, I1, r1, ty, q1⟩ => ?_)
  obtain ⟨h1, h2⟩ := tyV_is I1 r1 ty
  exact ⟨T, id, pa, slot, hty, h1, h2, Calls.callWith_builtin rfl (PySem.evalArgs_none (hm pins s1 σ H1 x [] v [] Q I1 r1 .nil q1))⟩
theorem pe_bm (pa : PlainAttrs T) (slot : Slot T name id) (hty : typeOf (.builtin id) = pure (.type "method_descriptor")) (hm : MtR X id r) (ho : PE X o to) (ha : PA X (e :: es) t)
    (hbase : attributeBase o name X.env (eval o X.env) = eval o X.env := by rfl)
    (hfew : ((backTo cpos (starEach (e :: es) X.env)).all (fun x => !x.1) && (backToKw cpos (keywordEach [] X.env)).all (fun x => x.1.isSome)
      && decide ((e :: es).length + ([] : List Keyword).length + (if ([] : List Keyword).isEmpty then 0 else 1) < 30)) = true := by rfl)
    (hline : (apos.endLine == cpos.line) = true := by rfl) (hs : starEach (e :: es) X.env = (false, eval e X.env) :: starEach es X.env := by rfl) (hplain : (backTo cpos (starEach es X.env)).any (·.1) = false := by rfl) :
    PE X (.Call (.Attribute o name apos) (e :: es) [] cpos) (tBM X.K T r to t) := by
  intro pins s σ H Q I h
  refine wpAny_Call_method_late hbase hfew hline rfl (thn (ho pins s σ H _ I h) fun v s1 ⟨x, H1, I1, r1, ty, q1⟩ => ?_)
  obtain ⟨h1, h2⟩ := tyV_is I1 r1 ty
  refine ⟨T, id, pa, slot, hty, h1, h2, ?_⟩
  have hA := ha cpos pins s1 σ H1 _ I1 q1
  rw [hs] at hA ⊢
  refine Calls.callWith_builtin (by show (false || (backTo cpos (starEach es X.env)).any (·.1)) = false; rw [hplain] <;> rfl) (Calls.evalArgs_plain ?_)
  exact thn hA fun us s2 ⟨vs, H2, I2, r2, q2⟩ => hm pins s2 σ H2 x vs v us Q I2 r1 r2 q2
/- xs.append(e), list.index on a module's tuple .. are MtR facts of 06m -/
end
end L2

namespace L2
open PySem PySem.Spec PyProof.Rows

def MtM (X : Cx) (id : String) (r : V → List V → Hp → VK → Prop) : Prop :=
  ∀ (pins : List (Addr × Obj)) (s : Shared) (σ : St) (H : Hp) (x : V) (xs : List V) (v : Value) (us : List Value) (Q : VK), Inv X pins σ H s → RelV x v → Vals xs us → r x xs H Q →
    wpAny (model X.prog X.w) X.A (call (.builtin id) (v :: us)) (EP X pins σ Q) X.xe s

/-! ### lists of values -/
theorem Vals.one : ∀ {x : V} {us : List Value}, Vals [x] us → ∃ u, us = [u] ∧ RelV x u
  | _, _, .cons r .nil => ⟨_, rfl, r⟩
theorem Vals.two : ∀ {x y : V} {us : List Value}, Vals [x, y] us → ∃ u v, us = [u, v] ∧ RelV x u ∧ RelV y v
  | _, _, _, .cons r (.cons q .nil) => ⟨_, _, rfl, r, q⟩
theorem Vals.zero : ∀ {us : List Value}, Vals [] us → us = []
  | _, .nil => rfl
theorem Vals.dropLast {xs : List V} {us : List Value} (h : Vals xs us) : Vals xs.dropLast us.dropLast := by
  induction h with
  | nil => exact .nil
  | cons r t ih =>
    cases t with
    | nil => exact .nil
    | cons q t' => exact .cons r ih
theorem Vals.eraseIdx : ∀ {xs : List V} {us : List Value} (i : Nat), Vals xs us → Vals (xs.eraseIdx i) (us.eraseIdx i)
  | _, _, _, .nil => .nil
  | _, _, 0, .cons _ t => t
  | _, _, i + 1, .cons r t => .cons r (Vals.eraseIdx i t)
theorem Vals.reverse {xs : List V} {us : List Value} (h : Vals xs us) : Vals xs.reverse us.reverse := by
  induction h with
  | nil => exact .nil
  | cons r t ih => rw [List.reverse_cons, List.reverse_cons]; exact Vals.append ih (.cons r .nil)
theorem erase_last {α : Type} (l : List α) : l.eraseIdx (l.length - 1) = l.dropLast := by
  induction l with
  | nil => rfl
  | cons a r ih =>
    cases r with
    | nil => rfl
    | cons b r =>
      have e : (a :: b :: r).length - 1 = ((b :: r).length - 1) + 1 := by
        have h1 : (a :: b :: r).length = r.length + 2 := rfl
        have h2 : (b :: r).length = r.length + 1 := rfl
        omega
      rw [e, List.eraseIdx_cons_succ, ih]
      all_goals rfl
section
variable {X : Cx} {pins : List (Addr × Obj)} {σ : St} {H : Hp} {s : Shared} {l b : Addr} {xs ys zs : List V}

/-! ### the two steps: a tracked list is rewritten, a new list is laid -/
theorem Inv.lset {its its' : List Value} {n : Nat} {f : Array Value → Array Value} {t' : Nat} (I : Inv X pins σ H s) (hH : H l = some (.lst xs))
    (e : s.heap.get? l = some { cls := .type "list", data := .seq its.toArray n }) (hf : f its.toArray = its'.toArray) (hv : Vals ys its') (hz : ys.length ≤ sizeLine) :
    Inv X pins σ (upd H l (.lst ys)) { s with heap := s.heap.update l (Obj.mapSeq f), toks := t' } := by
  have q := PySem.IsL.update e f
  rw [hf] at q
  refine I.write (x := l) (e := l) (by rw [hH]; exact trivial) (.inl rfl) (fun b' u hb hu => (Heap.get?_update_other s.heap (Obj.mapSeq f) (Ne.symm hb)).trans hu) ⟨_, q⟩ ?_
  exact ⟨hz, its', _, hv, q⟩
theorem Inv.lnew {its : List Value} {t' : Nat} (I : Inv X pins σ H s) (hv : Vals ys its) (hz : ys.length ≤ sizeLine) :
    Inv X pins σ (upd H s.heap.objs.size (.lst ys)) { s with heap := s.heap.push { cls := .type "list", data := .seq its.toArray }, toks := t' } :=
  I.laid (fun _ _ q => Heap.get?_push_of_some _ q) (Nat.le_refl _) ⟨hz, its, 0, hv, Heap.get?_push_size _ rfl⟩
theorem Inv.fresh (I : Inv X pins σ H s) : H s.heap.objs.size = none := I.hok.fresh (Nat.le_refl _)
theorem Inv.lstM (I : Inv X pins σ H s) (hH : H l = some (.lst xs)) : xs.length ≤ sizeLine ∧ ∃ (its : List Value) (n : Nat), Vals xs its ∧ xs.length = its.length ∧ s.heap.get? l = some { cls := .type "list", data := .seq its.toArray n } := by
  obtain ⟨z, its, n, r, e⟩ := I.hok l _ hH
  exact ⟨z, its, n, r, r.length, e⟩

theorem notLongL {n : Nat} (h : n ≤ sizeLine) : Builtin.List.listTooLong n = false := by
  unfold Builtin.List.listTooLong
  exact decide_eq_false (by omega)
end

section
variable {X : Cx}

/-! ### methods -/
def rAppend : V → List V → Hp → VK → Prop := fun x vs H Q => ∃ l xs y, x = .ref l ∧ vs = [y] ∧ H l = some (.lst xs) ∧ xs.length < sizeLine ∧ Q .non (upd H l (.lst (xs ++ [y])))
theorem mt_append : MtM X "list.append" rAppend := by
  intro pins s σ H x vs v us Q I rx rv h
  obtain ⟨l, xs, y, rfl, rfl, hH, hz, q⟩ := h
  cases rx
  obtain ⟨u, rfl, ru⟩ := rv.one
  obtain ⟨z, its, n, r, hl, e⟩ := I.lstM hH
  refine call_meets F.slot_list_append ⟨_, e, rfl⟩ F.entry_list_append (F.args_list_append_2 _ _) (PySem.list_append l its.toArray n u (by rw [List.size_toArray]; omega)) ⟨e, ?_⟩
  refine ⟨.non, _, I.lset (its' := its ++ [u]) hH e (by simp) (r.append (.cons ru .nil)) ?_, rfl, q⟩
  rw [List.length_append, List.length_singleton]
  omega

def rExtend : V → List V → Hp → VK → Prop := fun x vs H Q => ∃ l b xs zs, x = .ref l ∧ vs = [.ref b] ∧ H l = some (.lst xs) ∧ H b = some (.lst zs) ∧ xs.length + zs.length ≤ sizeLine ∧ Q .non (upd H l (.lst (xs ++ zs)))
theorem mt_extend : MtM X "list.extend" rExtend := by
  intro pins s σ H x vs v us Q I rx rv h
  obtain ⟨l, b, xs, zs, rfl, rfl, hH, hB, hz, q⟩ := h
  cases rx
  obtain ⟨u, rfl, ru⟩ := rv.one
  cases ru
  obtain ⟨z, its, n, r, hl, e⟩ := I.lstM hH
  obtain ⟨z2, its2, n2, r2, hl2, e2⟩ := I.lstM hB
  have hsz : its.toArray.size + its2.toArray.size ≤ sizeLine := by rw [List.size_toArray, List.size_toArray]; omega
  have hlong : ¬ (!its.toArray.isEmpty && Builtin.List.listTooLong (its.toArray.size + its2.toArray.size)) = true := by
    rw [notLongL hsz, Bool.and_false]
    exact Bool.false_ne_true
  refine call_meets F.slot_list_extend ⟨_, e, rfl⟩ F.entry_list_extend (F.args_list_extend_2 _ _)
    (AutoSeq1.list_extend_list_list_0 l its.toArray n b its2.toArray n2 hlong (by rw [List.size_toArray]; omega) (by omega)) ⟨e, e2, ?_⟩
  refine ⟨.non, _, I.lset (its' := its ++ its2) hH e (by simp) (r.append r2) ?_, rfl, q⟩
  rw [List.length_append]
  omega

def rPop : V → List V → Hp → VK → Prop := fun x vs H Q => ∃ l xs y, x = .ref l ∧ vs = [] ∧ H l = some (.lst xs) ∧ xs[xs.length - 1]? = some y ∧ Q y (upd H l (.lst xs.dropLast))
theorem mt_pop : MtM X "list.pop" rPop := by
  intro pins s σ H x vs v us Q I rx rv h
  obtain ⟨l, xs, y, rfl, rfl, hH, hy, q⟩ := h
  cases rx
  have hus := rv.zero
  subst hus
  obtain ⟨z, its, n, r, hl, e⟩ := I.lstM hH
  obtain ⟨u, hu, ru⟩ := r.get hy
  have hy' : its.toArray[its.toArray.size - 1]? = some u := by
    show its.toArray[its.length - 1]? = some u
    rw [← Array.getElem?_toList, ← hl]
    exact hu
  refine call_meets F.slot_list_pop ⟨_, e, rfl⟩ F.entry_list_pop (F.args_list_pop_1 _) (MeetsSeq.list_pop_last l its.toArray n u hy' (by rw [List.size_toArray]; omega)) ⟨e, ?_⟩
  refine ⟨y, _, I.lset (its' := its.dropLast) hH e ?_ r.dropLast ?_, ru, q⟩
  · show its.toArray.eraseIdxIfInBounds (its.toArray.size - 1) = its.dropLast.toArray
    rw [List.size_toArray, List.eraseIdxIfInBounds_toArray, erase_last]
  · rw [List.length_dropLast]
    omega

def rPopAt : V → List V → Hp → VK → Prop := fun x vs H Q => ∃ l xs i k y, x = .ref l ∧ vs = [.int i] ∧ H l = some (.lst xs) ∧ -(2 ^ 63) ≤ i ∧ i < 2 ^ 63 ∧ seqIndex? i xs.length = some k ∧ xs[k]? = some y ∧ Q y (upd H l (.lst (xs.eraseIdx k)))
def rReverse : V → List V → Hp → VK → Prop := fun x vs H Q => ∃ l xs, x = .ref l ∧ vs = [] ∧ H l = some (.lst xs) ∧ Q .non (upd H l (.lst xs.reverse))
def rClear : V → List V → Hp → VK → Prop := fun x vs H Q => ∃ l xs, x = .ref l ∧ vs = [] ∧ H l = some (.lst xs) ∧ Q .non (upd H l (.lst []))
/-! ### list + list, list += list, list * int -/
def rCat : R2 := fun x y H Q => ∃ l b xs zs, x = .ref l ∧ y = .ref b ∧ H l = some (.lst xs) ∧ H b = some (.lst zs) ∧ xs.length + zs.length ≤ sizeLine ∧ ∀ p, H p = none → Q (.ref p) (upd H p (.lst (xs ++ zs)))
theorem op_cat : OpR X (binaryOp .Add) rCat := by
  intro pins s σ H x y v u Q I rx ry h
  obtain ⟨l, b, xs, zs, rfl, rfl, hH, hB, hz, q⟩ := h
  cases rx
  cases ry
  obtain ⟨z, its, n, r, hl, e⟩ := I.lstM hH
  obtain ⟨z2, its2, n2, r2, hl2, e2⟩ := I.lstM hB
  refine PySem.P.add_list e e2 ?_ (by rw [List.size_toArray, List.size_toArray]; omega)
  have ea : its.toArray ++ its2.toArray = (its ++ its2).toArray := by simp
  rw [ea]
  exact ⟨.ref _, _, I.lnew (t' := s.toks) (r.append r2) (by rw [List.length_append]; omega), rfl, q _ I.fresh⟩
/-- a list times an int (a negative one is nothing) -/
def rRep : R2 := fun x y H Q => ∃ l k xs, x = .ref l ∧ y = .int k ∧ H l = some (.lst xs) ∧ -(2 ^ 63) ≤ k ∧ k < 2 ^ 63 ∧ xs.length * k.toNat ≤ sizeLine ∧
  ∀ p, H p = none → Q (.ref p) (upd H p (.lst (List.replicate k.toNat xs).flatten))
/-! ### del xs[i] -/
end

/-! ### xs[a:b] = ys -/
section
variable {prog : Program} {w : World} {A : Around} {E : Value → Shared → Prop} {s : Shared}
end

section
variable {X : Cx}
end
end L2

namespace Att
open PySem PySem.W PySem.Calls PyProof.Rows

/-! ### the script -/
theorem ints_of_wellAll {P : Params} {h : Heap} : ∀ (ns : List Int) (vs : List Value), WellAll P h vs (ns.map WData.int) → IntsAre vs ns := by
  intro ns
  induction ns with
  | nil =>
    intro vs w
    rw [List.map_nil] at w
    cases w
    exact .nil
  | cons n ns ih =>
    intro vs w
    rw [List.map_cons] at w
    cases w with
    | cons a b =>
      cases a
      exact .cons _ _ (ih _ b)

theorem script_of {l : OpenLaw} {n : Nat} (hn : l.most = some n) {P : Params} {h : Heap} {args : List WData} {vals : List Value}
    (hpre : l.row.toRowW.claim.pre args = true) (hwl : WellAll P h vals args) :
    ∃ a vs ns, vals = [Value.ref a] ∧ args = [WData.list (ns.map WData.int)] ∧ h.get? a = some { cls := .type "list", data := .seq vs.toArray } ∧ IntsAre vs ns ∧ ns.length ≤ n := by
  have hsh : WShape.hasAll [] args [.list .int] = true := (pre_splitW hpre).1
  have hc : l.pre.holds [] { args := args } = true := (pre_splitW hpre).2
  obtain ⟨d, r, rfl, h1, h2⟩ := hasAllW_cons hsh
  obtain rfl := hasAllW_nil h2
  obtain ⟨xs, rfl, h3⟩ := hasW_list h1
  obtain ⟨ns, rfl⟩ := items_int h3
  have hlen : ns.length ≤ n := by
    unfold OpenLaw.pre at hc
    have h4 : (WTm.not (.lt (.lit (.int (n : Int))) (.len (.arg 0)))).holds [] { args := [.list (ns.map .int)] } = true := by
      have h4 := (holds_andW hc).1
      rw [hn] at h4
      exact h4
    have h5 := condW_of h4 (w_not (w_lt w_lit (w_len_list (w_arg rfl))))
    rw [List.length_map] at h5
    refine Nat.le_of_not_lt fun q => ?_
    have q' : (n : Int) < ((ns.length : Nat) : Int) := by omega
    first
      | (rw [decide_eq_true q'] at h5; exact absurd h5 (by decide))
      | (simp at h5; omega)
  cases hwl with
  | cons w1 w2 =>
    cases w2
    cases w1 with
    | list ho hall => exact ⟨_, _, ns, rfl, rfl, ho, ints_of_wellAll ns _ hall, hlen⟩

theorem post_true (l : OpenLaw) (args : List WData) : l.row.toRowW.claim.post args (.bool true) args = true :=
  postW_of (r := l.row.toRowW) (X := (true == true))
    (show WShape.has [] (.bool true) .bool = true by first | rfl | decide | simp [WShape.has, WShape.arms, WShape.armsAll])
    (show (WTm.eq .res (.lit (.bool true))).value [] { args := args, res := some (.bool true), after := args } = some (.bool (true == true)) from w_eq_bool (w_res rfl) w_lit) rfl

/-! ### the attachment: holds_open's last premise (the goal 'hc' behind k_head) from a wpAny of the law's body -/
/-- the same from a codeAny of the CALL (for a layer whose function contracts speak of calls) -/
theorem attach_call {l : OpenLaw} {n : Nat} {q : Program} {loose : List Str} {XP : (Str → Option Value) → Heap → Prop} {YP : World → Heap → Prop} {d : DefRec}
    (hn : l.most = some n) (hdf : d.params.defaults = [])
    (call : ∀ (w : World) (s₀ s₁ : Shared) (mg mb : Str → Option Value) (fa : Addr) (o : Obj) (pm cd doc : Value) (a : Addr) (vs : List Value) (ns : List Int),
      Ground q loose [] XP w s₀ mg mb s₁.heap → YP w s₁.heap →
      s₁.heap.get? fa = some o → o.data = .func (docDef d.name d.params d.body d.scope pm cd doc) → s₁.heap.CodeRec cd d.name → mg d.name = some (.ref fa) →
      s₁.heap.get? a = some { cls := .type "list", data := .seq vs.toArray } → IntsAre vs ns → ns.length ≤ n → s₁.gens = #[] →
      codeAny (model l.prog w) callerA (.call (.ref fa) ⟨[.ref a], []⟩) (fun r s' => r = .ok (.ret (.bool true)) ∧ OldK s₁.heap s'.heap ∧ s'.os = s₁.os ∧ AllBare s'.gens) s₁) :
    WalkO q loose XP YP l.row.toRowW d [] (fun f vs => PySem.call f vs) := by
  intro w s₀ s₁ mg mb G Y fa o pm cd doc dV kV ho hd hcd hD hmg hg args vals as hpre hlay hrd hwl hlo
  obtain rfl : dV = .none := Dflts.none hD hdf
  obtain rfl : kV = .none := Dflts.noKw hD
  obtain ⟨a, vs, ns, rfl, rfl, hobj, hints, hlen⟩ := script_of hn hpre hwl
  refine enter_call (codeAny_mono (call w s₀ s₁ mg mb fa o pm cd doc a vs ns G Y ho (fd_plain hd) hcd hmg hobj hints hlen hg) fun r s' hq => ?_)
  obtain ⟨rfl, h2, h3, h4⟩ := hq
  exact ⟨.inl ⟨.bool true, .bool true, [], rfl, fun _ => rfl, .bool true, post_true l _, fun _ => ⟨List.Pairwise.nil, fun _ hm => (nomatch hm)⟩⟩, h2, h3, h4⟩

/-! ### rules over ANY heap (no ledger) from facts about the written part K: the library's own take a ledger (News) for what they write -/
section
variable {prog : Program} {w : World} {A : Around} {E : Value → Shared → Prop} {s : Shared} {K : Frag}

/-! the whole heap as the ledger: makes every rule that writes through a ledger a rule over any heap -/
def noObjs (h : Heap) : Heap := { h with objs := #[] }
def ledger (h : Heap) (L d : Addr) : List (Addr × Obj) := (List.range h.objs.size).filterMap fun a => if a = L ∨ a = d then none else (h.get? a).map fun o => (a, o)
end
end Att

namespace L2
open PySem PySem.Spec PyProof.Rows

theorem vals_ints : ∀ {vs : List Value} {ns : List Int}, IntsAre vs ns → Vals (ns.map V.int) vs
  | _, _, .nil => .nil
  | _, _, .cons n t h => .cons ⟨t, rfl⟩ (vals_ints h)

/-- nothing is tracked but the script, known to the object (or it is an object of the module) -/
def Only (H : Hp) : Prop := ∀ b, H b = none ∨ ∃ o xs, H b = some (.frz o (.lst xs))

/-- THE HEAD: the law's promise, at the heap behind the top. F, the promise of the law's def, may use that base is part of the heap (so K.In base, base.Ns mainGlobals mg stand in Mod) -/
theorem law_call {P : Program} {w : World} {K : PySem.W.Frag} {mg mb : Str → Option Value} {CX : CXT} {k : Nat} {fa a : Addr} {fd : FuncData} {x : Str} {sp : Sp} {s₁ : Shared} {vs : List Value} {ns : List Int}
    (KX : K.In s₁.heap) (hns : s₁.heap.Ns mainGlobals mg) (hb : s₁.heap.Ns builtinsNs mb) (hbb : ∀ x : Str, x ≠ "__name__" → mb x = bootBuiltins x) (hlim : s₁.heap.NoLimit) (hg : s₁.gens = #[])
    (ha : s₁.heap.get? a = some { cls := .type "list", data := .seq vs.toArray }) (hi : IntsAre vs ns) (hl : ns.length ≤ sizeLine) (hr : Room k callerA)
    (F : ∀ base : Heap, K.In base → base.Ns mainGlobals mg → FnOk P w K mg base CX k fa fd [x] sp) (hbind : ∀ (s : Shared) (u : Value), BindsTo s fd ⟨[u], []⟩ [(x, u)])
    (hsp : ∀ H : Hp, Only H → SqL K H a (ns.map V.int) → sp [.ref a] H (fun v _ => v = .bl true) fun _ _ _ => False)
    (hCX : ∀ H e s', CX [] H s₁ (fun _ _ _ => False) e s' → False) :
    codeAny (model P w) callerA (.call (.ref fa) ⟨[.ref a], []⟩) (fun r s' => r = .ok (.ret (.bool true)) ∧ OldK s₁.heap s'.heap ∧ s'.os = s₁.os ∧ AllBare s'.gens) s₁ := by
  have rv := vals_ints hi
  have lenV := hi.length
  -- from an abstract heap in which nothing but the script may be tracked
  have core : ∀ H : Hp, Only H → SqL K H a (ns.map V.int) → HOk P w H s₁.heap → (∀ b, H b ≠ none → b = a) → (H a ≠ none → K.lookup a = none) →
      codeAny (model P w) callerA (.call (.ref fa) ⟨[.ref a], []⟩) (fun r s' => r = .ok (.ret (.bool true)) ∧ OldK s₁.heap s'.heap ∧ s'.os = s₁.os ∧ AllBare s'.gens) s₁ := by
    intro H hO hS hok hA hK
    have base_of : ∀ {b : Addr} {o : Obj}, s₁.heap.get? b = some o → H b = none → (hidT s₁.heap H).get? b = some o := fun e n => hidT_get e n
    have noA : ∀ {b : Addr} {o : Obj} {es : Array DictEntry} {ep : Nat}, s₁.heap.get? b = some o → o.data = .dict es ep → H b = none := fun {b o es ep} e d => by
      cases q : H b with
      | none => rfl
      | some u =>
        have e' : b = a := hA b (by rw [q]; simp)
        subst e'
        rw [ha] at e; cases e
        have d' : Data.seq vs.toArray _ = Data.dict es ep := d
        cases d'
    have nsK : ∀ {b : Addr} {m : Str → Option Value}, s₁.heap.Ns b m → (hidT s₁.heap H).Ns b m := fun {b m} ⟨o, es, ep, e, d, r⟩ => ⟨o, es, ep, base_of e (noA e d), d, r⟩
    have hKb : K.In (hidT s₁.heap H) := fun b o e => base_of (KX b o e) (by
      cases q : H b with
      | none => rfl
      | some u =>
        have e' : b = a := hA b (by rw [q]; simp)
        subst e'
        rw [hK (by rw [q]; simp)] at e; cases e)
    have hM : Mod K mg (hidT s₁.heap H) := ⟨hKb, nsK hns, ⟨mb, nsK hb, hbb⟩, let ⟨mc, h1, h2⟩ := hlim; ⟨mc, nsK h1, h2⟩⟩
    have e0 : Env0 P w K mg (hidT s₁.heap H) callerA [] s₁ H := ⟨rfl, hM, fun b o e => of_hidT e, Nat.le_of_eq (hidT_size _ _), trivial, fun b hb => absurd (show b ∈ ([] : List Addr) from hb) (by simp), hok, .of_eq hg⟩
    refine codeAny_mono ((F _ hKb (nsK hns)).run callerA [] s₁ H ⟨[.ref a], []⟩ [.ref a] [.ref a] _ _ hr e0 (hbind s₁ (.ref a)) (.cons rfl .nil) (hsp H hO hS)) fun r s' h => ?_
    cases r with
    | error e => exact (hCX H e s' h).elim
    | ok fl =>
      cases fl with
      | next => exact False.elim h
      | brk => exact False.elim h
      | cont => exact False.elim h
      | ret u =>
        obtain ⟨v, H', os, bare, un, hok', r', q⟩ := h
        have q' : v = .bl true := q
        subst q'
        obtain rfl : u = Value.bool true := r'
        refine ⟨rfl, OldK.of_keep fun b o e => ?_, os, bare⟩
        cases q : H b with
        | none => exact un.keep b o e q (by intro z; exact absurd (show b ∈ ([] : List Addr) from z) (by simp)) (by simp)
        | some u =>
          rcases hO b with z | ⟨ob, xs, z⟩
          · rw [q] at z; cases z
          · have z2 := un.frzs b ob _ z
            obtain ⟨e1, _⟩ := hok b _ z
            obtain ⟨e2, _⟩ := hok' b _ z2
            rw [e] at e1; cases e1
            exact e2
  cases hk : K.lookup a with
  | some o =>
    -- the script is one of the module's own objects
    have e := KX a o hk
    rw [ha] at e
    cases e
    refine core (fun _ => none) (fun _ => .inl rfl) (.inr ⟨_, vs.toArray, _, hk, rfl, rfl, rfl, by rw [List.size_toArray, lenV]; exact hl, by simpa using rv⟩) (fun b u z => by have z' : (none : Option HO) = some u := z; cases z') (fun b z => absurd rfl z) fun z => absurd rfl z
  | none =>
    refine core (fun b => if b = a then some (.frz { cls := .type "list", data := .seq vs.toArray } (.lst (ns.map V.int))) else none) (fun b => ?_) (.inl (.inr ⟨{ cls := .type "list", data := .seq vs.toArray }, if_pos rfl⟩)) (fun b u z => ?_) (fun b z => ?_) fun _ => hk
    · by_cases hb : b = a
      · exact .inr ⟨_, _, if_pos hb⟩
      · exact .inl (if_neg hb)
    · by_cases hb : b = a
      · have z' := (if_pos hb).symm.trans z
        cases z'
        subst hb
        exact ⟨ha, by rw [List.length_map]; exact hl, vs, _, rv, ha⟩
      · have z' := (if_neg hb).symm.trans z
        cases z'
    · by_cases hb : b = a
      · exact hb
      · exact absurd (if_neg hb) z
end L2

namespace L2
open PySem PySem.Spec PyProof.Rows

abbrev KOf {K : PySem.W.Frag} {h : Heap} (_ : K.In h) : PySem.W.Frag := K

/-- the goal that k_head leaves (case hc), from the law's promise. F gives the function object fd (K's own) once, then the promise over every base -/
theorem walk_of {l : PySem.W.OpenLaw} {n k : Nat} {q : Program} {loose : List Str} {XP : (Str → Option Value) → Heap → Prop} {YP : World → Heap → Prop} {d : DefRec} {K : Params → PySem.W.Frag} {CX : World → CXT} {sp : World → Sp} {x : Str}
    (hn : l.most = some n) (hn2 : n ≤ sizeLine) (hdf : d.params.defaults = []) (hr : Room k callerA)
    (hY : ∀ (w : World) (h : Heap), YP w h → (K w.params).In h)
    (F : ∀ (w : World) (mg : Str → Option Value) (fa : Addr) (h : Heap), (K w.params).In h → h.Ns mainGlobals mg → mg d.name = some (.ref fa) →
      ∃ fd : FuncData, (∀ (s : Shared) (u : Value), BindsTo s fd ⟨[u], []⟩ [(x, u)]) ∧
        ∀ base : Heap, (K w.params).In base → base.Ns mainGlobals mg → FnOk l.prog w (K w.params) mg base (CX w) k fa fd [x] (sp w))
    (hsp : ∀ (w : World) (H : Hp) (a : Addr) (ns : List Int), ns.length ≤ n → Only H → SqL (K w.params) H a (ns.map V.int) → sp w [.ref a] H (fun v _ => v = .bl true) fun _ _ _ => False)
    (hCX : ∀ (w : World) (H : Hp) (s : Shared) (e : Value) (s' : Shared), CX w [] H s (fun _ _ _ => False) e s' → False) :
    PySem.W.WalkO q loose XP YP l.row.toRowW d [] (fun f vs => PySem.call f vs) := by
  refine Att.attach_call hn hdf fun w s₀ s₁ mg mb fa o pm cd doc a vs ns G Y ho hd hcd hmg hobj hints hlen hg => ?_
  have KX := hY w _ Y
  obtain ⟨fd, hb, hF⟩ := F w mg fa _ KX G.T.g hmg
  exact law_call KX G.T.g G.T.b G.T.builtins G.T.nolimit hg hobj hints (Nat.le_trans hlen hn2) hr hF hb (fun H hO hS => hsp w H a ns hlen hO hS) fun H e s' => hCX w H s₁ e s'
end L2

/- THE LAST THEOREM (shape; LID, My.* are yours):
   My.Adr: a structure of the addresses that your layer names (classes, functions); My.Txt K t: a structure (Prop) of the equations over K;
   My.txt_mk : {K} {implicit addresses ..} (e1 : nsIn K mainGlobals "law" = some (some (.ref f))) (e2 : K.lookup f = some ⟨oc, od, .func (fnOf "law" "law" params body scope dV kV doc pm an cdv ct), sl⟩) (e3 : codeIn K cdv "law" = true) .. : ∃ t, My.Txt K t

set_option maxRecDepth 100000 in
set_option maxHeartbeats 0 in
theorem PySem.Challenge.cw_LID_holds : PySem.Challenge.rw_LID.Holds := by
  w_on; o_law; k_head; (case hw => w_witness2)
  k_fill
  refine L2.walk_of (l := PySem.Challenge.rw_LID) (n := 63) (k := 40) (x := "script") (CX := fun w => ..) (sp := fun _ => My.sp_law) rfl (by decide) rfl ⟨rfl, by decide, by decide⟩ (fun w h Y => PySem.W.kIn_of Y) ?F ?S ?C
  case F =>
    intro w mg fa h KX G hmg
    have T : ∃ t, My.Txt (L2.KOf KX) t := by
      dsimp only [L2.KOf]                          -- K must stand as «<heap const> w.params» for k_is
      refine' My.txt_mk ?e1 ?e2 ?e3 ..
      (case e1 => PySem.W.k_is)                    -- in the order: a name -> its address -> its object -> its parts
      (case e2 => PySem.W.k_is)
      ..
    obtain ⟨t, T⟩ := T
    have e0 := hmg.symm.trans (PySem.W.mg_of KX G T.law)
    cases e0                                       -- fa is the law's own address
    exact ⟨_, fun s u => .of_eq rfl, fun base kb nb => My.law_fn T kb nb⟩     -- if «.of_eq rfl» comes too early: refine' ⟨_, ?b, fun base kb nb => My.law_fn T kb nb⟩; exact fun s u => .of_eq rfl
  case S => exact fun w H a ns hl hO hS => ..
  case C => exact ..
(the tactic k_is has no namespace: write k_is) -/

/-! SHORT WORDS over the layer: a def of the text, its body, what a loop and a test want. -/
namespace L2
open PySem PySem.Spec PyProof.Rows

/-! ### the text by places -/
/-- the j-th statement of a class's body -/
def inClass (s : Stmt) (j : Nat) : Stmt := match s with
  | .ClassDef _ _ _ body _ _ _ _ _ _ _ => body.getD j (.Pass ⟨0, 0, 0, 0⟩)
  | _ => .Pass ⟨0, 0, 0, 0⟩
def defArgs (s : Stmt) : Arguments := match s with
  | .FunctionDef _ a _ _ _ _ _ _ _ _ => a
  | _ => { posonlyargs := [], args := [], vararg := none, kwonlyargs := [], kw_defaults := [], kwarg := none, defaults := [] }
def defBody (s : Stmt) : List Stmt := match s with
  | .FunctionDef _ _ b _ _ _ _ _ _ _ => b
  | _ => []
def defScope (s : Stmt) : Scope := match s with
  | .FunctionDef _ _ _ _ _ _ sc _ _ _ => sc
  | _ => { kind := .function, names := [], isGenerator := false, isCoroutine := false }

/-! ### no exception leaves a def -/
abbrev CX0 : CXT := fun _ _ _ _ _ _ => False
abbrev E0 : XK := fun _ _ _ => False
theorem pass0 {X : Cx} : Passes CX0 X E0 := fun _ _ _ _ _ _ _ h => h.elim

/-! ### a def (or method) of the text as it stands behind the top -/
structure Fun (K : PySem.W.Frag) (x qual : Str) (st : Stmt) (f : Addr) (fd : FuncData) : Prop where
  ex : ∃ (oc : Value) (od : Option Addr) (kV doc pm : Value) (an : Option Addr) (cdv ct : Value) (osl : Array (Option Value)),
    fd = PySem.W.fnOf x qual (defArgs st) (defBody st) (defScope st) .none kV doc pm an cdv ct ∧ K.lookup f = some ⟨oc, od, .func fd, osl⟩ ∧ PySem.W.codeIn K cdv qual = true
  kp : PySem.W.keepIn K (.ref f) = true
section
variable {P : Program} {w : World} {K : PySem.W.Frag} {mg : Str → Option Value} {base : Heap}
/-- THE RULE for a def: its body as a term of rules, and the reading of that term -/
theorem Fun.ok {x qual : Str} {st : Stmt} {f : Addr} {fd : FuncData} {N ps : List Str} {k : Nat} {sp : Sp} (F : Fun K x qual st f fd) (S : FnScope N ps (defScope st)) (len : ∀ vs H Q E, sp vs H Q E → vs.length = ps.length)
    (hbody : ∀ (cdv : Value) (A : Around) (outer : List Env) (s : Shared) (H : Hp) (vs : List V) (Q : VK) (E : XK), Room k (A.deeper (envOfC qual (defScope st) s.heap.objs.size f cdv)) → sp vs H Q E →
      ∃ t, PSs (cxOf CX0 P w K mg base N qual (defScope st) f cdv A outer s H E).nox (defBody st) t ∧ t { nx := fun _ H' => Q .non H', rt := Q } (start N vs) H) : FnOk P w K mg base CX0 (k + 1) f fd ps sp := by
  obtain ⟨oc, od, kV, doc, pm, an, cdv, ct, osl, rfl, lk, hcd⟩ := F.ex
  refine fn_of lk hcd S len fun A outer s H vs Q E hr hsp => ?_
  obtain ⟨t, h, q⟩ := hbody cdv A outer s H vs Q E hr hsp
  exact ⟨t, h.nox, q⟩
/-- how its arguments bind (no defaults): h is «fun _ _ _ _ _ _ us hl => match us, hl with | [_, _], _ => rfl», one _ a parameter -/
theorem Fun.binds {x qual : Str} {st : Stmt} {f : Addr} {fd : FuncData} {ps : List Str} (F : Fun K x qual st f fd)
    (h : ∀ (kV doc pm : Value) (an : Option Addr) (cdv ct : Value) (us : List Value), us.length = ps.length → bindArgs (PySem.W.fnOf x qual (defArgs st) (defBody st) (defScope st) .none kV doc pm an cdv ct) ⟨us, []⟩ = pure (ps.zip us)) : Binds K fd ps [] := by
  obtain ⟨oc, od, kV, doc, pm, an, cdv, ct, osl, rfl, lk, hcd⟩ := F.ex
  exact .all (h kV doc pm an cdv ct)
theorem fun_mk {x qual : Str} {st : Stmt} {f : Addr} {oc : Value} {od an : Option Addr} {osl : Array (Option Value)} {kV doc pm cdv ct : Value} (l : K.lookup f = some ⟨oc, od, .func (PySem.W.fnOf x qual (defArgs st) (defBody st) (defScope st) .none kV doc pm an cdv ct), osl⟩)
    (c : PySem.W.codeIn K cdv qual = true) (k : PySem.W.keepIn K (.ref f) = true) : Fun K x qual st f (PySem.W.fnOf x qual (defArgs st) (defBody st) (defScope st) .none kV doc pm an cdv ct) := ⟨⟨oc, od, kV, doc, pm, an, cdv, ct, osl, rfl, l, c⟩, k⟩
end
theorem hu_of {A : Around} {k : Nat} (hr : Room k A) : A.units + 1 < cLine := Nat.lt_of_le_of_lt (Nat.add_le_add_left (by decide : 1 ≤ 64) _) hr.units
/-! ### expressions in short: the name that stands in the i-th slot -/
section
variable {X : Cx}
theorem pv (i : Nat) {x : Str} {pos : Pos} (hN : X.N[i]? = some x := by rfl) (hv : Vis X.env.scope x := by first | exact Or.inl rfl | exact Or.inr (Or.inl rfl) | exact Or.inr (Or.inr rfl)) (hd : (x == ("__debug__" : Str)) = false := by decide)
    (hcd : (x == ("__classdict__" : Str)) = false := by decide) : PE X (.Name x pos) (tVar i) := pe_var hN hv hd hcd
end

/-! ### tests -/
theorem iteF {A B : Prop} (h : B) : if false = true then A else B := by
  rw [if_neg Bool.false_ne_true]
  exact h
theorem iteT {A B : Prop} (h : A) : if true = true then A else B := by
  rw [if_pos rfl]
  exact h
theorem ite2 {c A B : Prop} [Decidable c] (h1 : c → A) (h2 : ¬ c → B) : if c then A else B := by
  by_cases h : c
  · rw [if_pos h]
    exact h1 h
  · rw [if_neg h]
    exact h2 h
/-! ### heaps -/
/-- all that was tracked is as it was -/
def Same (H H' : Hp) : Prop := ∀ b o, H b = some o → H' b = some o
theorem Same.refl (H : Hp) : Same H H := fun _ _ h => h
theorem Same.trans {H H1 H2 : Hp} (a : Same H H1) (b : Same H1 H2) : Same H H2 := fun c o h => b c o (a c o h)
theorem Same.free {H H' : Hp} (e : Same H H') {l : Addr} (h : H' l = Option.none) : H l = Option.none := by
  cases q : H l with
  | none => rfl
  | some o =>
    rw [e l o q] at h
    cases h
theorem Same.seq {K : PySem.W.Frag} {H H' : Hp} {a : Addr} {xs : List V} (e : Same H H') (h : SqL K H a xs) : SqL K H' a xs := by
  rcases h with (h | ⟨o, h⟩) | h
  · exact .inl (.inl (e _ _ h))
  · exact .inl (.inr ⟨o, e _ _ h⟩)
  · exact .inr h

end L2


set_option Elab.async false
set_option linter.all false
set_option maxRecDepth 100000
namespace L2
open PySem PySem.Spec PyProof.Rows

/-! ### a list made by a comprehension with one clause and no test -/
/-- the context of its block: s, H behind the new list; fp: the iterator's objects -/
def cxComp (X : Cx) (scope : Scope) (cl : List (Str × Addr)) (N : List Str) (fp : List Addr) (s : Shared) (H : Hp) : Cx :=
  { X with N := N, s₀ := s, H₀ := H, env := compEnvC scope cl s.heap.objs.size X.env, outer := X.stack, stack := X.stack, ex := fp, fn := fun _ => false, calm := true, pn := [], xe := fun _ _ => False }
/-- what must be seen of its text; fr: the names of the def that it reads, with their slots -/
structure CompOk (X : Cx) (scope : Scope) (x : Str) (cl : List (Str × Addr)) (fr : List (Str × Nat)) : Prop where
  clos : closureFor scope X.env = pure cl
  nocell : ∀ y ∈ scope.names, y.2 ≠ .cell
  kind : scope.kind = .function
  names : ∀ y ∈ scope.names, y.2 = .local → scope.names.lookup y.1 = some .local
  hx : scope.names.lookup x = some .local
  sub : ∀ y c, cl.lookup y = some c → X.env.cells.lookup y = some c
  has : ∀ y, ((relabel scope X.env).names.lookup y = some .cell ∨ (relabel scope X.env).names.lookup y = some .free) → ∃ c, cl.lookup y = some c
  free : ∀ p ∈ fr, X.N[p.2]? = some p.1 ∧ X.env.kindOf p.1 = some .cell ∧ ((relabel scope X.env).names.lookup p.1 = some .cell ∨ (relabel scope X.env).names.lookup p.1 = some .free)
  nd : (x :: fr.map (·.1)).Nodup
theorem relabel_has {scope : Scope} {env : Env} {y : Str} {k : NameKind} (h : (relabel scope env).names.lookup y = some k) (hk : k = .cell ∨ k = .free) : ∃ p ∈ scope.names, p.1 = y ∧ (p.2 = .free ∨ p.2 = .cell) := by
  have m := PySem.mem_of_lookup h
  have m' : (y, k) ∈ scope.names.map fun (n, k) => if (k == NameKind.free && env.scope.kind == .function && env.kindOf n == some .cell) then (n, NameKind.cell) else (n, k) := m
  obtain ⟨⟨n, k'⟩, hp, e⟩ := List.mem_map.mp m'
  refine ⟨(n, k'), hp, ?_⟩
  dsimp only at e
  split at e
  · rename_i c
    rw [Bool.and_eq_true, Bool.and_eq_true] at c
    cases e
    exact ⟨rfl, .inl (by simpa using c.1.1)⟩
  · cases e
    exact ⟨rfl, hk.symm⟩
theorem CompOk.of {X : Cx} {scope : Scope} {x : Str} {cl : List (Str × Addr)} {fr : List (Str × Nat)} (clos : closureFor scope X.env = pure cl) (nocell : ∀ y ∈ scope.names, y.2 ≠ .cell) (kind : scope.kind = .function)
    (names : ∀ y ∈ scope.names, y.2 = .local → scope.names.lookup y.1 = some .local) (hx : scope.names.lookup x = some .local) (sub : ∀ y c, cl.lookup y = some c → X.env.cells.lookup y = some c)
    (has : ∀ p ∈ scope.names, p.2 = .free → ∃ c, cl.lookup p.1 = some c)
    (free : ∀ p ∈ fr, X.N[p.2]? = some p.1 ∧ X.env.kindOf p.1 = some .cell ∧ ((relabel scope X.env).names.lookup p.1 = some .cell ∨ (relabel scope X.env).names.lookup p.1 = some .free)) (nd : (x :: fr.map (·.1)).Nodup) : CompOk X scope x cl fr :=
  ⟨clos, nocell, kind, names, hx, sub, fun y h => by
    have key : ∃ p ∈ scope.names, p.1 = y ∧ (p.2 = .free ∨ p.2 = .cell) := by
      rcases h with h | h
      · exact relabel_has h (.inl rfl)
      · exact relabel_has h (.inr rfl)
    obtain ⟨p, hp, rfl, e⟩ := key
    rcases e with e | e
    · exact has p hp e
    · exact absurd e (nocell p hp), free, nd⟩
/-- no name of the def is read in it -/
theorem CompOk.none {X : Cx} {scope : Scope} {x : Str} (nofree : ∀ y ∈ scope.names, y.2 ≠ .free) (nocell : ∀ y ∈ scope.names, y.2 ≠ .cell) (kind : scope.kind = .function)
    (names : ∀ y ∈ scope.names, y.2 = .local → scope.names.lookup y.1 = some .local) (hx : scope.names.lookup x = some .local) : CompOk X scope x [] [] :=
  .of (closureFor_none nofree) nocell kind names hx (fun _ _ z => nomatch z) (fun p hp e => absurd e (nofree p hp)) (fun _ z => nomatch z) (by simp)
abbrev frv (fr : List (Str × Nat)) (σ : St) : St := fr.map fun p => (σ[p.2]?).join
section
variable {X : Cx} {pins : List (Addr × Obj)} {σ : St} {H : Hp} {s : Shared} {scope : Scope} {x : Str} {cl : List (Str × Addr)} {fr : List (Str × Nat)} {fp : List Addr}
theorem inv_comp (I : Inv X pins σ H s) (hc : X.calm = true) (ok : CompOk X scope x cl fr) (hf : ∀ b ∈ fp, FpOk X pins H b) (hb : ∀ b ∈ fp, b < s.heap.objs.size) {h1 : Heap} {t : Nat} {m : Str → Option Value}
    (hns : h1.Ns s.heap.objs.size m) (hk : ∀ b o, s.heap.get? b = some o → h1.get? b = some o) :
    Inv (cxComp X scope cl (x :: fr.map (·.1)) fp s H) [] (none :: frv fr σ) H { s with heap := h1, toks := t } := by
  have exL : ∀ b ∈ fp, b ≠ s.heap.objs.size := fun b hb' => Nat.ne_of_lt (hb b hb')
  have okc : (cxComp X scope cl (x :: fr.map (·.1)) fp s H).Ok :=
    { mod := I.ok.mod
      kind := ok.kind
      glob := I.ok.glob
      blt := I.ok.blt
      above := Nat.le_refl _
      inj := fun y z c h1 h2 => I.ok.inj y z c (ok.sub y c h1) (ok.sub z c h2)
      has := ok.has
      cab := fun y c z _ => absurd z (by intro q; cases q)
      hd := fun _ => I.ok.hd hc
      frames := I.ok.frames
      stk := .inl rfl
      exf := fun b hb' => ⟨exL b hb', fun y c e => (hf b hb').2.2.2.2.1 y c (ok.sub y c e)⟩
      bs := I.bs
      bsz := Nat.le_trans I.ok.bsz I.sz
      noex := fun b o e hb' => by
        rcases (hf b hb').2.2.2.1 with z | z
        · exact I.ok.noex b o e z
        · exact absurd (Nat.lt_of_lt_of_le (Heap.lt_size e) (Nat.le_trans I.ok.bsz z)) (Nat.lt_irrefl _)
      exfs := fun b hb' z => by
        rcases List.mem_cons.mp (I.stkSub b z) with e | e
        · exact (hf b hb').2.1 e
        · exact (hf b hb').2.2.1 e
      funs := I.stack
      frf := I.stkFree }
  refine ⟨okc, rfl, I.bare, Un.kept hk, ⟨m, hns, fun i y v e1 e2 e3 => ?_⟩, fun y c e => ?_, I.hok.fresh (Nat.le_refl _), fun y c e => I.freeC y c (ok.sub y c e), fun p hp => absurd (show p ∈ ([] : List (Addr × Obj)) from hp) (by simp), I.hok.kept hk, by show (none :: frv fr σ).length = (x :: fr.map (·.1)).length; simp⟩
  · cases i with
    | zero =>
      have e2' : some (none : Option V) = some (some v) := e2
      cases e2'
    | succ i =>
      have e1' : (fr.map (·.1))[i]? = some y := e1
      have e2' : (frv fr σ)[i]? = some (some v) := e2
      rw [List.getElem?_map] at e1' e2'
      cases ep : fr[i]? with
      | none => rw [ep] at e1'; cases e1'
      | some p =>
        rw [ep] at e1' e2'
        have e1'' : p.1 = y := Option.some.inj e1'
        have e2'' : (σ[p.2]?).join = some v := Option.some.inj e2'
        obtain ⟨a1, a2, a3⟩ := ok.free p (List.mem_of_getElem? ep)
        subst e1''
        have es : σ[p.2]? = some (some v) := by
          cases q : σ[p.2]? with
          | none => rw [q] at e2''; cases e2''
          | some w' =>
            rw [q] at e2''
            have z : w' = some v := e2''
            rw [z]
        obtain ⟨m', hn', hl'⟩ := I.loc
        have a2' : X.env.scope.names.lookup p.1 = some .cell := a2
        obtain ⟨u, r, l⟩ := hl' p.2 p.1 v a1 es (.inr (.inl a2'))
        refine ⟨u, r, ?_⟩
        rcases l with ⟨z, _⟩ | ⟨_, c, ec, ic⟩
        · rw [a2] at z; cases z
        · obtain ⟨c', ec'⟩ := ok.has p.1 a3
          have := ok.sub p.1 c' ec'
          rw [ec] at this
          cases this
          obtain ⟨o, ho, hd⟩ := ic
          exact .inr ⟨a3, c, ec', o, hk c o ho, hd⟩
  · obtain ⟨v, o, ho, hd⟩ := I.cell y c (ok.sub y c e)
    exact ⟨v, o, hk c o ho, hd⟩
/-- behind the block: the def's own state again -/
theorem comp_back {N : List Str} {pins' : List (Addr × Obj)} {σ' : St} {H' : Hp} {s' : Shared} (I : Inv X pins σ H s) (hf : ∀ b ∈ fp, FpOk X pins H b) (J : Inv (cxComp X scope cl N fp s H) pins' σ' H' s') : Inv X pins σ H' s' :=
  I.call' J.os J.base J.hok J.bare fun b hb => ⟨(hf b hb).2.2.2.1, (hf b hb).2.1, (hf b hb).2.2.2.2.1, (hf b hb).2.2.2.2.2⟩
end
/-- the turns: W by the turn, a measure, what has been made -/
def CompRun (J : It) (te : TE) (vs : St) (D : Addr) (Q : Hp → Prop) (H : Hp) : Prop :=
  ∃ W : Nat → Nat → List V → Hp → Prop, (∃ m, W 0 m [] H) ∧ ∀ i m ys H, W i m ys H → H D = some (.lst ys) ∧
    ((J.stop i H ∧ Q H) ∨ (J.go i H ∧ ∀ x H1, J.yld i H x H1 → te (some x :: vs) H1 fun y H2 => H2 D = some (.lst ys) ∧ ys.length < sizeLine ∧ ∃ m', m' < m ∧ W (i + 1) m' (ys ++ [y]) (upd H2 D (.lst (ys ++ [y])))))
def tComp (wi : TI) (fr : List (Str × Nat)) (te : TE) : TE := fun σ H Q => wi σ H fun J H1 => ∀ D, H1 D = none → CompRun J te (frv fr σ) D (fun H2 => Q (.ref D) H2) (upd H1 D (.lst []))
def tSetComp (j : Nat) (wi : TI) (fr : List (Str × Nat)) (te : TE) : TS := fun D σ H => wi σ H fun J H1 => ∀ a, H1 a = none → CompRun J te (frv fr σ) a (fun H2 => D.nx (σ.set j (some (.ref a))) H2) (upd H1 a (.lst []))
section
variable {X : Cx} {elt iter : Expr} {x : Str} {px pos : Pos} {scope : Scope} {cl : List (Str × Addr)} {fr : List (Str × Nat)} {wi : TI} {te : TE}
/-- the block, run -/
theorem comp_block {pins : List (Addr × Obj)} {σ : St} {H2 : Hp} {s2 : Shared} {it : Addr} {fp : List Addr} {tn : Nat → Heap → Prop} {J : It} {Qf : Addr → Hp → Prop} {E : Value → Shared → Prop} {RR : Value → Addr → Result → Shared → Prop}
    (hc : X.calm = true) (ok : CompOk X scope x cl fr) (he : ∀ fp s H, PE (cxComp X scope cl (x :: fr.map (·.1)) fp s H) elt te)
    (I2 : Inv X pins σ H2 s2) (T : Turn X.prog X.w X.K (.Name x px) J fp it tn) (st2 : tn 0 s2.heap) (f2 : ∀ b ∈ fp, FpOk X pins H2 b)
    (run : ∀ D, H2 D = none → CompRun J te (frv fr σ) D (Qf D) (upd H2 D (.lst [])))
    (hRR : ∀ D C H' s', Inv X pins σ H' s' → Qf D H' → (∃ m, s'.heap.Ns C m) → FpOk X pins H' C → RR (.ref D) C (.ok .next) s') :
    wpAny (model X.prog X.w) X.A (newList []) (fun acc s₃ => wpAny (model X.prog X.w) X.A (newFunctionEnv scope X.env.globals cl [] X.env.qual none .none (some X.env)) (fun cenv s₄ =>
      codeAny (model X.prog X.w) X.A (.compStart (.ListComp elt [⟨.Name x px, iter, [], 0⟩] scope pos) 0 (.ref it) acc { cenv with scope := relabel scope X.env }) (RR acc cenv.locals) s₄) E s₃) E s2 := by
  refine wpAny_newObj_type (wpAny_newFunctionEnv ok.nocell (by intro y hy; simp at hy) (fun h₁ hns₁ hsb₁ => ?_) ok.kind)
  dsimp only at hns₁ hsb₁ ⊢
  have I3 : Inv X pins σ (upd H2 s2.heap.objs.size (.lst [])) { s2 with heap := s2.heap.push { cls := .type "list", data := .seq ([] : List Value).toArray }, toks := s2.toks } := I2.lnew .nil (Nat.zero_le _)
  have hD : H2 s2.heap.objs.size = none := I2.fresh
  have hfp2 : ∀ b ∈ fp, b < s2.heap.objs.size := fun b hb => by
    obtain ⟨o, e, _⟩ := T.obj _ _ st2 b hb
    exact Heap.lt_size e
  have f3 : ∀ b ∈ fp, FpOk X pins (upd H2 s2.heap.objs.size (.lst [])) b := fun b hb => ⟨by rw [upd_ne (Nat.ne_of_lt (hfp2 b hb))]; exact (f2 b hb).1, (f2 b hb).2⟩
  obtain ⟨W, ⟨m0, w0⟩, turn⟩ := run s2.heap.objs.size hD
  generalize hs3 : ({ s2 with heap := s2.heap.push { cls := .type "list", data := .seq ([] : List Value).toArray }, toks := s2.toks } : Shared) = s3 at I3
  have e3 : s3.heap = s2.heap.push { cls := .type "list", data := .seq ([] : List Value).toArray } := by rw [← hs3]
  have hfp3 : ∀ b ∈ fp, b < s3.heap.objs.size := fun b hb => by rw [e3, Heap.size_push]; exact Nat.lt_succ_of_lt (hfp2 b hb)
  have hk1 : ∀ b o, s3.heap.get? b = some o → h₁.get? b = some o := fun b o e => by
    rw [e3] at e
    exact hsb₁.extBut b o (Nat.ne_of_lt (Heap.lt_size e)) (Heap.get?_push_of_some _ e)
  have hns : h₁.Ns s3.heap.objs.size (fun y => ([] : List (Str × Value)).reverse.lookup y) := by rw [e3]; exact hns₁
  have I4 := inv_comp (t := s2.toks + ([] : List (Str × Value)).length) I3 hc ok f3 hfp3 hns hk1
  have st4 : tn 0 h₁ := T.keep _ _ _ st2 fun b hb o e => hk1 b o (by rw [e3]; exact Heap.get?_push_of_some _ e)
  have es4 : ({ s2 with heap := h₁, toks := s2.toks + ([] : List (Str × Value)).length } : Shared) = { s3 with heap := h₁, toks := s2.toks + ([] : List (Str × Value)).length } := by rw [← hs3]
  have hC : (s2.heap.push { cls := .type "list", data := .seq ([] : List Value).toArray }).objs.size = s3.heap.objs.size := by rw [e3]
  have fpc : ∀ {H' : Hp}, (∀ b ∈ fp, H' b = none) → ∀ b ∈ fp, FpOk (cxComp X scope cl (x :: fr.map (·.1)) fp s3 (upd H2 s2.heap.objs.size (.lst []))) [] H' b := fun {H'} hn b hb =>
    ⟨hn b hb, Nat.ne_of_lt (hfp3 b hb), I4.ok.exfs b hb, .inl hb, (I4.ok.exf b hb).2, fun p hp => absurd (show p ∈ ([] : List (Addr × Obj)) from hp) (by simp)⟩
  have loop : codeAny (model X.prog X.w) X.A (.compLoop (.ListComp elt [⟨.Name x px, iter, [], 0⟩] scope pos) 0 (.ref it) (.ref s2.heap.objs.size) (compEnvC scope cl s3.heap.objs.size X.env)) (RR (.ref s2.heap.objs.size) s3.heap.objs.size)
      { s3 with heap := h₁, toks := s2.toks + ([] : List (Str × Value)).length } := by
    refine codeAny_loop rfl (fun n s' => ∃ i ys H' a, Inv (cxComp X scope cl (x :: fr.map (·.1)) fp s3 (upd H2 s2.heap.objs.size (.lst []))) [] (a :: frv fr σ) H' s' ∧ tn i s'.heap ∧ (∀ b ∈ fp, H' b = none) ∧ W i n ys H') ?_ m0 ⟨0, [], _, none, I4, st4, fun b hb => (f3 b hb).1, w0⟩
    rintro n s' ⟨i, ys, H', a, J', st', fr', w'⟩
    show wpAny _ _ ((compTurn (.ListComp elt [⟨.Name x px, iter, [], 0⟩] scope pos) 0 (.ref it) (.ref s2.heap.objs.size) (compEnvC scope cl s3.heap.objs.size X.env)).onRaise (fun x => do noteFrame x (compEnvC scope cl s3.heap.objs.size X.env); theTreesLotGoes x)) _ _ s'
    refine wpAny_noted ?_
    rw [compTurn_list1]
    obtain ⟨hDl, q⟩ := turn i n ys H' w'
    rcases q with ⟨stop, fin⟩ | ⟨go, step⟩
    · refine wpAny_bind (wpAny_standAt (wpAny_bind (thn (T.done (cxComp X scope cl (x :: fr.map (·.1)) fp s3 (upd H2 s2.heap.objs.size (.lst []))) rfl rfl rfl rfl i [] s' _ H' _ J' (fpc fr') st' stop) fun r s1 ⟨hr, J1⟩ => ?_)))
      subst hr
      refine wpAny_pure ?_
      have back := comp_back I3 f3 J1
      obtain ⟨m, hm, _⟩ := J1.loc
      exact hRR _ _ H' s1 back fin ⟨m, hm⟩ (I3.fpOk (Nat.le_refl _) J1.free)
    · refine wpAny_bind (wpAny_standAt (wpAny_bind (thn (T.item (cxComp X scope cl (x :: fr.map (·.1)) fp s3 (upd H2 s2.heap.objs.size (.lst []))) rfl rfl rfl rfl i [] s' _ H' _ J' (fpc fr') st' go) fun r s1 ⟨u, hr, h4⟩ => ?_)))
      subst hr
      refine wpAny_bind (thn h4 fun _ s5 ⟨x5, H5, J5, r5, y5, st5, fr5⟩ => ?_)
      have J5' := J5.pinned (fpc fr5) (T.obj _ _ st5)
      have hg : PG (cxComp X scope cl (x :: fr.map (·.1)) fp s3 (upd H2 s2.heap.objs.size (.lst []))) (.Name x px) (gName 0) := pg_name ok.nd rfl (.inl (lookup_relabel_local ok.hx)) (.inr (lookup_relabel_local ok.hx))
      refine wpAny_bind (wpAny_mono (hg _ s5 _ H5 x5 u (fun σ6 H6 => σ6 = some x5 :: frv fr σ ∧ H6 = H5) J5' r5 ⟨rfl, rfl⟩) (fun _ s6 h6 => ?_) fun _ _ f => f.elim)
      obtain ⟨σ6, H6, J6, rfl, rfl⟩ := h6
      refine wpAny_bind (wpAny_bind (wpAny_mono (he fp s3 (upd H2 s2.heap.objs.size (.lst [])) _ s6 _ H6 _ J6 (step x5 H6 y5)) (fun y s7 h7 => ?_) fun _ _ f => f.elim))
      obtain ⟨yv, H7, J7, r7, hD7, hz7, m', hm', w7⟩ := h7
      refine wpAny_bind (wpAny_mono (mt_append (X := cxComp X scope cl (x :: fr.map (·.1)) fp s3 (upd H2 s2.heap.objs.size (.lst []))) _ s7 _ H7 (.ref s2.heap.objs.size) [yv] (.ref s2.heap.objs.size) [y] (fun v H8 => H8 = upd H7 s2.heap.objs.size (.lst (ys ++ [yv]))) J7 rfl (.cons r7 .nil) ⟨_, ys, yv, rfl, rfl, hD7, hz7, rfl⟩) (fun v8 s8 h8 => ?_) fun _ _ f => f.elim)
      obtain ⟨v8, H8, J8, r8, rfl⟩ := h8
      refine wpAny_pure (wpAny_pure ⟨rfl, m', hm', i + 1, ys ++ [yv], _, some x5, J8.unpinned, T.keep _ _ _ st5 fun b hb o e => (J8.pin (b, o) (List.mem_append_right _ (List.mem_append_right _ (mem_pinsAt hb e)))).1, fun b hb => ?_, w7⟩)
      obtain ⟨o, e, d⟩ := T.obj _ _ st5 b hb
      exact (J8.pin (b, o) (List.mem_append_right _ (List.mem_append_right _ (mem_pinsAt hb e)))).2.1
  have fin : codeAny (model X.prog X.w) X.A (.compStart (.ListComp elt [⟨.Name x px, iter, [], 0⟩] scope pos) 0 (.ref it) (.ref s2.heap.objs.size) (compEnvC scope cl s3.heap.objs.size X.env)) (RR (.ref s2.heap.objs.size) s3.heap.objs.size)
      { s3 with heap := h₁, toks := s2.toks + ([] : List (Str × Value)).length } := codeAny_compStart_list loop (T.self _ 0 _ _ _ st4 loop)
  rw [← es4, ← hC] at fin
  exact fin
theorem pe_comp (hc : X.calm = true) (hi : PI X (.Name x px) iter wi) (ok : CompOk X scope x cl fr) (he : ∀ fp s H, PE (cxComp X scope cl (x :: fr.map (·.1)) fp s H) elt te)
    (hs : ∀ x, foldedSetIterable iter X.env x = pure x := by intro _; rfl) : PE X (.ListComp elt [⟨.Name x px, iter, [], 0⟩] scope pos) (tComp wi fr te) := by
  intro pins s σ H Q I h
  rw [eval_ListComp]
  refine wpAny_comprehension_free (use := none) rfl hs ok.clos ok.kind ok.names (thn (hi pins s σ H _ I h) fun v s1 h1 => thn h1 fun itv s2 h2 => ?_)
  obtain ⟨it, fp, tn, J, H2, rfl, I2, T, st2, f2, R⟩ := h2
  refine comp_block (RR := fun acc C => compPost (model X.prog X.w) X.A X.xe none (EP X pins σ Q) acc C) hc ok he I2 T st2 f2 (Qf := fun D H' => Q (.ref D) H') R ?_
  intro D C H' s' I' q ⟨m, hm⟩ f'
  obtain ⟨f0, f1, _, f3, f4, f5⟩ := f'
  exact ⟨m, hm, fun h' sb => ⟨.ref D, H', I'.turned (t' := s'.toks) (fun b o hb e => (sb.2 b hb).trans e) f0 f1 f3 f4 f5, rfl, q⟩⟩
theorem ps_setcomp {j : Nat} {y : Str} {py spos : Pos} (hc : X.calm = true) (hN : X.N.Nodup) (hj : X.N[j]? = some y) (hy : Loc X.env.scope y) (hi : PI X (.Name x px) iter wi) (ok : CompOk X scope x cl fr)
    (he : ∀ fp s H, PE (cxComp X scope cl (x :: fr.map (·.1)) fp s H) elt te)
    (hsw : swapsWith (.ListComp elt [⟨.Name x px, iter, [], 0⟩] scope pos) (some (.Name y py)) spos.line X.env = pure true)
    (hs : ∀ x, foldedSetIterable iter X.env x = pure x := by intro _; rfl) (hf : X.fn y = true ∨ X.env.scope.names.lookup y = some .local := by first | exact .inl rfl | exact .inr rfl | assumption) :
    PS X (.Assign [.Name y py] (.ListComp elt [⟨.Name x px, iter, [], 0⟩] scope pos) spos) (tSetComp j wi fr te) := by
  intro pins s σ H D I h
  rw [exec_Assign_Name_used _ _ _ _ hsw]
  refine wpAny_bind (wpAny_standAt (wpAny_bind ?_))
  show wpAny _ X.A (do let _ ← comprehension (.ListComp elt [⟨.Name x px, iter, [], 0⟩] scope pos) scope X.env _ (newList []) false (eval iter X.env) (some (assign (.Name y py) X.env))) _ _ s
  refine wpAny_bind (wpAny_mono (wpAny_comprehension_free (use := some (assign (.Name y py) X.env)) (Q := fun _ s' => SP X pins D .next s') rfl hs ok.clos ok.kind ok.names
    (thn (hi pins s σ H _ I h) fun v s1 h1 => thn h1 fun itv s2 h2 => ?_)) (fun _ s' hq => wpAny_pure (wpAny_pure hq)) fun _ _ e => e)
  obtain ⟨it, fp, tn, J, H2, rfl, I2, T, st2, f2, R⟩ := h2
  refine comp_block (RR := fun acc C => compPost (model X.prog X.w) X.A X.xe (some (assign (.Name y py) X.env)) (fun _ s' => SP X pins D .next s') acc C) hc ok he I2 T st2 f2 (Qf := fun a H' => D.nx (σ.set j (some (.ref a))) H') R ?_
  intro a C H' s' I' q ⟨m, hm⟩ f'
  obtain ⟨oc, es, ep, hoc, hdc, hrest⟩ := id hm
  have nd : ∀ v, oc.data ≠ .cell v := fun v z => by rw [hdc] at z; cases z
  have I1 : Inv X (pins ++ [(C, oc)]) σ H' s' := I'.pins_of fun p hp => by
    rcases List.mem_append.mp hp with z | z
    · exact I'.pin p (List.mem_append_right _ z)
    · have e : p = (C, oc) := by simpa using z
      subst e
      exact ⟨hoc, f'.1, f'.2.1, f'.2.2.1, nd⟩
  have hg : PG X (.Name y py) (gName j) := pg_name hN hj hy hf
  show wpAny _ _ _ _ _ _
  refine thn (hg _ s' σ H' (.ref a) (.ref a) (fun σ2 H2 => σ2 = σ.set j (some (.ref a)) ∧ H2 = H') I1 rfl ⟨rfl, rfl⟩) fun _ s3 h3 => ?_
  obtain ⟨σ3, H3, I3, rfl, rfl⟩ := h3
  have pC := (I3.pin (C, oc) (List.mem_append_right _ (List.mem_append_right _ (by simp)))).1
  refine ⟨m, ⟨oc, es, ep, pC, hdc, hrest⟩, fun h' sb => ⟨_, H3, (I3.unpinned).turned (t' := s3.toks) (fun b o hb e => (sb.2 b hb).trans e) f'.1 f'.2.1 f'.2.2.2.1 f'.2.2.2.2.1 f'.2.2.2.2.2, q⟩⟩
end
end L2


set_option Elab.async false
set_option linter.all false
set_option maxRecDepth 100000
namespace L2
open PySem PySem.Spec PyProof.Rows
/-! ### texts in lists -/
theorem strsAre_of : ∀ {xs : List Str} {us : List Value}, Vals (xs.map V.str) us → StrsAre us xs
  | [], _, .nil => .nil
  | x :: xs, _, .cons r t => by
    obtain ⟨k, rfl⟩ := r
    exact .cons x k (strsAre_of t)
section
variable {X : Cx}
/-- sep.join(xs), xs a list of texts -/
def rJoin (K : PySem.W.Frag) : V → List V → Hp → VK → Prop := fun x vs H Q => ∃ sep p xs, x = .str sep ∧ vs = [.ref p] ∧ SqL K H p (xs.map V.str) ∧ (xs.map (·.length)).sum + xs.length * sep.length ≤ 16777216 ∧ Q (.str (Str.join sep xs)) H
theorem mt_join : MtR X "str.join" (rJoin X.K) := by
  intro pins s σ H x xs v us Q I rx rxs h
  obtain ⟨sep, p, ts, rfl, rfl, hq, hz, q⟩ := h
  obtain ⟨t, rfl⟩ := rx
  obtain ⟨u, rfl, ru⟩ := rxs.one
  cases ru
  obtain ⟨its, rv, pl, _⟩ := I.list hq
  refine join_list pl.isList (by simpa using strsAre_of rv) hz fun t' k => ⟨.str (Str.join sep ts), H, I.tok k, ⟨t', ?_⟩, q⟩
  show Value.str (Txt.join sep ts) t' = _
  rw [Txt.join, StrLaws.glued_eq_join]
/-! ### isinstance of one built-in class, of a tuple of them -/
theorem call_isinst : CallR X (.builtin "isinstance") (fun xs H Q => ∃ x T t b, xs = [x, .ty T] ∧ TyOf X.K H x t ∧ PySem.W.kitOne X.K t (.type T) = some b ∧ Q (.bl b) H) := by
  intro pins s σ H xs us Q I r h
  obtain ⟨x, T, t, b, rfl, ty, e, q⟩ := h
  obtain ⟨u, w', rfl, ru, rw'⟩ := vals2 r
  cases (show w' = Value.type T from rw')
  exact isinst_ok I ru ty e fun tk => ⟨.bl b, H, I.tok tk, rfl, q⟩
/-! ### == and != of two lists of flat values -/
/-- the items agree -/
def eqVs : List V → List V → Bool
  | [], [] => true
  | x :: xs, y :: ys => eqV x y && eqVs xs ys
  | _, _ => false
def rEqL (K : PySem.W.Frag) (neg : Bool) : R2 := fun x y H Q => ∃ p q xs ys, x = .ref p ∧ y = .ref q ∧ SqL K H p xs ∧ SqL K H q ys ∧ xs.all flatV = true ∧ ys.all flatV = true ∧ Q (.bl (if neg then !eqVs xs ys else eqVs xs ys)) H
/-- against the empty list, whatever the other holds -/
def rEqN (K : PySem.W.Frag) (neg : Bool) : R2 := fun x y H Q => ∃ p q xs, x = .ref p ∧ y = .ref q ∧ SqL K H p xs ∧ SqL K H q [] ∧ Q (.bl (if neg then !xs.isEmpty else xs.isEmpty)) H
theorem op_neN (hu : X.A.units < cLine) : OpR X (compareOp .NotEq) (rEqN X.K true) := by
  intro pins s σ H x y v u Q I rx ry h
  obtain ⟨p, q, xs, rfl, rfl, hp, hq, k⟩ := h
  cases rx; cases ry
  obtain ⟨us, rv, pl, _⟩ := I.list hp
  obtain ⟨ws, rw', pl', _⟩ := I.list hq
  have l1 := rv.length
  cases rw'
  cases xs with
  | nil =>
    cases rv
    exact SeqAt.RcNeAt.lists (e := fun _ => true) pl.isList pl'.isList rfl hu (fun j h1 h2 => absurd h1 (by simp)) _ _ _ _ ⟨.bl _, H, I, rfl, k⟩
  | cons x xs =>
    cases rv
    exact SeqAt.RcNeAt.lists_lengths pl.isList pl'.isList (by simp) hu _ _ _ _ ⟨.bl _, H, I, rfl, k⟩
/-! ### the same with the written part named (within a comprehension) -/
theorem ix_listK {K : PySem.W.Frag} (h : X.K = K) : IxR X (rIxL K) := h ▸ ix_list
/-! ### range downwards by one -/
def ItrD (lo : Int) (n : Nat) : It := ⟨fun i _ => i < n, fun i H x H' => H' = H ∧ x = .int (lo - i), fun i _ => n ≤ i⟩
theorem turn_rangeD {P : Program} {w : World} {K : PySem.W.Frag} {tg : Expr} (it : Addr) (lo : Int) (n : Nat) : Turn P w K tg (ItrD lo n) [it] it (fun i h => IsRangeIter h it (lo + (i : Nat) * (-1)) ((n : Int) - (i : Nat)) (-1)) where
  mem := by simp
  obj := fun i h st b hb => by
    have e : b = it := by simpa using hb
    subst e
    exact ⟨_, st, fun v z => by
      have z' : Data.fields _ = Data.cell v := z
      cases z'⟩
  keep := fun i h h' st k => k it (by simp) _ st
  item := by
    intro X hP hw hK hc i pins s σ H E I hf st hg
    subst hP hw hK
    obtain ⟨f0, f1, f2, f3, f4, f5⟩ := hf it (by simp)
    have W := Walks.range (prog := X.prog) (w := X.w) (I.ok.hd hc) it lo (-1) n
    refine W.item i s _ _ hg st fun v h' tk hv st' kk => ?_
    obtain ⟨t, rfl⟩ := hv
    have I1 : Inv X pins σ H { s with heap := h', toks := tk } := I.turned (fun b o hb e => kk b o (by simpa using hb) e) f0 f1 f3 f4 f5
    refine ⟨_, rfl, go_of (s := { s with heap := h', toks := tk }) (n := "range_iterator") st' rfl rfl (by decide) ⟨.int (lo - i), H, I1, ⟨t, ?_⟩, ⟨rfl, rfl⟩, st', fun b hb => (hf b hb).1⟩⟩
    have e : lo + (i : Int) * (-1) = lo - i := by omega
    rw [e]
  done := by
    intro X hP hw hK hc i pins s σ H E I hf st hg
    subst hP hw hK
    obtain ⟨f0, f1, f2, f3, f4, f5⟩ := hf it (by simp)
    exact wpAny_pyNext_range_end (I.ok.hd hc) st (by have : n ≤ i := hg; omega) fun h' eb => ⟨rfl, I.turned (t' := s.toks) (fun b o hb e => eb b o hb e) f0 f1 f3 f4 f5⟩
  self := fun _ _ _ _ _ st h => wpAny_pyIter_rangeiter st h

/-- a range object just made, walked down -/
theorem rangeSize_down (a b : Int) : Builtin.Range.rangeSize a b (-1) = ((a - b).toNat : Int) := by
  unfold Builtin.Range.rangeSize
  simp
  omega
theorem small_down {a b : Int} (ha : -(2 ^ 62) ≤ a) (ha' : a < 2 ^ 62) (hb : -(2 ^ 62) ≤ b) (hb' : b < 2 ^ 62) : Builtin.Range.small a b (-1) = true := by
  unfold Builtin.Range.small
  rw [rangeSize_down]
  simp only [Builtin.Range.rangeFitsLong, Bool.and_eq_true, Bool.or_eq_true, decide_eq_true_eq, beq_iff_eq, show ¬ (-1 : Int) > 0 by decide, if_false]
  omega
def iRngD (ta : TA) : TI := fun σ H R => ta σ H fun vs H1 => ∃ i j : Int, vs = [.int i, .int j, .int (-1)] ∧ (-(2 ^ 60) ≤ i ∧ i < 2 ^ 60 ∧ -(2 ^ 60) ≤ j ∧ j < 2 ^ 60) ∧ R (ItrD i (i - j).toNat) H1
variable {tg : Expr}
theorem range_itD {pins : List (Addr × Obj)} {σ : St} {H : Hp} {s : Shared} {R : It → Hp → Prop} {E : Value → Shared → Prop} {lo hi : Int} {t u v : Tok} {tk : Nat} (I : Inv X pins σ H s) (h1 : -(2 ^ 60) ≤ lo) (h2 : lo < 2 ^ 60) (h3 : -(2 ^ 60) ≤ hi) (h4 : hi < 2 ^ 60)
    (q : R (ItrD lo (lo - hi).toNat) H) : wpAny (model X.prog X.w) X.A (pyIter (.ref s.heap.objs.size)) (PIE X pins σ tg R) E { s with heap := s.heap.push { cls := .type "range", data := .fields #[.int lo t, .int hi u, .int (-1) v] }, toks := tk } := by
  refine wpAny_pyIter_range (IsRange.new ..) (small_down (by omega) (by omega) (by omega) (by omega)) ?_
  have I1 : Inv X pins σ H { s with heap := s.heap.push { cls := .type "range", data := .fields #[.int lo t, .int hi u, .int (-1) v] }, toks := tk } := I.kept fun b o e => Heap.get?_push_of_some _ e
  refine ⟨(s.heap.push { cls := .type "range", data := .fields #[.int lo t, .int hi u, .int (-1) v] }).objs.size, [(s.heap.push { cls := .type "range", data := .fields #[.int lo t, .int hi u, .int (-1) v] }).objs.size], _, _, H, rfl,
    I1.kept (t' := tk) fun b o e => Heap.get?_push_of_some _ e, turn_rangeD _ lo (lo - hi).toNat, ?_, fun b hb => ?_, q⟩
  · have e1 : lo + ((0 : Nat) : Int) * (-1) = lo := by simp
    have e2 : (((lo - hi).toNat : Nat) : Int) - ((0 : Nat) : Int) = Builtin.Range.rangeSize lo hi (-1) := by rw [rangeSize_down]; omega
    show IsRangeIter _ _ (lo + ((0 : Nat) : Int) * (-1)) ((((lo - hi).toNat : Nat) : Int) - ((0 : Nat) : Int)) (-1)
    rw [e1, e2]
    exact Heap.get?_push_size _ rfl
  · have e : b = (s.heap.push { cls := .type "range", data := .fields #[.int lo t, .int hi u, .int (-1) v] }).objs.size := by simpa using hb
    subst e
    exact I1.fpOk (Nat.le_refl _) (I1.hok.fresh (Nat.le_refl _))
theorem pi_range3 {a b c : Expr} {ta : TA} {p pos : Pos} (hg : Gl X "range") (hm : X.mg "range" = none) (ha : PA X [a, b, c] ta) (hs : starEach [a, b, c] X.env = [(false, eval a X.env), (false, eval b X.env), (false, eval c X.env)] := by rfl) (hs2 : starEach [b, c] X.env = [(false, eval b X.env), (false, eval c X.env)] := by rfl) :
    PI X tg (.Call (.Name "range" p) [a, b, c] [] pos) (iRngD ta) := by
  intro pins s σ H R I h
  refine Call_ (ld_blt I hg hm boot_range (PyProof.Rows.callWith_type1 (thn (ha pos pins s σ H _ I h) fun us s1 ⟨vs, H1, I1, r1, q1⟩ => ?_) (by rw [hs, hs2]) (by rw [hs2]; rfl)))
  obtain ⟨i, j, e, ⟨q1, q2, q3, q4⟩, q⟩ := q1
  subst e
  cases r1 with
  | cons r rr =>
    cases rr with
    | cons r' rr =>
      cases rr with
      | cons r'' rr =>
        cases rr
        obtain ⟨t, rfl⟩ := r
        obtain ⟨t', rfl⟩ := r'
        obtain ⟨t'', rfl⟩ := r''
        exact PySem.call_range_3 (by decide) (range_itD I1 q1 q2 q3 q4 q)
end
theorem for_rangeD {lo : Int} {n : Nat} {g : TG} {tb : TS} {D : Ends} {σ : St} {H : Hp} (Pv : Nat → St → Hp → Prop) (h0 : Pv 0 σ H)
    (hs : ∀ i σ H, i < n → Pv i σ H → g (.int (lo - i)) σ H fun σ2 H2 => tb { D with nx := Pv (i + 1), ct := Pv (i + 1), bk := D.nx } σ2 H2) (hd : ∀ σ H, Pv n σ H → D.nx σ H) :
    ∃ W : Nat → Nat → St → Hp → Prop, (∃ m, W 0 m σ H) ∧ ∀ i m σ H, W i m σ H →
      ((ItrD lo n).stop i H ∧ D.nx σ H) ∨ ((ItrD lo n).go i H ∧ ∃ N : St → Hp → Prop, (∀ σ' H', N σ' H' → ∃ m', m' < m ∧ W (i + 1) m' σ' H') ∧ ∀ x H', (ItrD lo n).yld i H x H' → g x σ H' fun σ2 H2 => tb { D with nx := N, ct := N, bk := D.nx } σ2 H2) := by
  refine ⟨fun i m σ H => m = n - i ∧ i ≤ n ∧ Pv i σ H, ⟨n, by simp, Nat.zero_le _, h0⟩, ?_⟩
  rintro i m σ H ⟨rfl, hi, p⟩
  by_cases hlt : i < n
  · refine .inr ⟨hlt, Pv (i + 1), fun σ' H' p' => ⟨n - (i + 1), by omega, rfl, hlt, p'⟩, fun x H' y => ?_⟩
    obtain ⟨e, y⟩ := y
    subst e y
    exact hs i σ _ hlt p
  · have e : i = n := by omega
    subst e
    exact .inl ⟨Nat.le_refl _, hd σ H p⟩
theorem boot_isinstance' : bootBuiltins "isinstance" = some (.builtin "isinstance") := by decide +kernel
theorem boot_str' : bootBuiltins "str" = some (.type "str") := by decide +kernel
theorem boot_int' : bootBuiltins "int" = some (.type "int") := by decide +kernel
theorem boot_tuple' : bootBuiltins "tuple" = some (.type "tuple") := by decide +kernel
theorem boot_bool' : bootBuiltins "bool" = some (.type "bool") := by decide +kernel
section
variable (K : PySem.W.Frag)
theorem kit_str_str : PySem.W.kitOne K (.type "str") (.type "str") = some true := by kernel_rfl
theorem kit_tup_tup : PySem.W.kitOne K (.type "tuple") (.type "tuple") = some true := by kernel_rfl
theorem kit_int_int : PySem.W.kitOne K (.type "int") (.type "int") = some true := by kernel_rfl
theorem kit_str_tup : PySem.W.kitOne K (.type "str") (.type "tuple") = some false := by kernel_rfl
theorem kit_tup_str : PySem.W.kitOne K (.type "tuple") (.type "str") = some false := by kernel_rfl
theorem kit_int_bool : PySem.W.kitOne K (.type "int") (.type "bool") = some false := by kernel_rfl
end
/-! ### the turns of a comprehension whose items are reckoned by f; the heap grows only -/
theorem comp_list {K : PySem.W.Frag} {a D : Addr} {xs : List V} {te : TE} {vs : St} {Q : Hp → Prop} {H : Hp} (f : Nat → V) (hS : SqL K H a xs) (hD : H D = none) (hz : xs.length ≤ sizeLine)
    (he : ∀ (i : Nat) (x : V) (H' : Hp) (R : VK), xs[i]? = some x → Same H H' → (∀ H2, Same H' H2 → R (f i) H2) → te (some x :: vs) H' R)
    (q : ∀ H', Same H H' → H' D = some (.lst ((List.range xs.length).map f)) → Q H') : CompRun (Itl K a) te vs D Q (upd H D (.lst [])) := by
  refine ⟨fun i m ys H' => m = xs.length - i ∧ i ≤ xs.length ∧ ys = (List.range i).map f ∧ Same H H' ∧ H' D = some (.lst ys), ⟨xs.length, by simp, Nat.zero_le _, by simp, fun b o e => by rw [upd_ne (ne_of_none e hD)]; exact e, upd_same⟩, ?_⟩
  rintro i m ys H' ⟨rfl, hi, rfl, s, hd⟩
  refine ⟨hd, ?_⟩
  have hS' := s.seq hS
  by_cases hlt : i < xs.length
  · refine .inr ⟨⟨xs, xs[i], hS', by simp [hlt]⟩, fun x H1 y => ?_⟩
    obtain ⟨e, y⟩ := y
    subst e
    have hx := y xs hS'
    refine he i x _ _ hx s fun H2 s2 => ⟨s2 D _ hd, ?_, xs.length - (i + 1), by omega, rfl, hlt, ?_, ?_, upd_same⟩
    · rw [List.length_map, List.length_range]; omega
    · rw [List.range_succ, List.map_append]; rfl
    · intro b o e
      rw [upd_ne (ne_of_none e hD)]
      exact s2 b o (s b o e)
  · have e : i = xs.length := by omega
    subst e
    exact .inl ⟨⟨xs, hS', Nat.le_refl _⟩, q H' s hd⟩
theorem range_map {α : Type} (xs : List α) (f : Nat → V) (g : α → V) (h : ∀ i x, xs[i]? = some x → f i = g x) : (List.range xs.length).map f = xs.map g := by
  apply List.ext_getElem
  · simp
  · intro i h1 h2
    have hi : i < xs.length := by simpa using h1
    rw [List.getElem_map, List.getElem_map, List.getElem_range]
    exact h i xs[i] (List.getElem?_eq_getElem hi)
theorem comp_range {D : Addr} {lo : Int} {n : Nat} {te : TE} {vs : St} {Q : Hp → Prop} {H : Hp} (f : Nat → V) (hD : H D = none) (hz : n ≤ sizeLine)
    (he : ∀ (i : Nat) (H' : Hp) (R : VK), i < n → Same H H' → (∀ H2, Same H' H2 → R (f i) H2) → te (some (.int (lo + i)) :: vs) H' R)
    (q : ∀ H', Same H H' → H' D = some (.lst ((List.range n).map f)) → Q H') : CompRun (Itr lo n) te vs D Q (upd H D (.lst [])) := by
  refine ⟨fun i m ys H' => m = n - i ∧ i ≤ n ∧ ys = (List.range i).map f ∧ Same H H' ∧ H' D = some (.lst ys), ⟨n, by simp, Nat.zero_le _, by simp, fun b o e => by rw [upd_ne (ne_of_none e hD)]; exact e, upd_same⟩, ?_⟩
  rintro i m ys H' ⟨rfl, hi, rfl, s, hd⟩
  refine ⟨hd, ?_⟩
  by_cases hlt : i < n
  · refine .inr ⟨hlt, fun x H1 y => ?_⟩
    obtain ⟨e, y⟩ := y
    subst e y
    refine he i _ _ hlt s fun H2 s2 => ⟨s2 D _ hd, ?_, n - (i + 1), by omega, rfl, hlt, ?_, ?_, upd_same⟩
    · rw [List.length_map, List.length_range]; omega
    · rw [List.range_succ, List.map_append]; rfl
    · intro b o e
      rw [upd_ne (ne_of_none e hD)]
      exact s2 b o (s b o e)
  · have e : i = n := by omega
    subst e
    exact .inl ⟨Nat.le_refl _, q H' s hd⟩
end L2


set_option Elab.async false
set_option autoImplicit false
namespace Fm
/-! the rows of words, by plain lists; sz: how many signs a word has -/
section
variable {α : Type} (sz : α → Nat)
/-- signs of a row: the words with a blank between -/
def jl : List α → Nat
  | [] => 0
  | [x] => sz x
  | x :: y :: r => sz x + 1 + jl (y :: r)
theorem jl_snoc : ∀ (r : List α) (w : α), r ≠ [] → jl sz (r ++ [w]) = jl sz r + 1 + sz w
  | [], _, h => absurd rfl h
  | [x], w, _ => rfl
  | x :: y :: r, w, _ => by
    have ih := jl_snoc (y :: r) w (by simp)
    show sz x + 1 + jl sz (y :: r ++ [w]) = sz x + 1 + jl sz (y :: r) + 1 + sz w
    rw [ih]; omega
/-- the word put onto the last row -/
def onLast : List (List α) → α → List (List α)
  | [], _ => []
  | [r], w => [r ++ [w]]
  | r :: s :: t, w => r :: onLast (s :: t) w
theorem onLast_snoc (rs : List (List α)) (r : List α) (w : α) : onLast (rs ++ [r]) w = rs ++ [r ++ [w]] := by
  induction rs with
  | nil => rfl
  | cons a rs ih =>
    cases rs with
    | nil => rfl
    | cons b rs => show a :: onLast (b :: rs ++ [r]) w = _; rw [ih]; rfl
theorem onLast_length : ∀ (rs : List (List α)) (w : α), (onLast rs w).length = rs.length
  | [], _ => rfl
  | [_], _ => rfl
  | r :: s :: t, w => by show (onLast (s :: t) w).length + 1 = _; rw [onLast_length (s :: t) w]; rfl
/-- one turn of filled -/
def turn (room : Int) (st : List (List α) × Int) (w : α) : List (List α) × Int :=
  if st.1 ≠ [] ∧ st.2 + 1 + (sz w : Int) ≤ room then (onLast st.1 w, st.2 + 1 + (sz w : Int)) else (st.1 ++ [[w]], (sz w : Int))
instance (room : Int) (st : List (List α) × Int) (w : α) : Decidable (st.1 ≠ [] ∧ st.2 + 1 + (sz w : Int) ≤ room) := by
  cases h : st.1 with
  | nil => exact isFalse (fun c => c.1 rfl)
  | cons a r => exact if q : st.2 + 1 + (sz w : Int) ≤ room then isTrue ⟨by simp, q⟩ else isFalse (fun c => q c.2)
def run (room : Int) (ws : List α) : List (List α) × Int := ws.foldl (turn sz room) ([], 0)
def filledM (ws : List α) (room : Int) : List (List α) := (run sz room ws).1
theorem run_snoc (room : Int) (ws : List α) (w : α) : run sz room (ws ++ [w]) = turn sz room (run sz room ws) w := by
  unfold run; rw [List.foldl_append]; rfl

/-- what holds of rows of a room: told from the front, the words behind them being post -/
def Good (room : Int) : List (List α) → Prop
  | [] => True
  | r :: t => r ≠ [] ∧ (1 < r.length → (jl sz r : Int) ≤ room) ∧ (∀ x y, t.head? = some y → y.head? = some x → room < (jl sz r : Int) + 1 + (sz x : Int)) ∧ Good room t
theorem Good.snoc {room : Int} : ∀ {rs : List (List α)} {r : List α} {w : α}, Good sz room (rs ++ [r]) → room < (jl sz r : Int) + 1 + (sz w : Int) → Good sz room (rs ++ [r] ++ [[w]])
  | [], r, w, h, h2 => by
    obtain ⟨h0, h1, _, _⟩ := h
    refine ⟨h0, h1, ?_, ?_⟩
    · intro x y e1 e2
      have e1' : some [w] = some y := e1
      cases e1'
      have e2' : some w = some x := e2
      cases e2'
      exact h2
    · exact ⟨by simp, by simp, by simp, True.intro⟩
  | a :: rs, r, w, h, h2 => by
    obtain ⟨h0, h1, h3, h4⟩ := h
    refine ⟨h0, h1, ?_, Good.snoc h4 h2⟩
    intro x y e1 e2
    refine h3 x y ?_ e2
    cases rs with
    | nil => exact e1
    | cons b rs => exact e1
theorem Good.on {room : Int} : ∀ {rs : List (List α)} {r : List α} {w : α}, Good sz room (rs ++ [r]) → (jl sz r : Int) + 1 + (sz w : Int) ≤ room → Good sz room (rs ++ [r ++ [w]])
  | [], r, w, h, h2 => by
    obtain ⟨h0, h1, _, _⟩ := h
    refine ⟨by simp, fun _ => ?_, by simp, True.intro⟩
    rw [jl_snoc sz r w h0]
    omega
  | a :: rs, r, w, h, h2 => by
    obtain ⟨h0, h1, h3, h4⟩ := h
    refine ⟨h0, h1, ?_, Good.on h4 h2⟩
    intro x y e1 e2
    cases rs with
    | nil =>
      have e1' : some (r ++ [w]) = some y := e1
      cases e1'
      refine h3 x r rfl ?_
      have hr : r ≠ [] := h4.1
      cases r with
      | nil => exact absurd rfl hr
      | cons z r => exact e2
    | cons b rs => exact h3 x y e1 e2
/-- what holds between two turns -/
structure Mid (room : Int) (pre : List α) (st : List (List α) × Int) : Prop where
  flat : st.1.flatten = pre
  good : Good sz room st.1
  used : ∀ rs r, st.1 = rs ++ [r] → st.2 = (jl sz r : Int)
  first : st.1 = [] → pre = []
theorem split_last {β : Type} : ∀ (l : List β), l ≠ [] → ∃ i x, l = i ++ [x] := fun l h => ⟨l.dropLast, l.getLast h, (List.dropLast_concat_getLast h).symm⟩
theorem mid_start (room : Int) : Mid sz room [] ([], 0) := ⟨rfl, True.intro, fun rs r h => by simp at h, fun _ => rfl⟩
theorem mid_turn {room : Int} {pre : List α} {st : List (List α) × Int} (m : Mid sz room pre st) (w : α) : Mid sz room (pre ++ [w]) (turn sz room st w) := by
  unfold turn
  by_cases h0 : st.1 = []
  · rw [if_neg (fun c => c.1 h0)]
    have hp := m.first h0
    refine ⟨by simp [h0, hp], ?_, ?_, by simp⟩
    · show Good sz room (st.1 ++ [[w]])
      rw [h0]
      exact ⟨by simp, by simp, by simp, True.intro⟩
    · intro rs r e
      have e' : st.1 ++ [[w]] = rs ++ [r] := e
      rw [h0] at e'
      have := List.append_inj_right' e' rfl
      cases this
      rfl
  · obtain ⟨rs, r, e⟩ := split_last st.1 h0
    have hu := m.used rs r e
    by_cases h1 : st.2 + 1 + (sz w : Int) ≤ room
    · rw [if_pos ⟨h0, h1⟩]
      have hr : r ≠ [] := by
        have g := m.good
        rw [e] at g
        clear e hu h1
        induction rs with
        | nil => exact g.1
        | cons a rs ih => exact ih g.2.2.2
      refine ⟨?_, ?_, ?_, ?_⟩
      · show (onLast st.1 w).flatten = pre ++ [w]
        rw [e, onLast_snoc, ← m.flat, e]
        simp
      · show Good sz room (onLast st.1 w)
        rw [e, onLast_snoc]
        have g := m.good
        rw [e] at g
        exact Good.on sz g (by omega)
      · intro rs' r' e'
        have e2 : onLast st.1 w = rs' ++ [r'] := e'
        rw [e, onLast_snoc] at e2
        have := List.append_inj_right' e2 rfl
        cases this
        show st.2 + 1 + (sz w : Int) = _
        rw [jl_snoc sz r w hr]
        omega
      · intro e'
        have e2 : onLast st.1 w = [] := e'
        rw [e, onLast_snoc] at e2
        simp at e2
    · rw [if_neg (fun c => h1 c.2)]
      refine ⟨?_, ?_, ?_, ?_⟩
      · show (st.1 ++ [[w]]).flatten = pre ++ [w]
        rw [List.flatten_append, m.flat]; rfl
      · show Good sz room (st.1 ++ [[w]])
        have g := m.good
        rw [e] at g ⊢
        exact Good.snoc sz g (by omega)
      · intro rs' r' e'
        have e2 : st.1 ++ [[w]] = rs' ++ [r'] := e'
        have := List.append_inj_right' e2 rfl
        cases this
        rfl
      · intro e'
        have e2 : st.1 ++ [[w]] = [] := e'
        simp at e2
theorem mid_run (room : Int) (ws : List α) : Mid sz room ws (run sz room ws) := by
  have key : ∀ (suf pre : List α) (st : List (List α) × Int), Mid sz room pre st → Mid sz room (pre ++ suf) (suf.foldl (turn sz room) st) := by
    intro suf
    induction suf with
    | nil => intro pre st m; simpa using m
    | cons w suf ih =>
      intro pre st m
      have := ih (pre ++ [w]) _ (mid_turn sz m w)
      simpa using this
  have q := key ws [] _ (mid_start sz room)
  rw [List.nil_append] at q
  exact q
theorem filled_flat (room : Int) (ws : List α) : (filledM sz ws room).flatten = ws := (mid_run sz room ws).flat
theorem filled_good (room : Int) (ws : List α) : Good sz room (filledM sz ws room) := (mid_run sz room ws).good

/-! ### the fewest rows: a count of rows and the signs on the last, told turn by turn -/
/-- n rows with u signs on the last are no worse than m rows with v -/
def Le (n : Nat) (u : Int) (m : Nat) (v : Int) : Prop := n < m ∨ (n = m ∧ u ≤ v)
theorem le_turn {n m : Nat} {u v room : Int} {l : Nat} (h : Le n u m v) (hv : 0 ≤ v) (brk : Bool) (hb : brk = false → v + 1 + (l : Int) ≤ room) (hn : n = 0 → brk = true ) :
    Le (if n ≠ 0 ∧ u + 1 + (l : Int) ≤ room then n else n + 1) (if n ≠ 0 ∧ u + 1 + (l : Int) ≤ room then u + 1 + (l : Int) else (l : Int)) (if brk = true then m + 1 else m) (if brk = true then (l : Int) else v + 1 + (l : Int)) := by
  unfold Le at h ⊢
  cases brk with
  | true =>
    simp only [if_true]
    split <;> omega
  | false =>
    have h1 := hb rfl
    have h2 : n ≠ 0 := fun z => by have := hn z; cases this
    simp only [Bool.false_eq_true, if_false]
    split <;> omega
theorem turn_len (room : Int) (st : List (List α) × Int) (w : α) : (turn sz room st w).1.length = if st.1.length ≠ 0 ∧ st.2 + 1 + (sz w : Int) ≤ room then st.1.length else st.1.length + 1 := by
  unfold turn
  have e : (st.1 ≠ [] ↔ st.1.length ≠ 0) := by rw [Ne, Ne, List.length_eq_zero_iff]
  by_cases c : st.1 ≠ [] ∧ st.2 + 1 + (sz w : Int) ≤ room
  · rw [if_pos c, if_pos ⟨e.mp c.1, c.2⟩]; exact onLast_length _ _
  · rw [if_neg c, if_neg (fun z => c ⟨e.mpr z.1, z.2⟩)]; simp
theorem turn_used (room : Int) (st : List (List α) × Int) (w : α) : (turn sz room st w).2 = if st.1.length ≠ 0 ∧ st.2 + 1 + (sz w : Int) ≤ room then st.2 + 1 + (sz w : Int) else (sz w : Int) := by
  unfold turn
  have e : (st.1 ≠ [] ↔ st.1.length ≠ 0) := by rw [Ne, Ne, List.length_eq_zero_iff]
  by_cases c : st.1 ≠ [] ∧ st.2 + 1 + (sz w : Int) ≤ room
  · rw [if_pos c, if_pos ⟨e.mp c.1, c.2⟩]
  · rw [if_neg c, if_neg (fun z => c ⟨e.mpr z.1, z.2⟩)]
theorem run_first (room : Int) (ws : List α) : (run sz room ws).1.length = 0 → ws = [] := fun h => (mid_run sz room ws).first (List.length_eq_zero_iff.mp h)
theorem run_used_nn (room : Int) (ws : List α) : 0 ≤ (run sz room ws).2 := by
  have key : ∀ (suf : List α) (st : List (List α) × Int), 0 ≤ st.2 → 0 ≤ (suf.foldl (turn sz room) st).2 := by
    intro suf
    induction suf with
    | nil => intro st h; exact h
    | cons w suf ih =>
      intro st h
      refine ih _ ?_
      rw [turn_used]
      split <;> omega
  exact key ws _ (by simp)
/-- another way to break: early says where a row ends ahead of its time -/
def oth (room : Int) (early : Nat → Bool) (ws : List α) : Nat → Nat × Int
  | 0 => (0, 0)
  | k + 1 => match ws[k]? with
    | none => oth room early ws k
    | some w => if k = 0 ∨ early k = true ∨ room < (oth room early ws k).2 + 1 + (sz w : Int) then ((oth room early ws k).1 + 1, (sz w : Int)) else ((oth room early ws k).1, (oth room early ws k).2 + 1 + (sz w : Int))
theorem oth_nn (room : Int) (early : Nat → Bool) (ws : List α) : ∀ k, 0 ≤ (oth sz room early ws k).2
  | 0 => by simp [oth]
  | k + 1 => by
    have ih := oth_nn room early ws k
    rw [oth]
    split
    · exact ih
    · split
      · exact Int.natCast_nonneg _
      · dsimp only; omega
theorem oth_le (room : Int) (early : Nat → Bool) (ws : List α) : ∀ k, k ≤ ws.length → Le (run sz room (ws.take k)).1.length (run sz room (ws.take k)).2 (oth sz room early ws k).1 (oth sz room early ws k).2
  | 0, _ => .inr ⟨rfl, Int.le_refl _⟩
  | k + 1, h => by
    have ih := oth_le room early ws k (by omega)
    have hk : k < ws.length := h
    have e : ws.take (k + 1) = ws.take k ++ [ws[k]] := by rw [List.take_add_one, List.getElem?_eq_getElem hk]; rfl
    rw [e, run_snoc, turn_len, turn_used, oth, List.getElem?_eq_getElem hk]
    dsimp only
    have hv := oth_nn sz room early ws k
    have h0 : (run sz room (ws.take k)).1.length = 0 → k = 0 := fun z => by
      have := run_first sz room _ z
      have l := congrArg List.length this
      rw [List.length_take, List.length_nil] at l
      omega
    by_cases c : k = 0 ∨ early k = true ∨ room < (oth sz room early ws k).2 + 1 + (sz ws[k] : Int)
    · have := le_turn (l := sz ws[k]) (room := room) ih hv true (fun z => nomatch z) (fun _ => rfl)
      rw [if_pos (show true = true from rfl), if_pos (show true = true from rfl)] at this
      rw [if_pos c]
      exact this
    · have := le_turn (l := sz ws[k]) (room := room) ih hv false (fun _ => by omega) (fun z => absurd (.inl (h0 z)) c)
      rw [if_neg (show ¬ false = true by decide), if_neg (show ¬ false = true by decide)] at this
      rw [if_neg c]
      exact this
theorem fewest (room : Int) (early : Nat → Bool) (ws : List α) : (filledM sz ws room).length ≤ (oth sz room early ws ws.length).1 := by
  have := oth_le sz room early ws ws.length (Nat.le_refl _)
  rw [List.take_length] at this
  unfold Le at this
  unfold filledM
  omega
theorem wider {room room' : Int} (h : room ≤ room') (ws : List α) : (filledM sz ws room').length ≤ (filledM sz ws room).length := by
  have key : ∀ k, k ≤ ws.length → Le (run sz room' (ws.take k)).1.length (run sz room' (ws.take k)).2 (run sz room (ws.take k)).1.length (run sz room (ws.take k)).2 := by
    intro k
    induction k with
    | zero => intro _; exact .inr ⟨rfl, Int.le_refl _⟩
    | succ k ih =>
      intro hk
      have ih := ih (by omega)
      have hk : k < ws.length := hk
      have e : ws.take (k + 1) = ws.take k ++ [ws[k]] := by rw [List.take_add_one, List.getElem?_eq_getElem hk]; rfl
      rw [e, run_snoc, run_snoc, turn_len, turn_used, turn_len, turn_used]
      have hv := run_used_nn sz room (ws.take k)
      have h0 : (run sz room' (ws.take k)).1.length = 0 → (run sz room (ws.take k)).1.length = 0 := fun z => by
        have := run_first sz room' _ z
        rw [this]; rfl
      by_cases c : (run sz room (ws.take k)).1.length ≠ 0 ∧ (run sz room (ws.take k)).2 + 1 + (sz ws[k] : Int) ≤ room
      · have := le_turn (l := sz ws[k]) (room := room') ih hv false (fun _ => by omega) (fun z => absurd (h0 z) c.1)
        rw [if_neg (show ¬ false = true by decide), if_neg (show ¬ false = true by decide)] at this
        rw [if_pos c, if_pos c]
        exact this
      · have := le_turn (l := sz ws[k]) (room := room') ih hv true (fun z => nomatch z) (fun _ => rfl)
        rw [if_pos (show true = true from rfl), if_pos (show true = true from rfl)] at this
        rw [if_neg c, if_neg c]
        exact this
  have := key ws.length (Nat.le_refl _)
  rw [List.take_length] at this
  unfold Le at this
  unfold filledM
  omega
end
end Fm


set_option Elab.async false
set_option autoImplicit false
set_option linter.all false
namespace Th
open PySem
theorem last_split {α : Type} {l : List α} {t : α} (e : l.getLast? = some t) : l = l.dropLast ++ [t] := by
  have hne : l ≠ [] := by intro z; rw [z] at e; cases e
  rw [List.getLast?_eq_some_getLast hne] at e
  rw [← Option.some.inj e]
  exact (List.dropLast_concat_getLast hne).symm
/-! things as data -/
inductive T where
  | word (x : Str)
  | bundle (h : Str) (ps : List T)
  | run (ws : List Str)
  | tag (w : Str) (t : T)
theorem app_len (a b : Str) : (a ++ b).length = a.length + b.length := by
  show (a.cps ++ b.cps).size = _
  rw [Array.size_append]; rfl
theorem app_assoc (a b c : Str) : a ++ b ++ c = a ++ (b ++ c) := by
  show (⟨a.cps ++ b.cps ++ c.cps⟩ : Str) = ⟨a.cps ++ (b.cps ++ c.cps)⟩
  rw [Array.append_assoc]
theorem app_nil (a : Str) : a ++ "" = a := by
  show (⟨a.cps ++ #[]⟩ : Str) = a
  rw [Array.append_empty]
theorem nil_app (a : Str) : "" ++ a = a := by
  show (⟨#[] ++ a.cps⟩ : Str) = a
  rw [Array.empty_append]
mutual
def flat : T → Str
  | .word x => x
  | .bundle h ps => h ++ "(" ++ Str.join ", " (flats ps) ++ ")"
  | .run ws => "[" ++ Str.join " " ws ++ "]"
  | .tag w t => w ++ ": " ++ flat t
def flats : List T → List Str
  | [] => []
  | t :: r => flat t :: flats r
end
mutual
def size : T → Nat
  | .word x => x.length + 1
  | .bundle h ps => h.length + 5 + sizes ps
  | .run ws => (ws.map fun x => x.length + 1).sum + 3
  | .tag w t => w.length + 5 + size t
def sizes : List T → Nat
  | [] => 0
  | t :: r => size t + 2 + sizes r
end
mutual
def deep : T → Nat
  | .word _ => 0
  | .bundle _ ps => deeps ps + 1
  | .run _ => 0
  | .tag _ t => deep t + 1
def deeps : List T → Nat
  | [] => 0
  | t :: r => max (deep t) (deeps r)
end
theorem flats_map : ∀ ts : List T, flats ts = ts.map flat
  | [] => rfl
  | t :: r => by rw [flats, flats_map r]; rfl
theorem sizes_app : ∀ a b : List T, sizes (a ++ b) = sizes a + sizes b
  | [], b => by rw [List.nil_append, sizes]; omega
  | t :: a, b => by rw [List.cons_append, sizes, sizes, sizes_app a b]; omega
theorem deeps_app : ∀ a b : List T, deeps (a ++ b) = max (deeps a) (deeps b)
  | [], b => by rw [List.nil_append, deeps]; omega
  | t :: a, b => by rw [List.cons_append, deeps, deeps, deeps_app a b]; omega
theorem deep_le_of_mem : ∀ {ts : List T} {t : T}, t ∈ ts → deep t ≤ deeps ts
  | a :: r, t, h => by
    rw [deeps]
    rcases List.mem_cons.mp h with e | h
    · rw [e]; omega
    · have := deep_le_of_mem h; omega
theorem size_le_of_mem : ∀ {ts : List T} {t : T}, t ∈ ts → size t ≤ sizes ts
  | a :: r, t, h => by
    rw [sizes]
    rcases List.mem_cons.mp h with e | h
    · rw [e]; omega
    · have := size_le_of_mem h; omega
theorem join_len (sep : Str) : ∀ xs : List Str, (Str.join sep xs).length ≤ (xs.map fun x => x.length + sep.length).sum
  | [] => Nat.le_refl _
  | [x] => by show x.length ≤ _; simp
  | x :: y :: r => by
    have h := join_len sep (y :: r)
    show (x ++ sep ++ Str.join sep (y :: r)).length ≤ _
    rw [app_len, app_len, List.map_cons, List.sum_cons]
    omega
theorem join_len_eq (sep : Str) : ∀ xs : List Str, xs ≠ [] → (Str.join sep xs).length + sep.length = (xs.map fun x => x.length + sep.length).sum
  | [], h => absurd rfl h
  | [x], _ => by show x.length + sep.length = _; simp
  | x :: y :: r, _ => by
    have h := join_len_eq sep (y :: r) (by simp)
    show (x ++ sep ++ Str.join sep (y :: r)).length + sep.length = _
    rw [app_len, app_len, List.map_cons, List.sum_cons]
    omega
mutual
theorem flat_le : ∀ t : T, (flat t).length ≤ size t
  | .word x => by rw [flat, size]; omega
  | .bundle h ps => by
    rw [flat, size, app_len, app_len, app_len]
    have h1 := join_len ", " (flats ps)
    have h2 := flats_le ps
    have e1 : ("(" : Str).length = 1 := by decide
    have e2 : (")" : Str).length = 1 := by decide
    have e3 : (", " : Str).length = 2 := by decide
    rw [e3] at h1
    omega
  | .run ws => by
    rw [flat, size, app_len, app_len]
    have h1 := join_len " " ws
    have e1 : ("[" : Str).length = 1 := by decide
    have e2 : ("]" : Str).length = 1 := by decide
    have e3 : (" " : Str).length = 1 := by decide
    rw [e3] at h1
    omega
  | .tag w t => by
    rw [flat, size, app_len, app_len]
    have := flat_le t
    have e1 : (": " : Str).length = 2 := by decide
    omega
theorem flats_le : ∀ ts : List T, ((flats ts).map fun x => x.length + 2).sum ≤ sizes ts
  | [] => Nat.le_refl _
  | t :: r => by
    rw [flats, sizes, List.map_cons, List.sum_cons]
    have := flat_le t
    have := flats_le r
    omega
end
/-! ### the walk of a stack of things; the list is told from its top -/
def cat : List T → Str
  | [] => ""
  | t :: r => flat t ++ cat r
theorem cat_app : ∀ a b : List T, cat (a ++ b) = cat a ++ cat b
  | [], b => by rw [List.nil_append, cat, nil_app]
  | t :: a, b => by rw [List.cons_append, cat, cat, cat_app a b, app_assoc]
/-- parts with a comma and a blank between -/
def between : List T → List T
  | [] => []
  | [t] => [t]
  | t :: u :: r => t :: .word ", " :: between (u :: r)
theorem cat_between : ∀ ps : List T, cat (between ps) = Str.join ", " (flats ps)
  | [] => rfl
  | [t] => by rw [between, cat, cat, app_nil, flats, flats]; rfl
  | t :: u :: r => by
    have e1 : flats (u :: r) = flat u :: flats r := by rw [flats]
    have e2 : flats (t :: u :: r) = flat t :: flat u :: flats r := by rw [flats, e1]
    rw [between, cat, cat, cat_between (u :: r), e2, e1, flat, ← app_assoc]
    rfl
/-! the turn's measure -/
mutual
def heft : T → Nat
  | .word _ => 1
  | .bundle _ ps => 3 + hefts ps + ps.length
  | .run _ => 1
  | .tag _ t => heft t + 2
def hefts : List T → Nat
  | [] => 0
  | t :: r => heft t + hefts r
end
theorem hefts_app : ∀ a b : List T, hefts (a ++ b) = hefts a + hefts b
  | [], b => by rw [List.nil_append, hefts]; omega
  | t :: a, b => by rw [List.cons_append, hefts, hefts, hefts_app a b]; omega
theorem heft_pos : ∀ t : T, 1 ≤ heft t
  | .word _ => by rw [heft]; omega
  | .bundle _ _ => by rw [heft]; omega
  | .run _ => by rw [heft]; omega
  | .tag _ _ => by rw [heft]; omega
theorem len_hefts : ∀ ts : List T, ts.length ≤ hefts ts
  | [] => Nat.le_refl _
  | t :: r => by rw [hefts, List.length_cons]; have := heft_pos t; have := len_hefts r; omega
theorem hefts_between : ∀ ps : List T, hefts (between ps) ≤ hefts ps + ps.length
  | [] => by rw [between, hefts]; omega
  | [t] => by rw [between, hefts, hefts]; simp
  | t :: u :: r => by
    have := hefts_between (u :: r)
    rw [between, hefts, hefts, hefts, heft]
    simp only [List.length_cons] at this ⊢
    omega
mutual
theorem heft_le : ∀ t : T, heft t ≤ size t
  | .word x => by rw [heft, size]; omega
  | .bundle h ps => by rw [heft, size]; have := hefts_le ps; omega
  | .run ws => by rw [heft, size]; omega
  | .tag w t => by rw [heft, size]; have := heft_le t; omega
theorem hefts_le : ∀ ts : List T, hefts ts + ts.length ≤ sizes ts
  | [] => by rw [hefts, sizes]; simp
  | t :: r => by
    rw [hefts, sizes, List.length_cons]
    have := heft_le t
    have := hefts_le r
    omega
end
theorem hefts_rev : ∀ l : List T, hefts l.reverse = hefts l
  | [] => rfl
  | t :: r => by rw [List.reverse_cons, hefts_app, hefts_rev r, hefts, hefts, hefts]; omega
/-- what i turns from the last part on put onto the stack, the last put last -/
def pushed (ps : List T) : Nat → List T
  | 0 => []
  | i + 1 => pushed ps i ++ ps.getD (ps.length - 1 - i) (.word "") :: (if 0 < ps.length - 1 - i then [.word ", "] else [])
theorem pushed_rev (ps : List T) : ∀ i, i ≤ ps.length → (pushed ps i).reverse = (if 0 < i ∧ i < ps.length then [.word ", "] else []) ++ between (ps.drop (ps.length - i))
  | 0, _ => by
    rw [pushed, if_neg (by omega), Nat.sub_zero, List.drop_length]
    rfl
  | i + 1, h => by
    have ih := pushed_rev ps i (by omega)
    have hk : ps.length - 1 - i < ps.length := by omega
    have e1 : ps.length - (i + 1) = ps.length - 1 - i := by omega
    have e2 : ps.drop (ps.length - 1 - i) = ps.getD (ps.length - 1 - i) (.word "") :: ps.drop (ps.length - i) := by
      rw [List.drop_eq_getElem_cons hk, List.getD_eq_getElem?_getD, List.getElem?_eq_getElem hk, show ps.length - 1 - i + 1 = ps.length - i by omega]
      rfl
    rw [pushed, List.reverse_append, List.reverse_cons, ih, e1, e2]
    generalize ps.getD (ps.length - 1 - i) (.word "") = t
    have key : (if 0 < i ∧ i < ps.length then [T.word ", "] else []) ++ between (ps.drop (ps.length - i)) = (match between (t :: ps.drop (ps.length - i)) with | [] => [] | _ :: r => r) := by
      by_cases hi : i = 0
      · subst hi
        rw [if_neg (by omega), Nat.sub_zero, List.drop_length]
        rfl
      · rw [if_pos ⟨by omega, by omega⟩]
        have hk2 : ps.length - i < ps.length := by omega
        rw [List.drop_eq_getElem_cons hk2]
        rfl
    have key2 : between (t :: ps.drop (ps.length - i)) = t :: (match between (t :: ps.drop (ps.length - i)) with | [] => [] | _ :: r => r) := by
      cases ps.drop (ps.length - i) with
      | nil => rfl
      | cons u r => rfl
    rw [key, key2]
    by_cases hz : 0 < ps.length - 1 - i
    · rw [if_pos hz, if_pos ⟨by omega, by omega⟩]
      simp
    · rw [if_neg hz, if_neg (by omega)]
      simp
theorem pushed_all (ps : List T) : (pushed ps ps.length).reverse = between ps := by
  rw [pushed_rev ps ps.length (Nat.le_refl _), if_neg (by omega), Nat.sub_self]
  rfl
theorem pushed_len (ps : List T) : ∀ i, (pushed ps i).length ≤ 2 * i
  | 0 => Nat.le_refl _
  | i + 1 => by
    have := pushed_len ps i
    rw [pushed, List.length_append, List.length_cons]
    split <;> simp <;> omega
/-! ### grown: frames told from the innermost -/
section
variable (wd : Int → Str)
def tags : T → Nat
  | .tag _ t => tags t + 1
  | _ => 0
def runOf (salt : Int) : T := .run ((List.range (salt % 9).toNat).map fun (k : Nat) => wd (salt + 11 * (k : Int)))
def onTop (f : List T → List T) : List (List T) → List (List T)
  | [] => []
  | t :: r => f t :: r
def tagTop (salt : Int) (top : List T) : Option (List T) :=
  match top.getLast? with
  | some t => if tags t < 4 then some (top.dropLast ++ [.tag (wd salt) t]) else none
  | none => none
/-- a step: the frames, the way, the salt -/
def step (fs : List (List T)) (way salt : Int) : List (List T) :=
  match fs with
  | [] => []
  | top :: below =>
    if way = 0 ∧ below.length + 1 < 9 then [] :: top :: below
    else if way = 1 ∧ below ≠ [] then onTop (· ++ [.bundle (wd salt) top]) below
    else if way = 2 then (top ++ [runOf wd salt]) :: below
    else if way = 3 then (tagTop wd salt top).getD (top ++ [.word (wd salt)]) :: below
    else (top ++ [.word (wd salt)]) :: below
/-! bounds -/
def tot (fs : List (List T)) : Nat := (fs.map sizes).sum
def dm : List (List T) → Nat
  | [] => 0
  | f :: r => max (deeps f) (dm r)
structure Ok (n : Nat) (fs : List (List T)) : Prop where
  ne : fs ≠ []
  le : fs.length ≤ 9
  sz : tot fs ≤ 350 * n
  dp : dm fs ≤ n
theorem ok_start : Ok 0 [[]] := ⟨by simp, by simp, by simp [tot, sizes], by simp [dm, deeps]⟩
variable (hw : ∀ n, (wd n).length ≤ 42)
include hw
theorem runOf_size (salt : Int) : size (runOf wd salt) ≤ 347 := by
  rw [runOf, size]
  have h9 : (salt % 9).toNat ≤ 8 := by omega
  have key : ∀ l : List Nat, ((l.map fun (k : Nat) => wd (salt + 11 * (k : Int))).map fun x => x.length + 1).sum ≤ 43 * l.length := by
    intro l
    induction l with
    | nil => simp
    | cons k l ih =>
      have := hw (salt + 11 * (k : Int))
      simp only [List.map_cons, List.sum_cons, List.length_cons]
      omega
  have := key (List.range (salt % 9).toNat)
  rw [List.length_range] at this
  omega
theorem tagTop_ok (salt : Int) (top : List T) : sizes ((tagTop wd salt top).getD (top ++ [.word (wd salt)])) ≤ sizes top + 60 ∧ deeps ((tagTop wd salt top).getD (top ++ [.word (wd salt)])) ≤ deeps top + 1 := by
  have hs := hw salt
  have other : sizes (top ++ [.word (wd salt)]) ≤ sizes top + 60 ∧ deeps (top ++ [.word (wd salt)]) ≤ deeps top + 1 := by
    rw [sizes_app, sizes, sizes, size, deeps_app, deeps, deeps, deep]
    omega
  unfold tagTop
  cases e : top.getLast? with
  | none => exact other
  | some t =>
    dsimp only
    by_cases c : tags t < 4
    · rw [if_pos c, Option.getD_some]
      have ht := last_split e
      have h1 : sizes top = sizes top.dropLast + (size t + 2 + 0) := by
        conv => lhs; rw [ht]
        rw [sizes_app, sizes, sizes]
      have h2 : deeps top = max (deeps top.dropLast) (max (deep t) 0) := by
        conv => lhs; rw [ht]
        rw [deeps_app, deeps, deeps]
      rw [h1, h2, sizes_app, sizes, sizes, size, deeps_app, deeps, deeps, deep]
      omega
    · rw [if_neg c]
      exact other
theorem ok_step {n : Nat} {fs : List (List T)} (o : Ok n fs) (way salt : Int) : Ok (n + 1) (step wd fs way salt) := by
  obtain ⟨ne, le, sz, dp⟩ := o
  have hs := hw salt
  cases fs with
  | nil => exact absurd rfl ne
  | cons top below =>
    rw [tot, List.map_cons, List.sum_cons] at sz
    rw [dm] at dp
    rw [List.length_cons] at le
    unfold step
    dsimp only
    split
    · refine ⟨by simp, by simp; omega, ?_, ?_⟩
      · rw [tot, List.map_cons, List.sum_cons, List.map_cons, List.sum_cons, sizes]; omega
      · rw [dm, dm, deeps]; omega
    · split
      · rename_i _ c
        cases below with
        | nil => exact absurd rfl c.2
        | cons b r =>
          rw [List.map_cons, List.sum_cons] at sz
          rw [dm] at dp
          rw [List.length_cons] at le
          refine ⟨by simp [onTop], by simp [onTop]; omega, ?_, ?_⟩
          · rw [onTop, tot, List.map_cons, List.sum_cons, sizes_app, sizes, sizes, size]; omega
          · rw [onTop, dm, deeps_app, deeps, deeps, deep]; omega
      · split
        · have := runOf_size wd hw salt
          refine ⟨by simp, by simp; omega, ?_, ?_⟩
          · rw [tot, List.map_cons, List.sum_cons, sizes_app, sizes, sizes]; omega
          · rw [dm, deeps_app, deeps, deeps, runOf, deep]; omega
        · split
          · have k := tagTop_ok wd hw salt top
            refine ⟨by simp, by simp; omega, ?_, ?_⟩
            · rw [tot, List.map_cons, List.sum_cons]; omega
            · rw [dm]; omega
          · refine ⟨by simp, by simp; omega, ?_, ?_⟩
            · rw [tot, List.map_cons, List.sum_cons, sizes_app, sizes, sizes, size]; omega
            · rw [dm, deeps_app, deeps, deeps, deep]; omega
omit hw
def grow (cells : List Int) : Nat → List (List T)
  | 0 => [[]]
  | k + 1 => step wd (grow cells k) (cells.getD k 0 % 7) (cells.getD k 0 / 7 + 3 * (k : Int))
def close : Nat → List (List T) → List (List T)
  | 0, fs => fs
  | n + 1, fs => close n (step wd fs 1 ((n : Int) + 2))
def thingOf : List (List T) → T
  | [[t]] => t
  | f :: _ => .bundle "top" f
  | [] => .word ""
def grown (cells : List Int) : T := thingOf (close wd ((grow wd cells cells.length).length - 1) (grow wd cells cells.length))
theorem step_close_len {fs : List (List T)} {salt : Int} {n : Nat} (h : fs.length = n + 2) : (step wd fs 1 salt).length = n + 1 := by
  cases fs with
  | nil => simp at h
  | cons top below =>
    cases below with
    | nil => simp at h
    | cons b r =>
      unfold step
      dsimp only
      rw [if_neg (by intro z; exact absurd z.1 (by decide)), if_pos ⟨rfl, by simp⟩]
      simpa [onTop] using h
include hw
theorem ok_grow (cells : List Int) : ∀ k, Ok k (grow wd cells k)
  | 0 => ok_start
  | k + 1 => ok_step wd hw (ok_grow cells k) _ _
theorem ok_close : ∀ (n m : Nat) (fs : List (List T)), Ok m fs → Ok (m + n) (close wd n fs)
  | 0, m, fs, o => o
  | n + 1, m, fs, o => by
    have := ok_close n (m + 1) _ (ok_step wd hw o 1 ((n : Int) + 2))
    rw [close, show m + (n + 1) = m + 1 + n by omega]
    exact this
theorem ok_thing {n : Nat} {fs : List (List T)} (o : Ok n fs) : size (thingOf fs) ≤ 350 * n + 10 ∧ deep (thingOf fs) ≤ n + 1 := by
  obtain ⟨ne, le, sz, dp⟩ := o
  have e3 : ("top" : Str).length = 3 := by decide
  match fs with
  | [] => exact absurd rfl ne
  | [t] :: [] =>
    rw [tot, List.map_cons, List.sum_cons, sizes, sizes] at sz
    rw [dm, deeps, deeps] at dp
    rw [thingOf]
    omega
  | [] :: r => 
    have e : thingOf ([] :: r) = .bundle "top" [] := by cases r <;> rfl
    rw [e, size, deep, sizes, deeps, e3]
    omega
  | [t] :: q :: r =>
    have e : thingOf ([t] :: q :: r) = .bundle "top" [t] := rfl
    rw [tot, List.map_cons, List.sum_cons] at sz
    rw [dm] at dp
    rw [e, size, deep, e3]
    omega
  | (t :: u :: f) :: r =>
    have e : thingOf ((t :: u :: f) :: r) = .bundle "top" (t :: u :: f) := by cases r <;> rfl
    rw [tot, List.map_cons, List.sum_cons] at sz
    rw [dm] at dp
    rw [e, size, deep, e3]
    omega
theorem grown_ok (cells : List Int) (h : cells.length ≤ 63) : size (grown wd cells) ≤ 25000 ∧ deep (grown wd cells) ≤ 73 := by
  have o1 := ok_grow wd hw cells cells.length
  have o2 := ok_close wd hw ((grow wd cells cells.length).length - 1) _ _ o1
  have := ok_thing wd hw o2
  have hl := o1.le
  unfold grown
  omega
end
end Th


set_option Elab.async false
set_option linter.all false
set_option maxRecDepth 100000
namespace Rp
open PySem PySem.Spec PyProof.Rows L2
open Th (T)
/-! a thing as it stands in the heap -/
mutual
def Rep (G : Hp) : T → V → Prop
  | .word x, v => v = .str x
  | .bundle h ps, v => ∃ (a l : Addr) (vs : List V), v = .ref a ∧ G a = some (.tup [.str "bundle", .str h, .ref l]) ∧ G l = some (.lst vs) ∧ Reps G ps vs
  | .run ws, v => ∃ (a l : Addr), v = .ref a ∧ G a = some (.tup [.str "run", .ref l]) ∧ G l = some (.lst (ws.map V.str))
  | .tag w t, v => ∃ (a : Addr) (u : V), v = .ref a ∧ G a = some (.tup [.str "tag", .str w, u]) ∧ Rep G t u
def Reps (G : Hp) : List T → List V → Prop
  | [], vs => vs = []
  | t :: ts, vs => ∃ (v : V) (r : List V), vs = v :: r ∧ Rep G t v ∧ Reps G ts r
end
mutual
theorem Rep.mono {G G' : Hp} (s : Same G G') : ∀ (t : T) (v : V), Rep G t v → Rep G' t v
  | .word x, v, h => by rw [Rep] at h ⊢; exact h
  | .bundle hd ps, v, h => by
    rw [Rep] at h ⊢
    obtain ⟨a, l, vs, e, h1, h2, h3⟩ := h
    exact ⟨a, l, vs, e, s _ _ h1, s _ _ h2, Reps.mono s ps vs h3⟩
  | .run ws, v, h => by
    rw [Rep] at h ⊢
    obtain ⟨a, l, e, h1, h2⟩ := h
    exact ⟨a, l, e, s _ _ h1, s _ _ h2⟩
  | .tag w t, v, h => by
    rw [Rep] at h ⊢
    obtain ⟨a, u, e, h1, h2⟩ := h
    exact ⟨a, u, e, s _ _ h1, Rep.mono s t u h2⟩
theorem Reps.mono {G G' : Hp} (s : Same G G') : ∀ (ts : List T) (vs : List V), Reps G ts vs → Reps G' ts vs
  | [], vs, h => by rw [Reps] at h ⊢; exact h
  | t :: ts, vs, h => by
    rw [Reps] at h ⊢
    obtain ⟨v, r, e, h1, h2⟩ := h
    exact ⟨v, r, e, Rep.mono s t v h1, Reps.mono s ts r h2⟩
end
theorem Reps.nil {G : Hp} : Reps G [] [] := by rw [Reps]
theorem Reps.cons {G : Hp} {t : T} {ts : List T} {v : V} {vs : List V} (h : Rep G t v) (r : Reps G ts vs) : Reps G (t :: ts) (v :: vs) := by rw [Reps]; exact ⟨v, vs, rfl, h, r⟩
theorem Reps.len {G : Hp} : ∀ {ts : List T} {vs : List V}, Reps G ts vs → ts.length = vs.length
  | [], vs, h => by rw [Reps] at h; rw [h]; rfl
  | t :: ts, vs, h => by
    rw [Reps] at h
    obtain ⟨v, r, e, _, h2⟩ := h
    rw [e, List.length_cons, List.length_cons, Reps.len h2]
theorem Reps.app {G : Hp} {us : List T} {ws : List V} (k : Reps G us ws) : ∀ {ts : List T} {vs : List V}, Reps G ts vs → Reps G (ts ++ us) (vs ++ ws)
  | [], vs, h => by rw [Reps] at h; subst h; exact k
  | t :: ts, vs, h => by
    rw [Reps] at h
    obtain ⟨v, r, rfl, h1, h2⟩ := h
    exact Reps.cons h1 (Reps.app k h2)
theorem Reps.snoc {G : Hp} {t : T} {v : V} {ts : List T} {vs : List V} (h : Reps G ts vs) (k : Rep G t v) : Reps G (ts ++ [t]) (vs ++ [v]) := Reps.app (Reps.cons k Reps.nil) h
theorem Reps.get {G : Hp} : ∀ {ts : List T} {vs : List V} {i : Nat} {v : V}, Reps G ts vs → vs[i]? = some v → ∃ t, ts[i]? = some t ∧ Rep G t v
  | [], vs, i, v, h, e => by rw [Reps] at h; subst h; simp at e
  | t :: ts, vs, i, v, h, e => by
    rw [Reps] at h
    obtain ⟨u, r, rfl, h1, h2⟩ := h
    cases i with
    | zero =>
      have e' : u = v := by simpa using e
      subst e'
      exact ⟨t, rfl, h1⟩
    | succ i =>
      obtain ⟨t', e1, e2⟩ := Reps.get (i := i) (v := v) h2 (by simpa using e)
      exact ⟨t', by simpa using e1, e2⟩
theorem Reps.at {G : Hp} : ∀ {ts : List T} {vs : List V} {i : Nat} {t : T}, Reps G ts vs → ts[i]? = some t → ∃ v, vs[i]? = some v ∧ Rep G t v
  | [], vs, i, v, h, e => by simp at e
  | u :: ts, vs, i, t, h, e => by
    rw [Reps] at h
    obtain ⟨v, r, rfl, h1, h2⟩ := h
    cases i with
    | zero =>
      have e' : u = t := by simpa using e
      subst e'
      exact ⟨v, rfl, h1⟩
    | succ i =>
      obtain ⟨v', e1, e2⟩ := Reps.at (i := i) (t := t) h2 (by simpa using e)
      exact ⟨v', by simpa using e1, e2⟩
theorem Reps.last {G : Hp} {t : T} : ∀ {ts : List T} {vs : List V}, Reps G (ts ++ [t]) vs → ∃ us v, vs = us ++ [v] ∧ Reps G ts us ∧ Rep G t v
  | [], vs, h => by
    rw [List.nil_append, Reps] at h
    obtain ⟨v, r, rfl, h1, h2⟩ := h
    rw [Reps] at h2
    subst h2
    exact ⟨[], v, rfl, Reps.nil, h1⟩
  | u :: ts, vs, h => by
    rw [List.cons_append, Reps] at h
    obtain ⟨v, r, rfl, h1, h2⟩ := h
    obtain ⟨us, v', rfl, h3, h4⟩ := Reps.last h2
    exact ⟨v :: us, v', rfl, Reps.cons h1 h3, h4⟩
/-! two values that are built alike; the number counts the values within -/
mutual
inductive Tw (G : Hp) : V → V → Nat → Prop
  | str (x : Str) : Tw G (.str x) (.str x) 1
  | lst {a b : Addr} {xs ys : List V} {n : Nat} : G a = some (.lst xs) → G b = some (.lst ys) → Tws G xs ys n → Tw G (.ref a) (.ref b) (n + 1)
  | tup {a b : Addr} {xs ys : List V} {n : Nat} : G a = some (.tup xs) → G b = some (.tup ys) → Tws G xs ys n → Tw G (.ref a) (.ref b) (n + 1)
inductive Tws (G : Hp) : List V → List V → Nat → Prop
  | nil : Tws G [] [] 0
  | cons {x y : V} {xs ys : List V} {n m : Nat} : Tw G x y n → Tws G xs ys m → Tws G (x :: xs) (y :: ys) (n + m)
end
theorem Tw.pos {G : Hp} {x y : V} {n : Nat} (h : Tw G x y n) : 1 ≤ n := by cases h <;> omega
theorem Tws.len {G : Hp} : ∀ {xs ys : List V} {n : Nat}, Tws G xs ys n → xs.length = ys.length ∧ xs.length ≤ n
  | _, _, _, .nil => ⟨rfl, Nat.le_refl _⟩
  | _, _, _, .cons h t => by
    have := Tws.len t
    have := h.pos
    simp only [List.length_cons]
    omega
theorem Tws.app {G : Hp} {us ws : List V} {k : Nat} (q : Tws G us ws k) : ∀ {xs ys : List V} {n : Nat}, Tws G xs ys n → Tws G (xs ++ us) (ys ++ ws) (n + k)
  | _, _, _, .nil => by rw [Nat.zero_add]; exact q
  | _, _, _, .cons h t => by
    have := Tws.cons h (Tws.app q t)
    rw [← Nat.add_assoc] at this
    exact this
theorem Tws.last {G : Hp} : ∀ {xs ys : List V} {n : Nat}, Tws G xs ys n → xs ≠ [] → ∃ us x ws y k m, xs = us ++ [x] ∧ ys = ws ++ [y] ∧ Tws G us ws m ∧ Tw G x y k ∧ n = m + k
  | _, _, _, .nil, h => absurd rfl h
  | _, _, _, .cons (x := x) (y := y) (xs := xs) (ys := ys) (n := n) (m := m) h t, _ => by
    cases t with
    | nil => exact ⟨[], x, [], y, n, 0, rfl, rfl, .nil, h, by omega⟩
    | cons h' t' =>
      obtain ⟨us, x', ws, y', k, m', e1, e2, h1, h2, e3⟩ := Tws.last (.cons h' t') (by simp)
      exact ⟨x :: us, x', y :: ws, y', k, n + m', by rw [e1]; rfl, by rw [e2]; rfl, .cons h h1, h2, by omega⟩
theorem Tws.strs {G : Hp} : ∀ ws : List Str, Tws G (ws.map V.str) (ws.map V.str) ws.length
  | [] => .nil
  | x :: ws => by
    have := Tws.cons (Tw.str (G := G) x) (Tws.strs ws)
    rw [Nat.add_comm] at this
    exact this
mutual
theorem rep_tw {G : Hp} : ∀ (t : T) (v u : V), Rep G t v → Rep G t u → ∃ n, Tw G v u n ∧ n ≤ Th.size t
  | .word x, v, u, h, k => by
    rw [Rep] at h k
    subst h k
    exact ⟨1, .str x, by rw [Th.size]; omega⟩
  | .bundle hd ps, v, u, h, k => by
    rw [Rep] at h k
    obtain ⟨a, l, vs, rfl, h1, h2, h3⟩ := h
    obtain ⟨b, l', us, rfl, k1, k2, k3⟩ := k
    obtain ⟨n, q, hn⟩ := reps_tws ps vs us h3 k3
    exact ⟨_, .tup h1 k1 (.cons (.str _) (.cons (.str _) (.cons (.lst h2 k2 q) .nil))), by rw [Th.size]; omega⟩
  | .run ws, v, u, h, k => by
    rw [Rep] at h k
    obtain ⟨a, l, rfl, h1, h2⟩ := h
    obtain ⟨b, l', rfl, k1, k2⟩ := k
    refine ⟨_, .tup h1 k1 (.cons (.str _) (.cons (.lst h2 k2 (Tws.strs ws)) .nil)), ?_⟩
    rw [Th.size]
    have : ∀ l : List Str, l.length ≤ (l.map fun x => x.length + 1).sum := by
      intro l
      induction l with
      | nil => simp
      | cons x l ih => simp only [List.map_cons, List.sum_cons, List.length_cons]; omega
    have := this ws
    omega
  | .tag w t, v, u, h, k => by
    rw [Rep] at h k
    obtain ⟨a, x, rfl, h1, h2⟩ := h
    obtain ⟨b, y, rfl, k1, k2⟩ := k
    obtain ⟨n, q, hn⟩ := rep_tw t x y h2 k2
    exact ⟨_, .tup h1 k1 (.cons (.str _) (.cons (.str _) (.cons q .nil))), by rw [Th.size]; omega⟩
theorem reps_tws {G : Hp} : ∀ (ts : List T) (vs us : List V), Reps G ts vs → Reps G ts us → ∃ n, Tws G vs us n ∧ n ≤ Th.sizes ts
  | [], vs, us, h, k => by
    rw [Reps] at h k
    subst h k
    exact ⟨0, .nil, Nat.zero_le _⟩
  | t :: ts, vs, us, h, k => by
    rw [Reps] at h k
    obtain ⟨v, r, rfl, h1, h2⟩ := h
    obtain ⟨u, q, rfl, k1, k2⟩ := k
    obtain ⟨n, a, hn⟩ := rep_tw t v u h1 k1
    obtain ⟨m, b, hm⟩ := reps_tws ts r q h2 k2
    exact ⟨n + m, .cons a b, by rw [Th.sizes]; omega⟩
end
end Rp


set_option Elab.async false
set_option autoImplicit false
set_option linter.all false
namespace Ly
open PySem
open Th (T)
abbrev sz (x : Str) : Nat := x.length
def pad (n : Nat) : Str := ⟨Array.replicate n 32⟩
theorem pad_len (n : Nat) : (pad n).length = n := by show (Array.replicate n 32).size = n; simp
def room (W : Int) (i : Nat) : Int := W - (i : Int) - 2
def flatRow (t : T) (i : Nat) (lead tail : Str) : Str := pad i ++ lead ++ Th.flat t ++ tail
def wordRow (i : Nat) (g : List Str) : Str := pad i ++ "  " ++ Str.join " " g
mutual
/-- the rows by the rule -/
def lay (W : Int) : T → Nat → Str → Str → List Str
  | .tag w t, i, lead, tail => lay W t i (lead ++ w ++ ": ") tail
  | .word x, i, lead, tail => [flatRow (.word x) i lead tail]
  | .run ws, i, lead, tail => if ws = [] ∨ ((flatRow (.run ws) i lead tail).length : Int) ≤ W then [flatRow (.run ws) i lead tail]
    else (pad i ++ lead ++ "[") :: ((Fm.filledM sz ws (room W i)).map (wordRow i) ++ [pad i ++ "]" ++ tail])
  | .bundle h ps, i, lead, tail => if ps = [] ∨ ((flatRow (.bundle h ps) i lead tail).length : Int) ≤ W then [flatRow (.bundle h ps) i lead tail]
    else (pad i ++ lead ++ h ++ "(") :: (lays W ps (i + 2) ++ [pad i ++ ")" ++ tail])
def lays (W : Int) : List T → Nat → List Str
  | [], _ => []
  | t :: r, i => lay W t i "" (if r.isEmpty then "" else ",") ++ lays W r i
end
mutual
/-- all broken up -/
def full : T → Nat → Str → Str → List Str
  | .tag w t, i, lead, tail => full t i (lead ++ w ++ ": ") tail
  | .word x, i, lead, tail => [flatRow (.word x) i lead tail]
  | .run ws, i, lead, tail => if ws = [] then [flatRow (.run ws) i lead tail]
    else (pad i ++ lead ++ "[") :: (ws.map (fun w => wordRow i [w]) ++ [pad i ++ "]" ++ tail])
  | .bundle h ps, i, lead, tail => if ps = [] then [flatRow (.bundle h ps) i lead tail]
    else (pad i ++ lead ++ h ++ "(") :: (fulls ps (i + 2) ++ [pad i ++ ")" ++ tail])
def fulls : List T → Nat → List Str
  | [], _ => []
  | t :: r, i => full t i "" (if r.isEmpty then "" else ",") ++ fulls r i
end
mutual
/-- the rows by some choice of breaks -/
inductive Any : T → Nat → Str → Str → List Str → Prop
  | tag {w : Str} {t : T} {i : Nat} {lead tail : Str} {rows : List Str} : Any t i (lead ++ w ++ ": ") tail rows → Any (.tag w t) i lead tail rows
  | word {x : Str} {i : Nat} {lead tail : Str} : Any (.word x) i lead tail [flatRow (.word x) i lead tail]
  | flatR {ws : List Str} {i : Nat} {lead tail : Str} : Any (.run ws) i lead tail [flatRow (.run ws) i lead tail]
  | flatB {h : Str} {ps : List T} {i : Nat} {lead tail : Str} : Any (.bundle h ps) i lead tail [flatRow (.bundle h ps) i lead tail]
  | run {ws : List Str} {i : Nat} {lead tail : Str} {gs : List (List Str)} : ws ≠ [] → gs.flatten = ws → (∀ g ∈ gs, g ≠ []) → Any (.run ws) i lead tail ((pad i ++ lead ++ "[") :: (gs.map (wordRow i) ++ [pad i ++ "]" ++ tail]))
  | bundle {h : Str} {ps : List T} {i : Nat} {lead tail : Str} {rows : List Str} : ps ≠ [] → Anys ps (i + 2) rows → Any (.bundle h ps) i lead tail ((pad i ++ lead ++ h ++ "(") :: (rows ++ [pad i ++ ")" ++ tail]))
inductive Anys : List T → Nat → List Str → Prop
  | nil {i : Nat} : Anys [] i []
  | cons {t : T} {r : List T} {i : Nat} {rows rows' : List Str} : Any t i "" (if r.isEmpty then "" else ",") rows → Anys r i rows' → Anys (t :: r) i (rows ++ rows')
end
theorem wordRow_len (i : Nat) (g : List Str) (h : g ≠ []) : (wordRow i g).length = i + 2 + Fm.jl sz g := by
  have key : ∀ g : List Str, (Str.join " " g).length = Fm.jl sz g := by
    intro g
    induction g with
    | nil => rfl
    | cons x g ih =>
      cases g with
      | nil => rfl
      | cons y g =>
        show (x ++ " " ++ Str.join " " (y :: g)).length = x.length + 1 + Fm.jl sz (y :: g)
        rw [Th.app_len, Th.app_len, ih]
        rfl
  rw [wordRow, Th.app_len, Th.app_len, pad_len, key]
  rfl
theorem jl_mem : ∀ {g : List Str} {w : Str}, w ∈ g → w.length ≤ Fm.jl sz g
  | x :: g, w, h => by
    cases g with
    | nil =>
      have e : w = x := by simpa using h
      rw [e]; exact Nat.le_refl _
    | cons y g =>
      show w.length ≤ x.length + 1 + Fm.jl sz (y :: g)
      rcases List.mem_cons.mp h with e | h
      · rw [e]; omega
      · have := jl_mem h; omega
/-! ### words: no partition into rows of that room has fewer -/
theorem groups_le (r : Int) : ∀ (gs : List (List Str)) (pre : List Str) (n : Nat) (v : Int), Fm.Le (Fm.run sz r pre).1.length (Fm.run sz r pre).2 n v → 0 ≤ v → (∀ g ∈ gs, g ≠ [] ∧ (Fm.jl sz g : Int) ≤ r) →
    (Fm.run sz r (pre ++ gs.flatten)).1.length ≤ n + gs.length
  | [], pre, n, v, h, _, _ => by
    rw [List.flatten_nil, List.append_nil]
    unfold Fm.Le at h
    simp only [List.length_nil]
    omega
  | g :: gs, pre, n, v, h, hv, hg => by
    obtain ⟨hne, hj⟩ := hg g List.mem_cons_self
    -- the rest of a group, word by word
    have inner : ∀ (suf done : List Str), done ≠ [] → done ++ suf = g → Fm.Le (Fm.run sz r (pre ++ done)).1.length (Fm.run sz r (pre ++ done)).2 (n + 1) (Fm.jl sz done : Int) →
        Fm.Le (Fm.run sz r (pre ++ g)).1.length (Fm.run sz r (pre ++ g)).2 (n + 1) (Fm.jl sz g : Int) := by
      intro suf
      induction suf with
      | nil => intro done _ e q; rw [List.append_nil] at e; rw [← e]; exact q
      | cons w suf ih =>
        intro done hd e q
        refine ih (done ++ [w]) (by simp) (by rw [← e]; simp) ?_
        have hle : Fm.jl sz (done ++ [w]) ≤ Fm.jl sz g := by
          have mono : ∀ (a b : List Str), Fm.jl sz a ≤ Fm.jl sz (a ++ b) := by
            intro a
            induction a with
            | nil => intro b; exact Nat.zero_le _
            | cons x a iha =>
              intro b
              cases a with
              | nil =>
                cases b with
                | nil => exact Nat.le_refl _
                | cons y b => show x.length ≤ x.length + 1 + _; omega
              | cons y a =>
                have := iha b
                show x.length + 1 + Fm.jl sz (y :: a) ≤ x.length + 1 + Fm.jl sz (y :: a ++ b)
                omega
          have := mono (done ++ [w]) suf
          rw [← e]
          simpa using this
        rw [Fm.jl_snoc sz done w hd] at hle ⊢
        have key := Fm.le_turn (l := sz w) (room := r) q (Int.natCast_nonneg _) false (fun _ => by
          have : ((sz w : Nat) : Int) = ((sz w : Nat) : Int) := rfl
          omega) (fun z => by
          have := Fm.run_first sz r _ z
          have l := congrArg List.length this
          rw [List.length_append, List.length_nil] at l
          have : 0 < done.length := List.length_pos_iff.mpr hd
          omega)
        rw [if_neg (show ¬ false = true by decide), if_neg (show ¬ false = true by decide)] at key
        rw [← List.append_assoc, Fm.run_snoc, Fm.turn_len, Fm.turn_used]
        have e3 : ((Fm.jl sz done + 1 + sz w : Nat) : Int) = (Fm.jl sz done : Int) + 1 + (sz w : Int) := by omega
        rw [e3]
        exact key
    cases g with
    | nil => exact absurd rfl hne
    | cons w g =>
      have first : Fm.Le (Fm.run sz r (pre ++ [w])).1.length (Fm.run sz r (pre ++ [w])).2 (n + 1) (Fm.jl sz [w] : Int) := by
        have key := Fm.le_turn (l := sz w) (room := r) h hv true (fun z => nomatch z) (fun _ => rfl)
        rw [if_pos (show true = true from rfl), if_pos (show true = true from rfl)] at key
        rw [Fm.run_snoc, Fm.turn_len, Fm.turn_used]
        exact key
      have whole := inner g [w] (by simp) rfl first
      have := groups_le r gs (pre ++ (w :: g)) (n + 1) _ whole (Int.natCast_nonneg _) fun g' hg' => hg g' (List.mem_cons_of_mem _ hg')
      rw [List.flatten_cons, ← List.append_assoc, List.length_cons]
      omega
theorem filled_best {r : Int} {ws : List Str} {gs : List (List Str)} (hf : gs.flatten = ws) (hg : ∀ g ∈ gs, g ≠ [] ∧ (Fm.jl sz g : Int) ≤ r) : (Fm.filledM sz ws r).length ≤ gs.length := by
  have := groups_le r gs [] 0 0 (.inr ⟨rfl, Int.le_refl _⟩) (Int.le_refl _) hg
  rw [List.nil_append, hf] at this
  unfold Fm.filledM
  omega
theorem good_mem {r : Int} : ∀ {rows : List (List Str)}, Fm.Good sz r rows → ∀ g ∈ rows, g ≠ [] ∧ (1 < g.length → (Fm.jl sz g : Int) ≤ r)
  | [], _, g, h => by cases h
  | a :: rows, q, g, h => by
    rcases List.mem_cons.mp h with e | h
    · rw [e]; exact ⟨q.1, q.2.1⟩
    · exact good_mem q.2.2.2 g h
theorem filled_mem {r : Int} {ws : List Str} {g : List Str} (h : g ∈ Fm.filledM sz ws r) : g ≠ [] ∧ (1 < g.length → (Fm.jl sz g : Int) ≤ r) ∧ ∀ w ∈ g, w ∈ ws := by
  have q := good_mem (Fm.filled_good sz r ws) g h
  refine ⟨q.1, q.2, fun w hw => ?_⟩
  rw [← Fm.filled_flat sz r ws]
  exact List.mem_flatten.mpr ⟨g, h, hw⟩
theorem one_of {g : List Str} (h : g ≠ []) (h1 : ¬ 1 < g.length) : ∃ w, g = [w] := by
  match g, h, h1 with
  | [], h, _ => exact absurd rfl h
  | [w], _, _ => exact ⟨w, rfl⟩
  | a :: b :: g, _, h1 => simp at h1
abbrev Fits (W : Int) (rows : List Str) : Prop := ∀ r ∈ rows, (r.length : Int) ≤ W
theorem fits_app {W : Int} {a b : List Str} : Fits W (a ++ b) ↔ Fits W a ∧ Fits W b :=
  ⟨fun h => ⟨fun r hr => h r (List.mem_append_left _ hr), fun r hr => h r (List.mem_append_right _ hr)⟩, fun h r hr => (List.mem_append.mp hr).elim (h.1 r) (h.2 r)⟩
theorem fits_cons {W : Int} {x : Str} {a : List Str} : Fits W (x :: a) ↔ (x.length : Int) ≤ W ∧ Fits W a :=
  ⟨fun h => ⟨h x List.mem_cons_self, fun r hr => h r (List.mem_cons_of_mem _ hr)⟩, fun h r hr => (List.mem_cons.mp hr).elim (fun e => e ▸ h.1) (h.2 r)⟩
theorem fits_nil {W : Int} : Fits W [] := fun r h => nomatch h
theorem lays_pos (W : Int) : ∀ t i lead tail, lay W t i lead tail ≠ []
  | .tag w t, i, lead, tail => by rw [lay]; exact lays_pos W t i _ tail
  | .word x, i, lead, tail => by rw [lay]; simp
  | .run ws, i, lead, tail => by rw [lay]; split <;> simp
  | .bundle h ps, i, lead, tail => by rw [lay]; split <;> simp
/-! ### point 10 -/
mutual
theorem best (W : Int) : ∀ {t : T} {i : Nat} {lead tail : Str} {rows : List Str}, Any t i lead tail rows → Fits W rows → Fits W (lay W t i lead tail) ∧ (lay W t i lead tail).length ≤ rows.length
  | .tag w t, i, lead, tail, rows, .tag h, hf => by rw [lay]; exact best W h hf
  | .word x, i, lead, tail, _, .word, hf => by rw [lay]; exact ⟨hf, Nat.le_refl _⟩
  | .run ws, i, lead, tail, _, .flatR, hf => by
    rw [lay, if_pos (.inr (fits_cons.mp hf).1)]
    exact ⟨hf, Nat.le_refl _⟩
  | .bundle h ps, i, lead, tail, _, .flatB, hf => by
    rw [lay, if_pos (.inr (fits_cons.mp hf).1)]
    exact ⟨hf, Nat.le_refl _⟩
  | .run ws, i, lead, tail, _, .run (gs := gs) hne hfl hg, hf => by
    rw [lay]
    obtain ⟨f1, f2⟩ := fits_cons.mp hf
    obtain ⟨f3, f4⟩ := fits_app.mp f2
    by_cases c : ws = [] ∨ ((flatRow (.run ws) i lead tail).length : Int) ≤ W
    · rw [if_pos c]
      have c' := c.resolve_left hne
      exact ⟨fits_cons.mpr ⟨c', fits_nil⟩, by simp⟩
    · rw [if_neg c]
      have hgr : ∀ g ∈ gs, g ≠ [] ∧ (Fm.jl sz g : Int) ≤ room W i := fun g hgm => by
        have := f3 (wordRow i g) (List.mem_map.mpr ⟨g, hgm, rfl⟩)
        rw [wordRow_len i g (hg g hgm)] at this
        exact ⟨hg g hgm, by unfold room; omega⟩
      refine ⟨fits_cons.mpr ⟨f1, fits_app.mpr ⟨fun x hx => ?_, f4⟩⟩, ?_⟩
      · obtain ⟨g, hgm, rfl⟩ := List.mem_map.mp hx
        obtain ⟨m1, m2, m3⟩ := filled_mem hgm
        rw [wordRow_len i g m1]
        have hj : (Fm.jl sz g : Int) ≤ room W i := by
          by_cases c1 : 1 < g.length
          · exact m2 c1
          · obtain ⟨w, rfl⟩ := one_of m1 c1
            have hw := m3 w (by simp)
            rw [← hfl] at hw
            obtain ⟨g', hg', hw'⟩ := List.mem_flatten.mp hw
            have h1 := (hgr g' hg').2
            have h2 := jl_mem hw'
            show ((w.length : Nat) : Int) ≤ _
            omega
        unfold room at hj
        omega
      · have := filled_best hfl hgr
        simp only [List.length_cons, List.length_append, List.length_map, List.length_nil]
        omega
  | .bundle h ps, i, lead, tail, _, .bundle (rows := rows) hne ha, hf => by
    rw [lay]
    obtain ⟨f1, f2⟩ := fits_cons.mp hf
    obtain ⟨f3, f4⟩ := fits_app.mp f2
    by_cases c : ps = [] ∨ ((flatRow (.bundle h ps) i lead tail).length : Int) ≤ W
    · rw [if_pos c]
      have c' := c.resolve_left hne
      exact ⟨fits_cons.mpr ⟨c', fits_nil⟩, by simp⟩
    · rw [if_neg c]
      obtain ⟨q1, q2⟩ := bests W ha f3
      refine ⟨fits_cons.mpr ⟨f1, fits_app.mpr ⟨q1, f4⟩⟩, ?_⟩
      simp only [List.length_cons, List.length_append, List.length_nil]
      omega
theorem bests (W : Int) : ∀ {ts : List T} {i : Nat} {rows : List Str}, Anys ts i rows → Fits W rows → Fits W (lays W ts i) ∧ (lays W ts i).length ≤ rows.length
  | [], i, _, .nil, hf => by rw [lays]; exact ⟨hf, Nat.le_refl _⟩
  | t :: r, i, _, .cons (rows := rows) (rows' := rows') h hs, hf => by
    obtain ⟨f1, f2⟩ := fits_app.mp hf
    obtain ⟨a1, a2⟩ := best W h f1
    obtain ⟨b1, b2⟩ := bests W hs f2
    rw [lays]
    exact ⟨fits_app.mpr ⟨a1, b1⟩, by rw [List.length_append, List.length_append]; omega⟩
end
/-! ### the rows by the rule are such a choice -/
mutual
theorem lay_any (W : Int) : ∀ (t : T) (i : Nat) (lead tail : Str), Any t i lead tail (lay W t i lead tail)
  | .tag w t, i, lead, tail => by rw [lay]; exact .tag (lay_any W t i _ tail)
  | .word x, i, lead, tail => by rw [lay]; exact .word
  | .run ws, i, lead, tail => by
    rw [lay]
    by_cases c : ws = [] ∨ ((flatRow (.run ws) i lead tail).length : Int) ≤ W
    · rw [if_pos c]; exact .flatR
    · rw [if_neg c]
      exact .run (fun e => c (.inl e)) (Fm.filled_flat sz _ ws) fun g hg => (filled_mem hg).1
  | .bundle h ps, i, lead, tail => by
    rw [lay]
    by_cases c : ps = [] ∨ ((flatRow (.bundle h ps) i lead tail).length : Int) ≤ W
    · rw [if_pos c]; exact .flatB
    · rw [if_neg c]
      exact .bundle (fun e => c (.inl e)) (lays_anys W ps (i + 2))
theorem lays_anys (W : Int) : ∀ (ts : List T) (i : Nat), Anys ts i (lays W ts i)
  | [], i => by rw [lays]; exact .nil
  | t :: r, i => by rw [lays]; exact .cons (lay_any W t i "" _) (lays_anys W r i)
end
mutual
theorem full_any : ∀ (t : T) (i : Nat) (lead tail : Str), Any t i lead tail (full t i lead tail)
  | .tag w t, i, lead, tail => by rw [full]; exact .tag (full_any t i _ tail)
  | .word x, i, lead, tail => by rw [full]; exact .word
  | .run ws, i, lead, tail => by
    rw [full]
    by_cases c : ws = []
    · rw [if_pos c]; exact .flatR
    · rw [if_neg c]
      have e : ws.map (fun w => wordRow i [w]) = (ws.map fun w => [w]).map (wordRow i) := by rw [List.map_map]; rfl
      rw [e]
      refine .run c ?_ ?_
      · have : ∀ l : List Str, (l.map fun w => [w]).flatten = l := by
          intro l
          induction l with
          | nil => rfl
          | cons x l ih => rw [List.map_cons, List.flatten_cons, ih]; rfl
        exact this ws
      · intro g hg
        obtain ⟨w, _, rfl⟩ := List.mem_map.mp hg
        simp
  | .bundle h ps, i, lead, tail => by
    rw [full]
    by_cases c : ps = []
    · rw [if_pos c]; exact .flatB
    · rw [if_neg c]
      exact .bundle c (fulls_anys ps (i + 2))
theorem fulls_anys : ∀ (ts : List T) (i : Nat), Anys ts i (fulls ts i)
  | [], i => by rw [fulls]; exact .nil
  | t :: r, i => by rw [fulls]; exact .cons (full_any t i "" _) (fulls_anys r i)
end
/-! ### the least width: the longest row of all broken up -/
/-- each row of a has one in b that is no shorter -/
abbrev Under (a b : List Str) : Prop := ∀ r ∈ a, ∃ q ∈ b, r.length ≤ q.length
theorem under_app {a a' b b' : List Str} (h : Under a b) (h' : Under a' b') : Under (a ++ a') (b ++ b') := fun r hr => by
  rcases List.mem_append.mp hr with z | z
  · obtain ⟨q, hq, l⟩ := h r z; exact ⟨q, List.mem_append_left _ hq, l⟩
  · obtain ⟨q, hq, l⟩ := h' r z; exact ⟨q, List.mem_append_right _ hq, l⟩
theorem under_cons {x : Str} {a b : List Str} (h : Under a b) : Under (x :: a) (x :: b) := fun r hr => by
  rcases List.mem_cons.mp hr with e | z
  · exact ⟨x, List.mem_cons_self, by rw [e]; exact Nat.le_refl _⟩
  · obtain ⟨q, hq, l⟩ := h r z; exact ⟨q, List.mem_cons_of_mem _ hq, l⟩
theorem under_self (a : List Str) : Under a a := fun r hr => ⟨r, hr, Nat.le_refl _⟩
theorem flatRow_len (t : T) (i : Nat) (lead tail : Str) : (flatRow t i lead tail).length = i + lead.length + (Th.flat t).length + tail.length := by
  rw [flatRow, Th.app_len, Th.app_len, Th.app_len, pad_len]
theorem join_mem {sep : Str} : ∀ {xs : List Str} {x : Str}, x ∈ xs → x.length ≤ (Str.join sep xs).length
  | y :: xs, x, h => by
    cases xs with
    | nil =>
      have e : x = y := by simpa using h
      rw [e]; exact Nat.le_refl _
    | cons z xs =>
      show x.length ≤ (y ++ sep ++ Str.join sep (z :: xs)).length
      rw [Th.app_len, Th.app_len]
      rcases List.mem_cons.mp h with e | h
      · rw [e]; omega
      · have := join_mem (sep := sep) h; omega
mutual
theorem full_le : ∀ (t : T) (i : Nat) (lead tail : Str), ∀ r ∈ full t i lead tail, r.length ≤ (flatRow t i lead tail).length
  | .tag w t, i, lead, tail => by
    intro r hr
    rw [full] at hr
    have := full_le t i _ tail r hr
    rw [flatRow_len] at this ⊢
    rw [Th.app_len, Th.app_len] at this
    rw [Th.flat, Th.app_len, Th.app_len]
    omega
  | .word x, i, lead, tail => by
    intro r hr
    rw [full] at hr
    have e : r = flatRow (.word x) i lead tail := by simpa using hr
    rw [e]; exact Nat.le_refl _
  | .run ws, i, lead, tail => by
    intro r hr
    rw [full] at hr
    have e1 : ("[" : Str).length = 1 := by decide
    have e2 : ("]" : Str).length = 1 := by decide
    split at hr
    · have e : r = flatRow (.run ws) i lead tail := by simpa using hr
      rw [e]; exact Nat.le_refl _
    · rw [flatRow_len, Th.flat, Th.app_len, Th.app_len]
      rcases List.mem_cons.mp hr with e | hr
      · rw [e, Th.app_len, Th.app_len, pad_len]; omega
      · rcases List.mem_append.mp hr with hr | hr
        · obtain ⟨w, hw, rfl⟩ := List.mem_map.mp hr
          have := join_mem (sep := " ") hw
          rw [wordRow_len i [w] (by simp)]
          show i + 2 + w.length ≤ _
          omega
        · have e : r = pad i ++ "]" ++ tail := by simpa using hr
          rw [e, Th.app_len, Th.app_len, pad_len]; omega
  | .bundle h ps, i, lead, tail => by
    intro r hr
    rw [full] at hr
    have e1 : ("(" : Str).length = 1 := by decide
    have e2 : (")" : Str).length = 1 := by decide
    split at hr
    · have e : r = flatRow (.bundle h ps) i lead tail := by simpa using hr
      rw [e]; exact Nat.le_refl _
    · rw [flatRow_len, Th.flat, Th.app_len, Th.app_len, Th.app_len]
      rcases List.mem_cons.mp hr with e | hr
      · rw [e, Th.app_len, Th.app_len, Th.app_len, pad_len]; omega
      · rcases List.mem_append.mp hr with hr | hr
        · have := fulls_le ps (i + 2) r hr
          omega
        · have e : r = pad i ++ ")" ++ tail := by simpa using hr
          rw [e, Th.app_len, Th.app_len, pad_len]; omega
theorem fulls_le : ∀ (ts : List T) (i : Nat), ∀ r ∈ fulls ts i, r.length ≤ i + (Str.join ", " (Th.flats ts)).length
  | [], i => by
    intro r hr
    rw [fulls] at hr
    cases hr
  | t :: rest, i => by
    intro r hr
    rw [fulls] at hr
    have e0 : ("" : Str).length = 0 := by decide
    have e1 : ("," : Str).length = 1 := by decide
    have e2 : (", " : Str).length = 2 := by decide
    rcases List.mem_append.mp hr with hr | hr
    · have h := full_le t i "" _ r hr
      rw [flatRow_len, e0] at h
      cases rest with
      | nil =>
        rw [show (if ([] : List T).isEmpty = true then ("" : Str) else ",") = "" from rfl, e0] at h
        rw [Th.flats, Th.flats]
        show r.length ≤ i + (Th.flat t).length
        omega
      | cons u rest =>
        rw [show (if (u :: rest).isEmpty = true then ("" : Str) else ",") = "," from rfl, e1] at h
        rw [Th.flats, Th.flats]
        show r.length ≤ i + (Th.flat t ++ ", " ++ Str.join ", " (Th.flat u :: Th.flats rest)).length
        rw [Th.app_len, Th.app_len, e2]
        omega
    · cases rest with
      | nil => rw [fulls] at hr; cases hr
      | cons u rest =>
        have h := fulls_le (u :: rest) i r hr
        have eu : Th.flats (u :: rest) = Th.flat u :: Th.flats rest := by rw [Th.flats]
        rw [Th.flats, eu]
        rw [eu] at h
        show r.length ≤ i + (Th.flat t ++ ", " ++ Str.join ", " (Th.flat u :: Th.flats rest)).length
        rw [Th.app_len, Th.app_len]
        omega
end
mutual
/-- no choice has all rows shorter than those of all broken up -/
theorem least : ∀ {t : T} {i : Nat} {lead tail : Str} {rows : List Str}, Any t i lead tail rows → Under (full t i lead tail) rows
  | .tag w t, i, lead, tail, rows, .tag h => by rw [full]; exact least h
  | .word x, i, lead, tail, _, .word => by rw [full]; exact under_self _
  | .run ws, i, lead, tail, _, .flatR => fun r hr => ⟨_, List.mem_singleton.mpr rfl, full_le _ _ _ _ r hr⟩
  | .bundle h ps, i, lead, tail, _, .flatB => fun r hr => ⟨_, List.mem_singleton.mpr rfl, full_le _ _ _ _ r hr⟩
  | .run ws, i, lead, tail, _, .run (gs := gs) hne hfl hg => by
    rw [full, if_neg hne]
    refine under_cons (under_app (fun r hr => ?_) (under_self _))
    obtain ⟨w, hw, rfl⟩ := List.mem_map.mp hr
    rw [← hfl] at hw
    obtain ⟨g, hgm, hwg⟩ := List.mem_flatten.mp hw
    refine ⟨wordRow i g, List.mem_map.mpr ⟨g, hgm, rfl⟩, ?_⟩
    rw [wordRow_len i g (hg g hgm), wordRow_len i [w] (by simp)]
    have := jl_mem hwg
    show i + 2 + w.length ≤ _
    omega
  | .bundle h ps, i, lead, tail, _, .bundle hne ha => by
    rw [full, if_neg hne]
    exact under_cons (under_app (leasts ha) (under_self _))
theorem leasts : ∀ {ts : List T} {i : Nat} {rows : List Str}, Anys ts i rows → Under (fulls ts i) rows
  | [], i, _, .nil => by rw [fulls]; exact under_self _
  | t :: r, i, _, .cons h hs => by rw [fulls]; exact under_app (least h) (leasts hs)
end
/-! ### beyond the width stands only what can't be broken -/
abbrev Within (W : Int) (a b : List Str) : Prop := ∀ r ∈ a, (r.length : Int) ≤ W ∨ ∃ q ∈ b, r.length ≤ q.length
theorem within_app {W : Int} {a a' b b' : List Str} (h : Within W a b) (h' : Within W a' b') : Within W (a ++ a') (b ++ b') := fun r hr => by
  rcases List.mem_append.mp hr with z | z
  · exact (h r z).imp_right fun ⟨q, hq, l⟩ => ⟨q, List.mem_append_left _ hq, l⟩
  · exact (h' r z).imp_right fun ⟨q, hq, l⟩ => ⟨q, List.mem_append_right _ hq, l⟩
theorem within_cons {W : Int} {x : Str} {a b : List Str} (h : Within W a b) : Within W (x :: a) (x :: b) := fun r hr => by
  rcases List.mem_cons.mp hr with e | z
  · exact .inr ⟨x, List.mem_cons_self, by rw [e]; exact Nat.le_refl _⟩
  · exact (h r z).imp_right fun ⟨q, hq, l⟩ => ⟨q, List.mem_cons_of_mem _ hq, l⟩
theorem within_self (W : Int) (a : List Str) : Within W a a := fun r hr => .inr ⟨r, hr, Nat.le_refl _⟩
mutual
theorem lay_within (W : Int) : ∀ (t : T) (i : Nat) (lead tail : Str), Within W (lay W t i lead tail) (full t i lead tail)
  | .tag w t, i, lead, tail => by rw [lay, full]; exact lay_within W t i _ tail
  | .word x, i, lead, tail => by rw [lay, full]; exact within_self W _
  | .run ws, i, lead, tail => by
    rw [lay, full]
    by_cases c0 : ws = []
    · rw [if_pos (.inl c0), if_pos c0]; exact within_self W _
    · by_cases c : ((flatRow (.run ws) i lead tail).length : Int) ≤ W
      · rw [if_pos (.inr c), if_neg c0]
        intro r hr
        have e : r = flatRow (.run ws) i lead tail := by simpa using hr
        rw [e]; exact .inl c
      · rw [if_neg (fun z => z.elim c0 c), if_neg c0]
        refine within_cons (within_app (fun r hr => ?_) (within_self W _))
        obtain ⟨g, hg, rfl⟩ := List.mem_map.mp hr
        obtain ⟨m1, m2, m3⟩ := filled_mem hg
        by_cases c1 : 1 < g.length
        · refine .inl ?_
          have := m2 c1
          unfold room at this
          rw [wordRow_len i g m1]
          omega
        · obtain ⟨w, rfl⟩ := one_of m1 c1
          exact .inr ⟨wordRow i [w], List.mem_map.mpr ⟨w, m3 w (by simp), rfl⟩, Nat.le_refl _⟩
  | .bundle h ps, i, lead, tail => by
    rw [lay, full]
    by_cases c0 : ps = []
    · rw [if_pos (.inl c0), if_pos c0]; exact within_self W _
    · by_cases c : ((flatRow (.bundle h ps) i lead tail).length : Int) ≤ W
      · rw [if_pos (.inr c), if_neg c0]
        intro r hr
        have e : r = flatRow (.bundle h ps) i lead tail := by simpa using hr
        rw [e]; exact .inl c
      · rw [if_neg (fun z => z.elim c0 c), if_neg c0]
        exact within_cons (within_app (lays_within W ps (i + 2)) (within_self W _))
theorem lays_within (W : Int) : ∀ (ts : List T) (i : Nat), Within W (lays W ts i) (fulls ts i)
  | [], i => by rw [lays, fulls]; exact within_self W _
  | t :: r, i => by rw [lays, fulls]; exact within_app (lay_within W t i "" _) (lays_within W r i)
end
/-! ### point 12: no more rows at a greater width -/
mutual
theorem higher {W W' : Int} (hW : W ≤ W') : ∀ (t : T) (i : Nat) (lead tail : Str), (lay W' t i lead tail).length ≤ (lay W t i lead tail).length
  | .tag w t, i, lead, tail => by rw [lay, lay]; exact higher hW t i _ tail
  | .word x, i, lead, tail => by rw [lay, lay]; exact Nat.le_refl _
  | .run ws, i, lead, tail => by
    rw [lay, lay]
    by_cases c' : ws = [] ∨ ((flatRow (.run ws) i lead tail).length : Int) ≤ W'
    · rw [if_pos c']
      split <;> simp
    · have c : ¬ (ws = [] ∨ ((flatRow (.run ws) i lead tail).length : Int) ≤ W) := fun z => c' (z.imp_right fun q => by omega)
      rw [if_neg c', if_neg c]
      have := Fm.wider sz (show room W i ≤ room W' i by unfold room; omega) ws
      simp only [List.length_cons, List.length_append, List.length_map, List.length_nil]
      omega
  | .bundle h ps, i, lead, tail => by
    rw [lay, lay]
    by_cases c' : ps = [] ∨ ((flatRow (.bundle h ps) i lead tail).length : Int) ≤ W'
    · rw [if_pos c']
      split <;> simp
    · have c : ¬ (ps = [] ∨ ((flatRow (.bundle h ps) i lead tail).length : Int) ≤ W) := fun z => c' (z.imp_right fun q => by omega)
      rw [if_neg c', if_neg c]
      have := highers hW ps (i + 2)
      simp only [List.length_cons, List.length_append, List.length_nil]
      omega
theorem highers {W W' : Int} (hW : W ≤ W') : ∀ (ts : List T) (i : Nat), (lays W' ts i).length ≤ (lays W ts i).length
  | [], i => by rw [lays, lays]; exact Nat.le_refl _
  | t :: r, i => by
    rw [lays, lays, List.length_append, List.length_append]
    have := higher hW t i "" (if r.isEmpty then "" else ",")
    have := highers hW r i
    omega
end
/-! ### a stack of things to be laid, told from its top -/
structure It where
  t : T
  i : Nat
  lead : Str
  tail : Str
def layI (W : Int) : List It → List Str
  | [] => []
  | x :: r => lay W x.t x.i x.lead x.tail ++ layI W r
def fullI : List It → List Str
  | [] => []
  | x :: r => full x.t x.i x.lead x.tail ++ fullI r
inductive AnyI : List It → List Str → Prop
  | nil : AnyI [] []
  | cons {x : It} {r : List It} {rows more : List Str} : Any x.t x.i x.lead x.tail rows → AnyI r more → AnyI (x :: r) (rows ++ more)
def partsI : List T → Nat → List It
  | [], _ => []
  | t :: r, i => ⟨t, i, "", if r.isEmpty then "" else ","⟩ :: partsI r i
theorem layI_app (W : Int) : ∀ a b : List It, layI W (a ++ b) = layI W a ++ layI W b
  | [], _ => rfl
  | x :: a, b => by rw [List.cons_append, layI, layI, layI_app W a b, List.append_assoc]
theorem fullI_app : ∀ a b : List It, fullI (a ++ b) = fullI a ++ fullI b
  | [], _ => rfl
  | x :: a, b => by rw [List.cons_append, fullI, fullI, fullI_app a b, List.append_assoc]
theorem layI_parts (W : Int) : ∀ (ps : List T) (i : Nat), layI W (partsI ps i) = lays W ps i
  | [], i => by rw [partsI, lays]; rfl
  | t :: r, i => by rw [partsI, lays, layI, layI_parts W r i]
theorem fullI_parts : ∀ (ps : List T) (i : Nat), fullI (partsI ps i) = fulls ps i
  | [], i => by rw [partsI, fulls]; rfl
  | t :: r, i => by rw [partsI, fulls, fullI, fullI_parts r i]
theorem anyI_parts {its : List It} : ∀ (ps : List T) (i : Nat) {more : List Str}, AnyI (partsI ps i ++ its) more → ∃ rows more', more = rows ++ more' ∧ Anys ps i rows ∧ AnyI its more'
  | [], i, more, h => ⟨[], more, rfl, .nil, h⟩
  | t :: r, i, more, h => by
    rw [partsI, List.cons_append] at h
    cases h with
    | cons h1 h2 =>
      obtain ⟨rows', more', rfl, h3, h4⟩ := anyI_parts r i h2
      exact ⟨_, more', by rw [List.append_assoc], .cons h1 h3, h4⟩
def lastI (x : Str) : It := ⟨.word x, 0, "", ""⟩
theorem last_row (x : Str) : flatRow (.word x) 0 "" "" = x := by
  rw [flatRow, Th.flat, Th.app_nil]
  show (⟨#[] ++ #[] ++ x.cps⟩ : Str) = x
  simp
theorem any_word {x : Str} {i : Nat} {lead tail : Str} {rows : List Str} (h : Any (.word x) i lead tail rows) : rows = [flatRow (.word x) i lead tail] := by cases h; rfl
mutual
/-- how often the stack is turned; how many rows at most -/
def wt : T → Nat
  | .word _ => 1
  | .run _ => 1
  | .tag _ t => wt t + 1
  | .bundle _ ps => wts ps + 2
def wts : List T → Nat
  | [] => 0
  | t :: r => wt t + wts r
end
mutual
def cap : T → Nat
  | .word _ => 1
  | .run ws => ws.length + 2
  | .tag _ t => cap t
  | .bundle _ ps => caps ps + 2
def caps : List T → Nat
  | [] => 0
  | t :: r => cap t + caps r
end
def wtI : List It → Nat
  | [] => 0
  | x :: r => wt x.t + wtI r
def capI : List It → Nat
  | [] => 0
  | x :: r => cap x.t + capI r
theorem wtI_app : ∀ a b : List It, wtI (a ++ b) = wtI a + wtI b
  | [], b => by rw [List.nil_append, wtI]; omega
  | x :: a, b => by rw [List.cons_append, wtI, wtI, wtI_app a b]; omega
theorem capI_app : ∀ a b : List It, capI (a ++ b) = capI a + capI b
  | [], b => by rw [List.nil_append, capI]; omega
  | x :: a, b => by rw [List.cons_append, capI, capI, capI_app a b]; omega
theorem wtI_parts : ∀ (ps : List T) (i : Nat), wtI (partsI ps i) = wts ps
  | [], i => by rw [partsI, wtI, wts]
  | t :: r, i => by rw [partsI, wtI, wts, wtI_parts r i]
theorem capI_parts : ∀ (ps : List T) (i : Nat), capI (partsI ps i) = caps ps
  | [], i => by rw [partsI, capI, caps]
  | t :: r, i => by rw [partsI, capI, caps, capI_parts r i]
theorem wt_pos : ∀ t : T, 1 ≤ wt t
  | .word _ => by rw [wt]; omega
  | .run _ => by rw [wt]; omega
  | .tag _ _ => by rw [wt]; omega
  | .bundle _ _ => by rw [wt]; omega
theorem cap_pos : ∀ t : T, 1 ≤ cap t
  | .word _ => by rw [cap]; omega
  | .run _ => by rw [cap]; omega
  | .tag _ t => by rw [cap]; exact cap_pos t
  | .bundle _ _ => by rw [cap]; omega
theorem len_wtI : ∀ l : List It, l.length ≤ wtI l
  | [] => Nat.le_refl _
  | x :: r => by rw [wtI, List.length_cons]; have := wt_pos x.t; have := len_wtI r; omega
mutual
theorem wt_le : ∀ t : T, wt t ≤ Th.size t
  | .word x => by rw [wt, Th.size]; omega
  | .run ws => by rw [wt, Th.size]; omega
  | .tag w t => by rw [wt, Th.size]; have := wt_le t; omega
  | .bundle h ps => by rw [wt, Th.size]; have := wts_le ps; omega
theorem wts_le : ∀ ts : List T, wts ts ≤ Th.sizes ts
  | [] => by rw [wts, Th.sizes]; omega
  | t :: r => by rw [wts, Th.sizes]; have := wt_le t; have := wts_le r; omega
end
theorem run_words : ∀ l : List Str, l.length ≤ (l.map fun x => x.length + 1).sum
  | [] => Nat.le_refl _
  | x :: l => by simp only [List.map_cons, List.sum_cons, List.length_cons]; have := run_words l; omega
mutual
theorem cap_le : ∀ t : T, cap t ≤ Th.size t
  | .word x => by rw [cap, Th.size]; omega
  | .run ws => by rw [cap, Th.size]; have := run_words ws; omega
  | .tag w t => by rw [cap, Th.size]; have := cap_le t; omega
  | .bundle h ps => by rw [cap, Th.size]; have := caps_le ps; omega
theorem caps_le : ∀ ts : List T, caps ts ≤ Th.sizes ts
  | [] => by rw [caps, Th.sizes]; omega
  | t :: r => by rw [caps, Th.sizes]; have := cap_le t; have := caps_le r; omega
end
/-- no row of a part is longer than the flat row of the whole -/
theorem parts_flat : ∀ (ps : List T) (i : Nat), ∀ x ∈ partsI ps i, (flatRow x.t x.i x.lead x.tail).length ≤ i + (Str.join ", " (Th.flats ps)).length
  | [], i, x, h => by cases h
  | t :: r, i, x, h => by
    have e0 : ("" : Str).length = 0 := by decide
    have e1 : ("," : Str).length = 1 := by decide
    have e2 : (", " : Str).length = 2 := by decide
    rw [partsI] at h
    rcases List.mem_cons.mp h with e | h
    · subst e
      rw [flatRow_len, e0]
      cases r with
      | nil =>
        rw [Th.flats, Th.flats]
        show i + 0 + (Th.flat t).length + ("" : Str).length ≤ i + (Th.flat t).length
        omega
      | cons u r =>
        rw [Th.flats, Th.flats]
        show i + 0 + (Th.flat t).length + ("," : Str).length ≤ i + (Th.flat t ++ ", " ++ Str.join ", " (Th.flat u :: Th.flats r)).length
        rw [Th.app_len, Th.app_len]
        omega
    · cases r with
      | nil => cases h
      | cons u r =>
        have := parts_flat (u :: r) i x h
        have eu : Th.flats (u :: r) = Th.flat u :: Th.flats r := by rw [Th.flats]
        rw [Th.flats, eu]
        rw [eu] at this
        show _ ≤ i + (Th.flat t ++ ", " ++ Str.join ", " (Th.flat u :: Th.flats r)).length
        rw [Th.app_len, Th.app_len]
        omega
theorem parts_size : ∀ (ps : List T) (i : Nat), ∀ x ∈ partsI ps i, Th.size x.t ≤ Th.sizes ps
  | [], i, x, h => by cases h
  | t :: r, i, x, h => by
    rw [partsI] at h
    rw [Th.sizes]
    rcases List.mem_cons.mp h with e | h
    · subst e; dsimp only; omega
    · have := parts_size r i x h; omega
theorem partsI_len : ∀ (ps : List T) (i : Nat), (partsI ps i).length = ps.length
  | [], _ => rfl
  | t :: r, i => by rw [partsI, List.length_cons, List.length_cons, partsI_len r i]
theorem partsI_get : ∀ (ps : List T) (i k : Nat) (t : T), ps[k]? = some t → (partsI ps i)[k]? = some ⟨t, i, "", if k + 1 = ps.length then "" else ","⟩
  | [], _, _, _, h => by simp at h
  | u :: r, i, 0, t, h => by
    have e : u = t := by simpa using h
    subst e
    rw [partsI]
    cases r with
    | nil => rfl
    | cons v r => simp
  | u :: r, i, k + 1, t, h => by
    have := partsI_get r i k t (by simpa using h)
    rw [partsI, List.getElem?_cons_succ, this]
    simp
/-! ### the longest row -/
def longest : List Str → Nat
  | [] => 0
  | x :: r => max x.length (longest r)
theorem longest_ge : ∀ {rows : List Str} {x : Str}, x ∈ rows → x.length ≤ longest rows
  | y :: r, x, h => by
    rw [longest]
    rcases List.mem_cons.mp h with e | h
    · rw [e]; omega
    · have := longest_ge h; omega
theorem longest_mem : ∀ {rows : List Str}, rows ≠ [] → ∃ x ∈ rows, x.length = longest rows
  | [], h => absurd rfl h
  | [x], _ => ⟨x, by simp, by rw [longest, longest]; omega⟩
  | x :: y :: r, _ => by
    obtain ⟨z, hz, e⟩ := longest_mem (rows := y :: r) (by simp)
    have el : longest (x :: y :: r) = max x.length (longest (y :: r)) := by rw [longest]
    by_cases c : x.length ≤ longest (y :: r)
    · exact ⟨z, List.mem_cons_of_mem _ hz, by omega⟩
    · exact ⟨x, List.mem_cons_self, by omega⟩
theorem longest_is {rows : List Str} {M : Int} (h1 : ∃ x ∈ rows, M = (x.length : Int)) (h2 : ∀ x ∈ rows, (x.length : Int) ≤ M) : M = (longest rows : Int) := by
  obtain ⟨x, hx, e⟩ := h1
  have a := longest_ge hx
  obtain ⟨y, hy, e2⟩ := longest_mem (rows := rows) (by intro z; rw [z] at hx; cases hx)
  have b := h2 y hy
  omega
def leastW (t : T) : Nat := longest (full t 0 "" "")
theorem any_ne : ∀ {t : T} {i : Nat} {lead tail : Str} {rows : List Str}, Any t i lead tail rows → rows ≠ []
  | .word x, i, lead, tail, _, .word => by simp
  | .bundle hd ps, i, lead, tail, _, .flatB => by simp
  | .bundle hd ps, i, lead, tail, _, .bundle _ _ => by simp
  | .run ws, i, lead, tail, _, .flatR => by simp
  | .run ws, i, lead, tail, _, .run _ _ _ => by simp
  | .tag w t, i, lead, tail, _, .tag h => any_ne h
theorem leastW_le {t : T} {rows : List Str} (h : Any t 0 "" "" rows) : leastW t ≤ longest rows := by
  obtain ⟨x, hx, e⟩ := longest_mem (any_ne (full_any t 0 "" ""))
  obtain ⟨q, hq, l⟩ := least h x hx
  have := longest_ge hq
  unfold leastW
  omega
end Ly


set_option Elab.async false
set_option autoImplicit false
set_option linter.all false
namespace Ly
open PySem
open Th (T)
/-! the narrowest width for a count of rows -/
theorem flat_any : ∀ (t : T) (i : Nat) (lead tail : Str), Any t i lead tail [flatRow t i lead tail]
  | .tag w t, i, lead, tail => by
    have h := flat_any t i (lead ++ w ++ ": ") tail
    have e : flatRow t i (lead ++ w ++ ": ") tail = flatRow (.tag w t) i lead tail := by
      rw [flatRow, flatRow, Th.flat]
      simp only [Th.app_assoc]
    rw [e] at h
    exact .tag h
  | .word x, i, lead, tail => .word
  | .run ws, i, lead, tail => .flatR
  | .bundle h ps, i, lead, tail => .flatB
abbrev rows0 (W : Int) (t : T) : List Str := lay W t 0 "" ""
def Do (t : T) (most W : Int) : Prop := ((rows0 W t).length : Int) ≤ most ∧ (longest (rows0 W t) : Int) ≤ W
theorem fits_of {W : Int} {rows : List Str} (h : (longest rows : Int) ≤ W) : Fits W rows := fun r hr => by have := longest_ge hr; omega
theorem of_fits {W : Int} {rows : List Str} (hne : rows ≠ []) (h : Fits W rows) : (longest rows : Int) ≤ W := by
  obtain ⟨x, hx, e⟩ := longest_mem hne
  have := h x hx
  omega
theorem do_mono {t : T} {m W W' : Int} (h : W ≤ W') (d : Do t m W) : Do t m W' := by
  obtain ⟨d1, d2⟩ := d
  have hi := higher h t 0 "" ""
  refine ⟨by show ((lay W' t 0 "" "").length : Int) ≤ m; have : ((lay W t 0 "" "").length : Int) ≤ m := d1; omega, ?_⟩
  have f : Fits W' (lay W t 0 "" "") := fun r hr => by have := fits_of d2 r hr; omega
  exact of_fits (lays_pos W' t 0 "" "") (best W' (lay_any W t 0 "" "") f).1
theorem do_flat {t : T} {m : Int} (h : 1 ≤ m) : Do t m ((Th.flat t).length : Int) := by
  have e0 : ("" : Str).length = 0 := by decide
  have f : Fits ((Th.flat t).length : Int) [flatRow t 0 "" ""] := fits_cons.mpr ⟨by rw [flatRow_len, e0]; omega, fits_nil⟩
  have b := best _ (flat_any t 0 "" "") f
  refine ⟨?_, of_fits (lays_pos _ t 0 "" "") b.1⟩
  have b2 := b.2
  rw [List.length_singleton] at b2
  show ((lay _ t 0 "" "").length : Int) ≤ m
  omega
/-! how often the stack is turned where a run leaves its end behind -/
mutual
def wq : T → Nat
  | .word _ => 1
  | .run _ => 2
  | .tag _ t => wq t + 1
  | .bundle _ ps => wqs ps + 2
def wqs : List T → Nat
  | [] => 0
  | t :: r => wq t + wqs r
end
def wqI : List It → Nat
  | [] => 0
  | x :: r => wq x.t + wqI r
mutual
theorem wq_le : ∀ t : T, wq t ≤ Th.size t
  | .word x => by rw [wq, Th.size]; omega
  | .run ws => by rw [wq, Th.size]; omega
  | .tag w t => by rw [wq, Th.size]; have := wq_le t; omega
  | .bundle h ps => by rw [wq, Th.size]; have := wqs_le ps; omega
theorem wqs_le : ∀ ts : List T, wqs ts ≤ Th.sizes ts
  | [] => by rw [wqs, Th.sizes]; omega
  | t :: r => by rw [wqs, Th.sizes]; have := wq_le t; have := wqs_le r; omega
end
end Ly


set_option Elab.async false
set_option autoImplicit false
set_option linter.all false
namespace Nb
open PySem
open Th (T)
open Ly (pad flatRow wordRow Any Anys)
/-- the signs of a text but for blanks -/
def nb (x : Str) : List Nat := x.cps.toList.filter (· != 32)
theorem nb_app (a b : Str) : nb (a ++ b) = nb a ++ nb b := by
  unfold nb
  show List.filter _ (a.cps ++ b.cps).toList = _
  rw [Array.toList_append, List.filter_append]
theorem nb_pad (n : Nat) : nb (pad n) = [] := by
  unfold nb pad
  rw [Array.toList_replicate, List.filter_replicate]
  rfl
theorem nb_0 : nb "" = [] := by decide +kernel
theorem nb_1 : nb " " = [] := by decide +kernel
theorem nb_2 : nb "  " = [] := by decide +kernel
theorem nb_c : nb "," = nb ", " := by decide +kernel
abbrev nbs (rows : List Str) : List Nat := rows.flatMap nb
theorem nb_join (sep : Str) (h : nb sep = []) : ∀ ws : List Str, nb (Str.join sep ws) = nbs ws
  | [] => nb_0
  | [x] => by
    show nb x = nb x ++ []
    rw [List.append_nil]
  | x :: y :: r => by
    show nb (x ++ sep ++ Str.join sep (y :: r)) = nb x ++ nbs (y :: r)
    rw [nb_app, nb_app, h, List.append_nil, nb_join sep h (y :: r)]
theorem nbs_app (a b : List Str) : nbs (a ++ b) = nbs a ++ nbs b := List.flatMap_append
theorem nbs_cons (x : Str) (a : List Str) : nbs (x :: a) = nb x ++ nbs a := List.flatMap_cons
theorem nbs_one (x : Str) : nbs [x] = nb x := by rw [nbs_cons]; exact List.append_nil _
theorem nbs_words (i : Nat) : ∀ gs : List (List Str), nbs (gs.map (wordRow i)) = nbs gs.flatten
  | [] => rfl
  | g :: r => by
    rw [List.map_cons, nbs_cons, nbs_words i r, List.flatten_cons, nbs_app, wordRow, nb_app, nb_app, nb_pad, nb_2, nb_join " " nb_1]
    rfl
mutual
theorem any_nb : ∀ {t : T} {i : Nat} {lead tail : Str} {rows : List Str}, Any t i lead tail rows → nbs rows = nb lead ++ nb (Th.flat t) ++ nb tail
  | .word x, i, lead, tail, _, .word => by rw [nbs_one, flatRow, nb_app, nb_app, nb_app, nb_pad, List.nil_append]
  | .bundle hd ps, i, lead, tail, _, .flatB => by rw [nbs_one, flatRow, nb_app, nb_app, nb_app, nb_pad, List.nil_append]
  | .run ws, i, lead, tail, _, .flatR => by rw [nbs_one, flatRow, nb_app, nb_app, nb_app, nb_pad, List.nil_append]
  | .bundle hd ps, i, lead, tail, _, .bundle _ h => by
    rw [nbs_cons, nbs_app, nbs_one, anys_nb h, Th.flat]
    simp only [nb_app, nb_pad, List.nil_append, List.append_assoc]
  | .run ws, i, lead, tail, _, .run (gs := gs) _ hf hg => by
    rw [nbs_cons, nbs_app, nbs_one, nbs_words, hf, Th.flat]
    simp only [nb_app, nb_pad, List.nil_append, List.append_assoc, nb_join " " nb_1]
  | .tag w t, i, lead, tail, _, .tag h => by
    rw [any_nb h, Th.flat]
    simp only [nb_app, List.append_assoc]
theorem anys_nb : ∀ {ts : List T} {i : Nat} {rows : List Str}, Anys ts i rows → nbs rows = nb (Str.join ", " (Th.flats ts))
  | [], i, _, .nil => by rw [Th.flats]; exact nb_0.symm
  | t :: r, i, _, .cons h hs => by
    rw [nbs_app, any_nb h, anys_nb hs, nb_0, List.nil_append, Th.flats]
    cases r with
    | nil =>
      rw [Th.flats]
      show nb (Th.flat t) ++ nb "" ++ nb "" = nb (Th.flat t)
      rw [nb_0, List.append_nil, List.append_nil]
    | cons u r =>
      rw [Th.flats]
      show nb (Th.flat t) ++ nb "," ++ _ = nb (Th.flat t ++ ", " ++ Str.join ", " (Th.flat u :: Th.flats r))
      rw [nb_app, nb_app, nb_c]
end
/-! ### how many signs all rows have -/
def tot (rows : List Str) : Nat := (rows.map (·.length)).sum
theorem tot_app (a b : List Str) : tot (a ++ b) = tot a + tot b := by unfold tot; rw [List.map_append, List.sum_append]
theorem tot_cons (x : Str) (a : List Str) : tot (x :: a) = x.length + tot a := by unfold tot; rw [List.map_cons, List.sum_cons]
theorem tot_nil : tot [] = 0 := rfl
theorem jl_app (a b : List Str) (ha : a ≠ []) : Fm.jl Ly.sz a + Fm.jl Ly.sz b ≤ Fm.jl Ly.sz (a ++ b) := by
  induction a with
  | nil => exact absurd rfl ha
  | cons x a ih =>
    cases a with
    | nil =>
      cases b with
      | nil => exact Nat.le_refl _
      | cons y b => show x.length + _ ≤ x.length + 1 + Fm.jl Ly.sz (y :: b); omega
    | cons y a =>
      have := ih (by simp)
      show x.length + 1 + Fm.jl Ly.sz (y :: a) + _ ≤ x.length + 1 + Fm.jl Ly.sz (y :: a ++ b)
      omega
theorem tot_words (i : Nat) : ∀ gs : List (List Str), (∀ g ∈ gs, g ≠ []) → tot (gs.map (wordRow i)) ≤ gs.length * (i + 2) + Fm.jl Ly.sz gs.flatten
  | [], _ => by simp [tot]
  | g :: r, h => by
    have h1 := h g List.mem_cons_self
    have h2 := tot_words i r fun g' hg => h g' (List.mem_cons_of_mem _ hg)
    rw [List.map_cons, tot_cons, Ly.wordRow_len i g h1, List.flatten_cons, List.length_cons, Nat.succ_mul]
    have := jl_app g r.flatten h1
    omega
mutual
theorem any_tot (d : Nat) : ∀ {t : T} {i : Nat} {lead tail : Str} {rows : List Str}, Any t i lead tail rows → i + 2 * Th.deep t + 2 ≤ d → tot rows ≤ rows.length * d + lead.length + (Th.flat t).length + tail.length
  | .word x, i, lead, tail, _, .word, hd => by
    rw [tot_cons, tot_nil, Ly.flatRow_len, List.length_cons, List.length_nil]; omega
  | .bundle hd ps, i, lead, tail, _, .flatB, hd' => by
    rw [tot_cons, tot_nil, Ly.flatRow_len, List.length_cons, List.length_nil]; omega
  | .run ws, i, lead, tail, _, .flatR, hd => by
    rw [tot_cons, tot_nil, Ly.flatRow_len, List.length_cons, List.length_nil]; omega
  | .bundle hd ps, i, lead, tail, _, .bundle (rows := rows) _ h, hdd => by
    have e1 : ("(" : Str).length = 1 := by decide
    have e2 : (")" : Str).length = 1 := by decide
    have q := anys_tot d h (by rw [Th.deep] at hdd; omega)
    rw [tot_cons, tot_app, tot_cons, tot_nil, Th.flat, List.length_cons, List.length_append, List.length_cons, List.length_nil]
    simp only [Th.app_len, Ly.pad_len]
    have e : (rows.length + (0 + 1) + 1) * d = rows.length * d + 2 * d := by rw [Nat.add_assoc, Nat.add_mul]
    rw [e]
    omega
  | .run ws, i, lead, tail, _, .run (gs := gs) _ hf hg, hdd => by
    have e1 : ("[" : Str).length = 1 := by decide
    have e2 : ("]" : Str).length = 1 := by decide
    have q := tot_words i gs hg
    rw [hf] at q
    have hj : Fm.jl Ly.sz ws = (Str.join " " ws).length := by
      have key : ∀ g : List Str, (Str.join " " g).length = Fm.jl Ly.sz g := by
        intro g
        induction g with
        | nil => rfl
        | cons x g ih =>
          cases g with
          | nil => rfl
          | cons y g =>
            show (x ++ " " ++ Str.join " " (y :: g)).length = x.length + 1 + Fm.jl Ly.sz (y :: g)
            rw [Th.app_len, Th.app_len, ih]
            rfl
      exact (key ws).symm
    rw [tot_cons, tot_app, tot_cons, tot_nil, Th.flat, List.length_cons, List.length_append, List.length_cons, List.length_nil, List.length_map]
    simp only [Th.app_len, Ly.pad_len]
    have e : (gs.length + (0 + 1) + 1) * d = gs.length * d + 2 * d := by rw [Nat.add_assoc, Nat.add_mul]
    have h3 : gs.length * (i + 2) ≤ gs.length * d := Nat.mul_le_mul_left _ (by omega)
    rw [e]
    omega
  | .tag w t, i, lead, tail, _, .tag h, hdd => by
    have q := any_tot d h (by rw [Th.deep] at hdd; omega)
    rw [Th.app_len, Th.app_len] at q
    rw [Th.flat, Th.app_len, Th.app_len]
    omega
theorem anys_tot (d : Nat) : ∀ {ts : List T} {i : Nat} {rows : List Str}, Anys ts i rows → i + 2 * Th.deeps ts + 2 ≤ d → tot rows ≤ rows.length * d + (Str.join ", " (Th.flats ts)).length
  | [], i, _, .nil, _ => by rw [tot_nil]; exact Nat.zero_le _
  | t :: r, i, _, .cons (rows := rows) (rows' := rows') h hs, hdd => by
    have e0 : ("" : Str).length = 0 := by decide
    have e1 : ("," : Str).length = 1 := by decide
    have e2 : (", " : Str).length = 2 := by decide
    rw [Th.deeps] at hdd
    have q1 := any_tot d h (by omega)
    have q2 := anys_tot d hs (by omega)
    rw [tot_app, List.length_append, Nat.add_mul]
    cases r with
    | nil =>
      rw [show (if ([] : List T).isEmpty = true then ("" : Str) else ",") = "" from rfl, e0] at q1
      rw [Th.flats] at q2
      rw [Th.flats, Th.flats]
      have q2' : tot rows' ≤ rows'.length * d := q2
      show _ ≤ _ + (Th.flat t).length
      omega
    | cons u r =>
      rw [show (if (u :: r).isEmpty = true then ("" : Str) else ",") = "," from rfl, e0, e1] at q1
      rw [Th.flats] at q2
      rw [Th.flats, Th.flats]
      show _ ≤ _ + (Th.flat t ++ ", " ++ Str.join ", " (Th.flat u :: Th.flats r)).length
      rw [Th.app_len, Th.app_len, e2]
      omega
end
end Nb


set_option Elab.async false
set_option linter.all false
set_option maxRecDepth 100000
namespace L2
open PySem PySem.Spec PyProof.Rows
theorem blanks (n : Nat) : Txt.mul " " (n : Int) = Ly.pad n := by
  have key : ∀ (k : Nat) (acc : Array Nat), (List.replicate k (#[32] : Array Nat)).foldl (· ++ ·) acc = acc ++ Array.replicate k 32 := by
    intro k
    induction k with
    | zero => intro acc; simp
    | succ k ih =>
      intro acc
      rw [List.replicate_succ, List.foldl_cons, ih, Array.append_assoc]
      congr 1
      apply Array.ext'
      simp [List.replicate_succ]
  have e32 : (" " : Str) = ⟨#[32]⟩ := by decide +kernel
  unfold Txt.mul
  rw [e32]
  by_cases h0 : n = 0
  · subst h0; rfl
  · rw [if_neg (by omega)]
    by_cases h1 : n = 1
    · subst h1
      rfl
    · rw [if_neg (by
        intro z
        rw [Bool.or_eq_true] at z
        rcases z with z | z
        · have : (n : Int) = 1 := by simpa using z
          omega
        · exact absurd z (by decide))]
      show (⟨(List.replicate n #[32]).foldl (· ++ ·) #[]⟩ : Str) = _
      rw [key]
      simp [Ly.pad]
theorem boot_max' : bootBuiltins "max" = some (.builtin "max") := by decide +kernel
section
variable {X : Cx}
/-- " " * n -/
def rBlank : R2 := fun x y H Q => ∃ n : Nat, x = .str " " ∧ y = .int n ∧ n ≤ 10000000 ∧ Q (.str (Ly.pad n)) H
theorem op_blank : OpR X (binaryOp .Mult) rBlank := by
  intro pins s σ H x y v u Q I rx ry h
  obtain ⟨n, rfl, rfl, hn, q⟩ := h
  obtain ⟨t, rfl⟩ := rx
  obtain ⟨t', rfl⟩ := ry
  have el : (" " : Str).length = 1 := by decide
  refine SB.mul ⟨?_, ?_, ?_⟩ fun t'' k => ⟨.str (Ly.pad n), H, I.tok k, ⟨t'', by rw [blanks]⟩, q⟩
  · rw [Bool.or_eq_false_iff]
    exact ⟨decide_eq_false (by omega), decide_eq_false (by omega)⟩
  · intro h1 _
    rw [el]
    have : (2 ^ 63 - 1 : Int) / (n : Int) ≥ 1 := by
      apply Int.le_ediv_of_mul_le (by omega)
      omega
    omega
  · intro _ _
    rw [el]
    unfold Builtin.Str.tooLong
    simp
    show (n : Nat) ≤ 16777216
    omega
/-- max of a list of ints -/
theorem call_max_list (hc : X.calm = true) : CallR X (.builtin "max") (fun xs H Q => ∃ p ns, xs = [.ref p] ∧ SqL X.K H p (ns.map V.int) ∧ ns ≠ [] ∧ ∀ M : Int, M ∈ ns → (∀ a ∈ ns, a ≤ M) → Q (.int M) H) := by
  intro pins s σ H xs us Q I r h
  obtain ⟨p, ns, rfl, hS, hne, q⟩ := h
  obtain ⟨u, rfl, ru⟩ := r.one
  cases ru
  obtain ⟨its, rv, pl, _⟩ := I.list hS
  have are := intsAre_of rv
  obtain ⟨ys, ey⟩ := are.allInts.items
  have eno : ns = ys.toList.map (·.1) := (are.numsOf).symm.trans ((congrArg (fun l => numsOf l.toList) ey).trans (nums_intItems ys))
  have pos : 0 < ys.size := by
    have p3 := List.length_pos_iff.mpr hne
    simpa [eno] using p3
  have at_l := pl.isList
  rw [ey] at at_l
  refine max_intList (I.ok.hd hc) at_l pos fun big h2 tk2 found kept => ?_
  obtain ⟨tb, rfl⟩ := intItems_at found
  have gt := argBest_gt (numAt ys) (ys.size - 1)
  refine ⟨.int _, H, I.kept kept, ⟨tb, rfl⟩, q _ ?_ fun c hcm => ?_⟩
  · rw [eno, numAt_eq]
    exact getD_mem (by simp only [List.length_map, Array.length_toList]; omega)
  · rw [eno] at hcm
    obtain ⟨k, hk, rfl⟩ := mem_getD hcm
    simp only [List.length_map, Array.length_toList] at hk
    rw [← numAt_eq]
    exact gt.2 k (by omega)
end
end L2


set_option Elab.async false
set_option linter.all false
set_option maxRecDepth 100000
namespace L2
open PySem PySem.Spec PyProof.Rows
open Sem (wp)
/-! ### tokens only grow -/
/-! ### readings that know of a token -/
/-- after a token was made -/
def PEp (X : Cx) (e : Expr) (t : TE) : Prop := ∀ (pins : List (Addr × Obj)) (s : Shared) (σ : St) (H : Hp) (Q : VK), Inv X pins σ H s → 0 < s.toks → t σ H Q → wpAny (model X.prog X.w) X.A (eval e X.env) (EP X pins σ Q) X.xe s
/-- makes a token -/
def PEk (X : Cx) (e : Expr) (t : TE) : Prop := ∀ (pins : List (Addr × Obj)) (s : Shared) (σ : St) (H : Hp) (Q : VK), Inv X pins σ H s → t σ H Q → wpAny (model X.prog X.w) X.A (eval e X.env) (fun v s' => EP X pins σ Q v s' ∧ 0 < s'.toks) X.xe s
section
variable {X : Cx} {a b o e : Expr} {es : List Expr} {ta tb to : TE} {t : TA} {pos : Pos} {name : Str} {apos cpos : Pos} {T id : String} {r : V → List V → Hp → VK → Prop}
/-- o.replace(c, "") -/
def tStrike (c : Nat) (to : TE) : TE := fun σ H Q => to σ H fun x H1 => ∃ z, x = .str z ∧ z.length ≤ 16777216 ∧ ∀ z' : Str, z'.cps.toList = z.cps.toList.filter (· != c) → Q (.str z') H1
end
end L2


set_option Elab.async false
set_option linter.all false
set_option maxRecDepth 100000
namespace L2
open PySem PySem.Spec PyProof.Rows
/-- the signs of a text, one after another -/
def Its (x : Str) : It := ⟨fun i _ => i < x.cps.size, fun i H v H' => H' = H ∧ ∃ c, x.cps[i]? = some c ∧ v = .str ⟨#[c]⟩, fun i _ => x.cps.size ≤ i⟩
section
variable {X : Cx} {tg : Expr}
def iStr (tl : TE) : TI := fun σ H R => tl σ H fun v H1 => ∃ x, v = .str x ∧ R (Its x) H1
end
end L2


set_option Elab.async false
set_option linter.all false
set_option maxRecDepth 100000
/-! a loop over enumerate(list, start=1) -/
namespace L8
open PySem PySem.Spec PyProof.Rows
section
variable {prog : Program} {w : World} {A : Around} {E : Value → Shared → Prop} {s : Shared}
theorem new_from1 (l : Addr) (its : Array Value) (n : Nat) (t : Tok) (od : Option Addr) (osl : Array (Option Value)) :
    Meets (Builtin.«enumerate.__new__» ⟨[.type "enumerate", .ref l], [("start", .int 1 t)]⟩) (fun _ R s => s.heap.get? l = some ⟨.type "list", od, .seq its n, osl⟩ ∧
      R (.ok (.ret (.ref (s.heap.push { cls := .type "list_iterator", data := .fields #[.ref l, .int 0 0] }).objs.size)))
        { s with heap := (s.heap.push { cls := .type "list_iterator", data := .fields #[.ref l, .int 0 0] }).push { cls := .type "enumerate", data := .fields #[.none, .bool false, .ref s.heap.objs.size, rawInt 1, .none, .none] } }) :=
  .of_wp fun P W B R z hz => by
    obtain ⟨hp, g, d, tk, os⟩ := z
    obtain ⟨hl, hq⟩ := hz
    have subE := sub_enumerate
    have isL : Heap.IsList (Shared.heap ⟨hp, g, d, tk, os⟩) l its := ⟨_, hl, rfl, n, rfl⟩
    wp_walk using AutoSeq1.wpAny_loadPart' hl
    refine wpAny_stack_any fun st => wpAny_pure ?_
    split
    · rename_i c _ _ _ _ _
      cases (c == Value.type "enumerate")
      · wp_walk using AutoSeq1.wpAny_loadPart' hl, wpAny_pyIter_list isL
        exact ⟨_, rfl, hq⟩
      · wp_walk using AutoSeq1.wpAny_loadPart' hl, wpAny_pyIter_list isL
        exact ⟨_, rfl, hq⟩
    · wp_walk using AutoSeq1.wpAny_loadPart' hl, wpAny_pyIter_list isL
      exact ⟨_, rfl, hq⟩
end
end L8


set_option Elab.async false
set_option linter.all false
set_option maxRecDepth 100000
namespace L8
open PySem PySem.Spec PyProof.Rows
section
variable {prog : Program} {w : World} {A : Around} {E : Value → Shared → Prop} {s : Shared}
theorem init_kw {T newId : String} {self : Value} {rest : List Value} {kw : List (Str × Value)} (hl : typeLookup (.type T) "__init__" = pure (some (.builtin "object.__init__")))
    (hm : Bind.madeBy (.type T) = pure (some newId)) (hne : (some newId != some "object.__new__") = true) :
    Meets (Builtin.«object.__init__» ⟨self :: rest, kw⟩) (fun _ R z => z.TypeIs self T ∧ R (.ok (.ret .none)) z) := by
  refine Meets.of_wp fun P W B R z hz => ?_
  obtain ⟨hT, hq⟩ := hz
  cases rest with
  | nil =>
    cases kw with
    | nil => exact wpAny_pure ⟨_, rfl, hq⟩
    | cons a r =>
      repeat (any_goals (first | assumption | wp_step))
      exact ⟨_, rfl, hq⟩
  | cons a r =>
    repeat (any_goals (first | assumption | wp_step))
    exact ⟨_, rfl, hq⟩
theorem type_kw {T newId initId : String} {Bn Bi : Builtin} {args : List Value} {kw : List (Str × Value)} {S : PySem.Spec} {Q Q' : Value → Shared → Prop} (ft : TypeCalled T newId initId)
    (c1 : checkTypeCall T ⟨args, kw⟩ = pure ()) (c2 : checkBuiltinCall newId ⟨.type T :: args, kw⟩ = pure ())
    (eN : entryFor table newId = some Bn) (eI : entryFor table initId = some Bi) (g : Meets (Bn ⟨.type T :: args, kw⟩) S)
    (h : S A.in1 (wants Q' E) s)
    (nx : ∀ obj z, Q' obj z → z.TypeIs obj T ∧ argsOk initId ⟨obj :: args, kw⟩ ∧ ∃ Si, Meets (Bi ⟨obj :: args, kw⟩) Si ∧ Si A.in1 (wants (fun r z2 => r = .none ∧ Q obj z2) E) z) :
    wpAny (model prog w) A (call (.type T) args kw) Q E s := by
  obtain ⟨c, tl, hmro⟩ := ft.mro
  have hmade := ft.made
  have hsub := ft.sub
  refine wpAny_call (codeAny_of_tree ?_)
  show wpAny _ _ (callAny (.type T) _) _ _ _
  refine wpAny_pure ⟨Code.quiet_builtin _ (by decide +kernel), codeAny_builtin F.entry_type_call ?_⟩
  rw [Around.under_plain (weight_type_call_type T args kw) (units_type_call_type T args kw)]
  have h1 := ft.notType
  have h2 := ft.canCreate
  repeat (any_goals (first | assumption | wp_step))
  refine codeAny_mono (codeAny_call_builtin ft.plain eN (wpAny_of_eq c2 (g prog w A.in1 _ s h))) fun r z hr => ?_
  cases r with
  | error e => exact hr
  | ok fl =>
    cases fl with
    | ret obj =>
      obtain ⟨hT, hok, Si, gi, hsi⟩ := nx _ _ hr
      have hli := ft.init.lookup
      have hbi := ft.init.bind obj
      repeat (any_goals (first | assumption | wp_step))
      refine codeAny_mono (codeAny_call_builtin ft.init.plain eI (ft.init.check _ _ _ _ _ _ _ _ hT hok (gi prog w A.in1 _ z hsi))) fun r2 z2 hr2 => ?_
      cases r2 with
      | error e => exact hr2
      | ok fl2 =>
        cases fl2 with
        | ret r =>
          obtain ⟨rfl, hq⟩ := hr2
          repeat (any_goals (first | assumption | wp_step))
        | _ => exact hr2.elim
    | _ => exact hr.elim
theorem tcall_from1 (a : Value) (t : Tok) : checkTypeCall "enumerate" ⟨[a], [("start", .int 1 t)]⟩ = pure () := by kernel_rfl
theorem ncall_from1 (a : Value) (t : Tok) : checkBuiltinCall "enumerate.__new__" ⟨[.type "enumerate", a], [("start", .int 1 t)]⟩ = pure () := by kernel_rfl
theorem iargs_from1 (o a : Value) (t : Tok) : argsOk "object.__init__" ⟨[o, a], [("start", .int 1 t)]⟩ := by
  unfold argsOk
  kernel_rfl
theorem call_from1 {l : Addr} {its : Array Value} {t : Tok} {Q : Value → Shared → Prop} (hL : s.heap.IsList l its)
    (h : ∀ h', IsEnum h' (s.heap.objs.size + 1) s.heap.objs.size 1 .none → h'.IsListIter s.heap.objs.size l 0 → h'.objs.size = s.heap.objs.size + 2 →
      (∀ b o, s.heap.get? b = some o → h'.get? b = some o) → Q (.ref (s.heap.objs.size + 1)) { s with heap := h' }) :
    wpAny (model prog w) A (call (.type "enumerate") [.ref l] [("start", .int 1 t)]) Q E s := by
  obtain ⟨⟨c, od, dt, osl⟩, hl, hc, n, hd⟩ := hL
  replace hc : c = .type "list" := hc
  replace hd : dt = .seq its n := hd
  subst hc hd
  refine type_kw F.called_enumerate (tcall_from1 _ t) (ncall_from1 _ t) F.entry_enumerate_new F.entry_object_init (new_from1 l its n t od osl) (Q' := fun obj z => z.TypeIs obj "enumerate" ∧ Q obj z) ⟨hl, ?_⟩
    (fun obj z hq => ⟨hq.1, iargs_from1 obj _ t, _, init_kw F.called_enumerate.init.lookup F.called_enumerate.made (by decide), hq.1, rfl, hq.2⟩)
  have sz : (s.heap.push { cls := .type "list_iterator", data := .fields #[.ref l, .int 0 0] }).objs.size = s.heap.objs.size + 1 := Heap.size_push ..
  show _ ∧ _
  rw [sz]
  have en : IsEnum ((s.heap.push { cls := .type "list_iterator", data := .fields #[.ref l, .int 0 0] }).push
      { cls := .type "enumerate", data := .fields #[.none, .bool false, .ref s.heap.objs.size, rawInt 1, .none, .none] }) (s.heap.objs.size + 1) s.heap.objs.size 1 .none := by
    have q := Heap.get?_push_size (s.heap.push { cls := .type "list_iterator", data := .fields #[.ref l, .int 0 0] })
      (o := { cls := .type "enumerate", data := .fields #[.none, .bool false, .ref s.heap.objs.size, rawInt 1, .none, .none] }) rfl
    rw [sz] at q
    exact q
  exact ⟨⟨_, en, rfl⟩, h _ en ⟨_, Heap.get?_push_of_some _ (Heap.get?_push_size _ rfl), rfl, rfl⟩ (by rw [Heap.size_push, sz]) fun b o x => Heap.get?_push_of_some _ (Heap.get?_push_of_some _ x)⟩
/-- the list's items, counted from one -/
theorem draws1 (hh : A.handled = none) (it l : Addr) (hne : l ≠ it) (its : Array Value) :
    Draws prog w A it [it, l] (its.size + 1) (fun i v => its[i - 1]? = some v) (fun i h => 1 ≤ i ∧ h.IsListIter it l (i - 1) ∧ h.IsList l its) :=
  have D : Draws prog w A it [it, l] its.size (fun i v => its[i]? = some v) (fun i h => h.IsListIter it l i ∧ h.IsList l its) := Draws.list hh it l hne its
  { live := fun i h st => D.live (i - 1) h st.2
    frame := fun i h h' st hk => ⟨st.1, D.frame (i - 1) h h' st.2 hk⟩
    item := fun i s Q E hi st hQ => D.item (i - 1) s Q E (by have := st.1; omega) st.2 fun x h' tk px st' sb => hQ x h' tk px ⟨by omega, by
      have e : i + 1 - 1 = i - 1 + 1 := by have := st.1; omega
      rw [e]; exact st'⟩ sb
    done := fun s Q E st hE => D.done s Q E (by simpa using st.2) hE }
theorem callWith_typeK {M : Model} {pos : Pos} {T : String} {args : List (Bool × Sem Value)} {kws : List (Option Str × Sem Value)} {Q : Value → Shared → Prop}
    (p1 : args.any (·.1) = false) (p2 : kws.any (·.1.isNone) = false)
    (h : wpAny M A (evalArgs (.type T) true args kws) (fun a z => wpAny M A (call (.type T) a.pos a.kw) Q E z) E s) :
    wpAny M A (callWith pos (.type T) [] args kws) Q E s := by
  unfold callWith
  refine wpAny_bind (wpAny_holding (wpAny_mono h (fun a z hz => wpAny_bind (wpAny_standAt ?_)) fun _ _ x => x))
  simp only [p1, p2, Bool.or_false]
  refine wpAny_bind (wpAny_pure ?_)
  exact wpAny_bind (wpAny_mono hz (fun r z2 hr => wpAny_bind (wpAny_holding (wpAny_point (wpAny_pure hr)))) fun _ _ x => x)
end
end L8
namespace L2
open PySem PySem.Spec PyProof.Rows
section
variable {X : Cx} {pins : List (Addr × Obj)} {σ : St} {H : Hp} {s : Shared} {h' : Heap}
/-- two untracked records of ours have turned -/
theorem Inv.turned2 {t' : Nat} {a b : Addr} (I : Inv X pins σ H s) (k : ∀ c o, c ≠ a → c ≠ b → s.heap.get? c = some o → h'.get? c = some o) (fa : FpOk X pins H a) (fb : FpOk X pins H b) : Inv X pins σ H { s with heap := h', toks := t' } := by
  obtain ⟨a0, a1, a2, a3, a4, a5⟩ := fa
  obtain ⟨b0, b1, b2, b3, b4, b5⟩ := fb
  have kp : ∀ c o, c ∉ [a, b] → s.heap.get? c = some o → h'.get? c = some o := fun c o hc e => k c o (fun z => hc (by simp [z])) (fun z => hc (by simp [z])) e
  have away : ∀ c u, H c = some u → c ∉ [a, b] := fun c u e hc => by
    rcases List.mem_cons.mp hc with z | z
    · rw [z, a0] at e; cases e
    · rw [List.mem_singleton.mp z, b0] at e; cases e
  refine I.step (g' := s.gens) (d' := s.drawn) (ch := [a, b]) (fun c hc => ?_) (fun c o _ _ hc e _ => kp c o hc e) (fun c o _ _ hc e _ => ⟨o.slots, kp c o hc e⟩) (fun _ _ _ _ n => n) (fun c o hc e => ⟨o, kp c o hc e⟩)
    (fun _ _ e => e) (fun _ _ _ e => e) (fun c ps e => ⟨#[], by rw [e]; simp⟩) (fun m hm => ?_) (fun c u e => ?_) I.bare
  · rcases List.mem_cons.mp hc with z | z
    · subst z; exact ⟨a3, a1, a4, a5⟩
    · have z' := List.mem_singleton.mp z
      subst z'; exact ⟨b3, b1, b4, b5⟩
  · obtain ⟨o, es, ep, ho, r⟩ := hm
    exact ⟨o, es, ep, k _ o (Ne.symm a1) (Ne.symm b1) ho, r⟩
  · refine (I.hok c u e).stay (fun d v hd q => kp d v ?_ q) (fun _ q => q) fun _ _ q => q
    rcases hd with z | z
    · rw [z]; exact away c u e
    · exact away d _ z
end
/-- (1, a), (2, b), .. of the list at l -/
def Ite (K : PySem.W.Frag) (l : Addr) : It :=
  ⟨fun i H => ∃ xs x, SqL K H l xs ∧ xs[i]? = some x, fun i H x H' => ∃ p v, H p = none ∧ x = .ref p ∧ H' = upd H p (.tup [.int ((i : Int) + 1), v]) ∧ ∀ xs, SqL K H l xs → xs[i]? = some v, fun i H => ∃ xs, SqL K H l xs ∧ xs.length = i⟩
theorem turn_enum {P : Program} {w : World} {K : PySem.W.Frag} {elts : List Expr} {k : Nat} {pt : Pos} (l e it : Addr) :
    Turn P w K (.Tuple elts k pt) (Ite K l) [e, it] e (fun i h => (∃ old, IsEnum h e it ((i + 1 : Nat) : Int) old) ∧ h.IsListIter it l i) where
  mem := by simp
  obj := fun i h st b hb => by
    obtain ⟨⟨old, en⟩, o, eo, c, d⟩ := st
    rcases List.mem_cons.mp hb with z | z
    · subst z
      exact ⟨_, en, fun v z => by have z' : Data.fields _ = Data.cell v := z; cases z'⟩
    · have z' := List.mem_singleton.mp z
      subst z'
      exact ⟨o, eo, fun v z => by rw [d] at z; cases z⟩
  keep := fun i h h' st kp => ⟨let ⟨old, en⟩ := st.1; ⟨old, kp e (by simp) _ en⟩, st.2.at fun o q => kp it (by simp) o q⟩
  item := by
    intro X hP hw hK hc i pins s σ H E I hf st hg
    subst hP hw hK
    obtain ⟨xs, x, hq, hx⟩ := hg
    obtain ⟨its, rv, p, hz⟩ := I.list hq
    obtain ⟨u, hu, ru⟩ := rv.get hx
    obtain ⟨⟨old, en⟩, li⟩ := st
    have fe := hf e (by simp)
    have fi := hf it (by simp)
    obtain ⟨oi, hoi, hci, hdi⟩ := id li
    obtain ⟨ol, hol, hcl, nl, hdl⟩ := id p.isList
    have en0 : s.heap.get? e = some { cls := .type "enumerate", dict := none, data := .fields #[.none, .bool false, .ref it, rawInt ((i + 1 : Nat) : Int), .none, old], slots := #[] } := en
    have ne1 : e ≠ it := fun z => by
      rw [z, hoi] at en0
      rw [Option.some.inj en0] at hci
      exact absurd (Value.type.inj (show Value.type "enumerate" = Value.type "list_iterator" from hci)) (by decide)
    have ne2 : l ≠ it := fun z => by rw [z, hoi] at hol; cases hol; rw [hdi] at hdl; cases hdl
    have ne3 : e ≠ l := fun z => by
      rw [z, hol] at en0
      rw [Option.some.inj en0] at hcl
      exact absurd (Value.type.inj (show Value.type "enumerate" = Value.type "list" from hcl)) (by decide)
    have hil : i < its.length := (List.getElem?_eq_some_iff.mp hu).1
    refine wpAny_pyNext_enum_itemD (L8.draws1 (A := X.A.in1) (I.ok.hd hc) it l ne2 its.toArray) en ⟨Nat.succ_le_succ (Nat.zero_le _), by simpa using li, p.isList⟩ (by simp; omega) ne1 (by simp [ne1, ne3]) fun v h1 tk hv eo st1 ht hs1 kp => ?_
    have ev : v = u := by
      have q : its[i]? = some v := by simpa using hv
      rw [hu] at q; exact (Option.some.inj q).symm
    subst ev
    refine ⟨_, rfl, wpAny_letOwnedTupleGo_enum eo fun h2 en2 sb => ?_⟩
    replace sb : Heap.SameBut e h1 h2 := sb
    have elt : e < s.heap.objs.size := Heap.lt_size en
    have ilt : it < s.heap.objs.size := Heap.lt_size hoi
    have hfr : H s.heap.objs.size = none := I.hok.fresh (Nat.le_refl _)
    have nes : ∀ b, b < s.heap.objs.size → upd H s.heap.objs.size (.tup [.int ((i : Int) + 1), x]) b = H b := fun b hb => upd_ne (Nat.ne_of_lt hb)
    have I1 : Inv X pins σ (upd H s.heap.objs.size (.tup [.int ((i : Int) + 1), x])) { s with heap := s.heap.push { cls := .type "tuple", data := .seq #[.int ((i + 1 : Nat) : Int) tk, v] }, toks := s.toks } :=
      I.laid (t' := s.toks) (fun b o q => Heap.get?_push_of_some _ q) (Nat.le_refl _) ⟨(by show 2 ≤ sizeLine; decide), [.int ((i + 1 : Nat) : Int) tk, v], .cons ⟨tk, by show Value.int _ _ = Value.int _ _; rfl⟩ (.cons ru .nil), ⟨_, Heap.get?_push_size _ rfl, rfl, _, rfl⟩⟩
    have key : ∀ c o, c ≠ e → c ≠ it → (s.heap.push { cls := .type "tuple", data := .seq #[.int ((i + 1 : Nat) : Int) tk, v] }).get? c = some o → h2.get? c = some o := fun c o n1 n2 q => by
      refine (sb.2 c n1).trans ?_
      rcases Heap.get?_push_cases q with ⟨z1, z2⟩ | z
      · rw [z1, z2]; exact ht
      · exact kp c o n1 n2 z
    have I2 := I1.turned2 (h' := h2) (t' := tk + 1) key ⟨(nes e elt).trans fe.1, fe.2⟩ ⟨(nes it ilt).trans fi.1, fi.2⟩
    refine ⟨.ref s.heap.objs.size, _, I2, rfl, ⟨_, x, hfr, rfl, rfl, fun ys hy => by rw [I.list_inj hy hq]; exact hx⟩, ⟨⟨v, ?_⟩, ?_⟩, fun b hb => ?_⟩
    · exact en2
    · exact (show h1.IsListIter it l (i + 1) by simpa using st1.2.1).at fun o q => (sb.2 it (Ne.symm ne1)).trans q
    · rcases List.mem_cons.mp hb with z | z
      · rw [z]; exact (nes e elt).trans fe.1
      · rw [List.mem_singleton.mp z]; exact (nes it ilt).trans fi.1
  done := by
    intro X hP hw hK hc i pins s σ H E I hf st hg
    subst hP hw hK
    obtain ⟨xs, hq, hx⟩ := hg
    obtain ⟨its, rv, p, hz⟩ := I.list hq
    obtain ⟨⟨old, en⟩, li⟩ := st
    obtain ⟨f0, f1, f2, f3, f4, f5⟩ := hf it (by simp)
    obtain ⟨oi, hoi, hci, hdi⟩ := id li
    obtain ⟨ol, hol, hcl, nl, hdl⟩ := id p.isList
    have ne2 : l ≠ it := fun z => by rw [z, hoi] at hol; cases hol; rw [hdi] at hdl; cases hdl
    have el : its.toArray.size = i := by rw [← hx, rv.length]; simp
    exact wpAny_pyNext_enum_endD (L8.draws1 (A := X.A.in1) (I.ok.hd hc) it l ne2 its.toArray) en ⟨Nat.succ_le_succ (Nat.zero_le _), by rw [el]; simpa using li, p.isList⟩ fun h' eb => ⟨rfl, I.turned (t' := s.toks) (fun b o hb q => eb b o hb q) f0 f1 f3 f4 f5⟩
  self := fun _ _ _ _ _ st h => let ⟨_, en⟩ := st.1; wpAny_pyIter_enum en h
theorem for_enum {K : PySem.W.Frag} {a : Addr} {xs : List V} {g : TG} {tb : TS} {D : Ends} {σ : St} {H : Hp} (Pv : Nat → St → Hp → Prop) (h0 : Pv 0 σ H) (hl : ∀ i σ H, i ≤ xs.length → Pv i σ H → SqL K H a xs)
    (hs : ∀ i x σ H p, xs[i]? = some x → Pv i σ H → H p = none → g (.ref p) σ (upd H p (.tup [.int ((i : Int) + 1), x])) fun σ2 H2 => tb { D with nx := Pv (i + 1), ct := Pv (i + 1), bk := D.nx } σ2 H2) (hd : ∀ σ H, Pv xs.length σ H → D.nx σ H) :
    ∃ W : Nat → Nat → St → Hp → Prop, (∃ m, W 0 m σ H) ∧ ∀ i m σ H, W i m σ H →
      ((Ite K a).stop i H ∧ D.nx σ H) ∨ ((Ite K a).go i H ∧ ∃ N : St → Hp → Prop, (∀ σ' H', N σ' H' → ∃ m', m' < m ∧ W (i + 1) m' σ' H') ∧ ∀ x H', (Ite K a).yld i H x H' → g x σ H' fun σ2 H2 => tb { D with nx := N, ct := N, bk := D.nx } σ2 H2) := by
  refine ⟨fun i m σ H => m = xs.length - i ∧ i ≤ xs.length ∧ Pv i σ H, ⟨xs.length, by simp, Nat.zero_le _, h0⟩, ?_⟩
  rintro i m σ H ⟨rfl, hi, p⟩
  have q := hl i σ H hi p
  by_cases hlt : i < xs.length
  · refine .inr ⟨⟨xs, xs[i], q, by simp [hlt]⟩, Pv (i + 1), fun σ' H' p' => ⟨xs.length - (i + 1), by omega, rfl, hlt, p'⟩, fun x H' y => ?_⟩
    obtain ⟨b, v, hb, rfl, rfl, y⟩ := y
    exact hs i v σ H b (y xs q) p hb
  · have e : i = xs.length := by omega
    subst e
    exact .inl ⟨⟨xs, q, rfl⟩, hd σ H p⟩
section
variable {X : Cx}
theorem boot_enumerate' : bootBuiltins "enumerate" = some (.type "enumerate") := by decide +kernel
def iEn (K : PySem.W.Frag) (ta : TA) : TI := fun σ H R => ta σ H fun vs H1 => ∃ l, vs = [.ref l] ∧ (∃ xs, SqL K H1 l xs) ∧ R (Ite K l) H1
theorem pi_enum {a : Expr} {ta : TA} {elts : List Expr} {k j : Nat} {pt p pos pc kp : Pos} (hg : Gl X "enumerate") (hm : X.mg "enumerate" = none) (ha : PA X [a] ta)
    (he : backTo pos (starEach [a] X.env) = [(false, eval a X.env)] := by rfl) (hp : (backTo pos (starEach [a] X.env)).any (·.1) = false := by rfl) :
    PI X (.Tuple elts k pt) (.Call (.Name "enumerate" p) [a] [⟨some "start", .Constant (.int 1) j pc, kp⟩] pos) (iEn X.K ta) := by
  intro pins s σ H R I h
  refine wpAny_Call_Name_kw (ld_blt I hg hm boot_enumerate' (L8.callWith_typeK hp rfl ?_))
  rw [he]
  have h0 := ha pos pins s σ H _ I h
  rw [he] at h0
  refine evalArgs_kwB rfl (thn h0 fun us s1 ⟨vs, H1, I1, r1, q1⟩ => ?_)
  obtain ⟨l, e, ⟨xs, hS⟩, q⟩ := q1
  subst e
  obtain ⟨u, rfl, ru⟩ := r1.one
  cases ru
  refine kws_cons (wpAny_Constant_int (kws_nil ?_))
  have I2 := I1.tok (s1.toks + 1)
  obtain ⟨its, rv, pl, hz⟩ := I2.list hS
  show wpAny _ _ (call (.type "enumerate") [.ref l] [("start", .int 1 _)]) _ _ _
  refine L8.call_from1 pl.isList fun h' en li hsz kp => ?_
  refine wpAny_pyIter_enum en ⟨_, _, _, Ite X.K l, H1, rfl, I2.kept kp, turn_enum l _ _, ⟨⟨.none, en⟩, li⟩, fun b hb => ?_, q⟩
  rcases List.mem_cons.mp hb with z | z
  · rw [z]
    exact I2.fpOk (Nat.le_succ _) (I2.hok.fresh (Nat.le_succ _))
  · rw [List.mem_singleton.mp z]
    exact I2.fpOk (Nat.le_refl _) (I2.hok.fresh (Nat.le_refl _))
end
end L2


set_option Elab.async false
set_option linter.all false
set_option maxRecDepth 100000
namespace L2
open PySem PySem.Spec PyProof.Rows
section
variable {X : Cx}
end
end L2
namespace L2
open PySem PySem.Spec PyProof.Rows
section
variable {X : Cx} {o e : Expr} {es : List Expr} {to : TE} {t : TA} {name : Str} {apos cpos : Pos} {T id : String} {r : V → List V → Hp → VK → Prop}
/-- a method of a text or a list within a comprehension: the written part named -/
theorem pe_bmK {K : PySem.W.Frag} (hK : X.K = K) (pa : PlainAttrs T) (slot : Slot T name id) (hty : typeOf (.builtin id) = pure (.type "method_descriptor")) (hm : MtR X id r) (ho : PE X o to) (ha : PA X (e :: es) t)
    (h1 : attributeBase o name X.env (eval o X.env) = eval o X.env := by rfl)
    (h2 : ((backTo cpos (starEach (e :: es) X.env)).all (fun x => !x.1) && (backToKw cpos (keywordEach [] X.env)).all (fun x => x.1.isSome) && decide ((e :: es).length + ([] : List Keyword).length + (if ([] : List Keyword).isEmpty then 0 else 1) < 30)) = true := by rfl)
    (h3 : (apos.endLine == cpos.line) = true := by rfl) (h4 : starEach (e :: es) X.env = (false, eval e X.env) :: starEach es X.env := by rfl) (h5 : (backTo cpos (starEach es X.env)).any (·.1) = false := by rfl) :
    PE X (.Call (.Attribute o name apos) (e :: es) [] cpos) (tBM K T r to t) := hK ▸ pe_bm pa slot hty hm ho ha h1 h2 h3 h4 h5
theorem mt_joinK {K : PySem.W.Frag} (hK : X.K = K) : MtR X "str.join" (rJoin K) := hK ▸ mt_join
end
end L2


set_option Elab.async false
set_option linter.all false
set_option maxRecDepth 100000
/-! an exception of a class of one's own: raised, flying out of a call, caught -/
namespace L2
open PySem PySem.Spec PyProof.Rows
theorem ObjOk.at {P : Program} {w : World} {H : Hp} {h : Heap} {a : Addr} {o : HO} (x : ObjOk P w H h a o) : ∃ u, h.get? a = some u := by
  cases o with
  | lst xs => obtain ⟨_, _, _, _, e⟩ := x; exact ⟨_, e⟩
  | tup xs => obtain ⟨_, _, _, ob, e, _⟩ := x; exact ⟨_, e⟩
  | dK kvs => obtain ⟨_, _, _, _, o, _, _, e, _⟩ := x; exact ⟨_, e⟩
  | dT kvs => obtain ⟨_, _, _, _, o, _, _, e, _⟩ := x; exact ⟨_, e⟩
  | set S n => obtain ⟨o, _, _, _, e, _⟩ := x; exact ⟨_, e⟩
  | ins C dx fs => obtain ⟨_, _, _, e, _⟩ := x; exact ⟨_, e⟩
  | own y => obtain ⟨_, e⟩ := x; exact ⟨_, e⟩
  | xd fs => obtain ⟨_, ⟨_, _, _, e, _⟩, _⟩ := x; exact ⟨_, e⟩
  | rng lo hi => obtain ⟨_, _, _, e⟩ := x; exact ⟨_, e⟩
  | frz ob u => obtain ⟨e, _⟩ := x; exact ⟨_, e⟩
  | tbl ps => exact ⟨_, show h.get? a = some _ from x⟩
  | met f y => exact ⟨_, show h.get? a = some _ from x⟩
  | ext φ => obtain ⟨_, ⟨_, e⟩, _⟩ := x; exact ⟨_, e⟩
theorem HOk.none_at {P : Program} {w : World} {H : Hp} {h : Heap} {a : Addr} (x : HOk P w H h) (e : h.get? a = none) : H a = none := by
  cases q : H a with
  | none => rfl
  | some o =>
    obtain ⟨u, z⟩ := (x a o q).at
    rw [e] at z; cases z
/-- an exception of the class cls has flown out of a call; the tracked heap is H', all of it lies in B, and so does what the caller had, but for the frames -/
def CXN (P : Program) (w : World) (cls : Value) : CXT := fun outer H s E e s' => ∃ (a : Addr) (H' : Hp), e = .ref a ∧ s'.os = s.os ∧ AllBare s'.gens ∧ Un (frs outer) [] H H' s.heap s'.heap ∧ H' a = none ∧
  (∃ B a0, Heap.FlyingW B outer a cls a0 s'.heap ∧ HOk P w H' B ∧ (∀ b o, s.heap.get? b = some o → H b = none → b ∉ frs outer → B.get? b = some o) ∧ ∀ b o, s.heap.get? b = some o → b ∉ frs outer → ∃ o', B.get? b = some o') ∧ E e none H'
section
variable {P : Program} {w : World} {K : PySem.W.Frag} {mg : Str → Option Value} {base : Heap} {N : List Str} {qual : Str} {scope : Scope} {f : Addr} {cd : Value} {A : Around} {outer : List Env} {s : Shared} {H : Hp} {E : XK} {cls : Value}
theorem frames_hide {b0 h : Heap} {as : List Addr} : ∀ {l : List Env}, h.FunFrames b0 l → (∀ env ∈ l, ∀ a, env.frame = some a → a ∈ as) → h.FunFrames (PySem.W.hideAll h as) l
  | [], _, _ => trivial
  | env :: _, ⟨hk, ⟨L, o, hf, _, ho, hd⟩, hr⟩, hin => ⟨hk, ⟨L, o, hf, PySem.W.hideAll_none _ (hin env (.head _) L hf), ho, hd⟩, frames_hide hr fun e he => hin e (.tail _ he)⟩
/-- what a raise in a def's body leads to -/
theorem flies {CX : CXT} {pins : List (Addr × Obj)} {σ : St} {H1 : Hp} {s1 : Shared} {h' : Heap} {e : Addr} {vs : List Value} (I : Inv (cxOf CX P w K mg base N qual scope f cd A outer s H E) pins σ H1 s1)
    (hx : Heap.MadeExcOf s1.heap h' e cls vs) (hE : E (.ref e) none H1) (hCX : ∀ e s', CXN P w cls outer H s E e s' → CX outer H s E e s') :
    (cxOf CX P w K mg base N qual scope f cd A outer s H E).xe (.ref e) { s1 with heap := h' } := by
  have nx : ∀ b : Addr, b ∉ (cxOf CX P w K mg base N qual scope f cd A outer s H E).ex := fun b z => absurd (show b ∈ ([] : List Addr) from z) (by simp)
  have hst := I.stack
  have stkF : ∀ b ∈ frs (envOfC qual scope s.heap.objs.size f cd :: outer), H1 b = none := I.stkFree
  have sub : ∀ b ∈ frs outer, b ∈ frs (envOfC qual scope s.heap.objs.size f cd :: outer) := fun b hb => List.mem_cons_of_mem _ hb
  have own : ∀ b ∈ frs (envOfC qual scope s.heap.objs.size f cd :: outer), b ∉ frs outer → b = s.heap.objs.size := fun b hb hn => by
    rcases List.mem_cons.mp hb with z | z
    · exact z
    · exact absurd z hn
  have inB : ∀ b o, s1.heap.get? b = some o → b ∉ frs (envOfC qual scope s.heap.objs.size f cd :: outer) → (PySem.W.hideAll s1.heap (frs (envOfC qual scope s.heap.objs.size f cd :: outer))).get? b = some o := fun b o q n => PySem.W.hideAll_get _ q n
  have old : ∀ b o, s.heap.get? b = some o → b ∉ frs outer → b ∉ frs (envOfC qual scope s.heap.objs.size f cd :: outer) := fun b o q n z => by
    have := own b z n
    rw [this] at q
    exact absurd (Heap.lt_size q) (Nat.lt_irrefl _)
  have keepB : ∀ b o, s.heap.get? b = some o → H b = none → b ∉ frs outer → (PySem.W.hideAll s1.heap (frs (envOfC qual scope s.heap.objs.size f cd :: outer))).get? b = some o := fun b o q n hb =>
    inB b o (I.base.keep b o q n hb (nx b)) (old b o q hb)
  refine wpAny_leaves_madeW (base := PySem.W.hideAll s1.heap (frs (envOfC qual scope s.heap.objs.size f cd :: outer))) (h := s1.heap) (s := { s1 with heap := h' }) (cls := cls) (args := vs) (outer := outer) (L := s.heap.objs.size) I.ok.frames rfl (fun b o q => PySem.W.of_hideAll _ q)
    (frames_hide hst fun env he a hf => List.mem_filterMap.mpr ⟨env, he, hf⟩) hx fun h2 t fl _ _ up => ?_
  refine hCX _ _ ⟨e, H1, rfl, I.os, I.bare, ?_, I.hok.none_at hx.new, ⟨_, _, fl, ?_, keepB, fun b o q n => ?_⟩, hE⟩
  · have slot : ∀ b o, s.heap.get? b = some o → H b = none → b ∈ frs outer → ∃ sl, h2.get? b = some { o with slots := sl } := fun b o q n hb => by
      obtain ⟨sl, e1⟩ := I.base.slot b o q n hb (nx b)
      obtain ⟨_, o', ho', hnf⟩ := hst.mem (sub b hb)
      rw [e1] at ho'
      cases ho'
      obtain ⟨sl2, e2⟩ := up b _ (hx.keeps b _ e1) hnf
      exact ⟨sl2, e2⟩
    refine ⟨fun b o q n hb _ => fl.1 b o (keepB b o q n hb), fun b o q n hb _ => slot b o q n hb, fun b o q n _ => I.base.free b o q n (nx b), fun b o q _ => ?_, I.base.tups, I.base.frzs, I.base.tbls⟩
    obtain ⟨o', e1⟩ := I.base.there b o q (nx b)
    by_cases hb : b ∈ frs (envOfC qual scope s.heap.objs.size f cd :: outer)
    · obtain ⟨_, o2, ho2, hnf⟩ := hst.mem hb
      rw [e1] at ho2
      cases ho2
      obtain ⟨sl2, e2⟩ := up b _ (hx.keeps b _ e1) hnf
      exact ⟨_, e2⟩
    · exact ⟨o', fl.1 b o' (inB b o' e1 hb)⟩
  · intro b o q
    refine (I.hok b o q).stay (fun c u hc z => inB c u z fun hf => ?_) (fun _ q => q) fun _ _ q => q
    have hn := stkF c hf
    rcases hc with hc | hc
    · rw [hc, q] at hn; cases hn
    · rw [hc] at hn; cases hn
  · obtain ⟨o', e1⟩ := I.base.there b o q (nx b)
    exact ⟨o', inB b o' e1 (old b o q n)⟩
end
/-! ### raise -/
abbrev bmV : List Value := [.type "ValueError", .type "Exception", .type "BaseException", .type "object"]
theorem exc_obj {K : PySem.W.Frag} {h : Heap} {C : Addr} (X : K.In h) (q : PySem.W.excIn K C bmV "ValueError.__new__" = true) :
    ∃ (bm : List Value) (N : Addr) (nm qn : Str) (bs : List Value) (hd : Bool) (sn : List Str) (sub : List Value) (ab : Bool) (col : Option Bool) (dd : Option Addr) (k0 k1 k2 k3 k5 : Option Value) (mN : Str → Option Value),
      h.get? C = some (excClassObj nm qn C N bs bm hd sn sub ab col dd k0 k1 k2 k3 k5 "ValueError.__new__") ∧ h.Ns N mN ∧ mN "__init__" = none ∧ OwnTail h bmV bm := by
  unfold PySem.W.excIn at q
  split at q
  · rename_i dct cdt slots looked
    split at q
    · rename_i C2 tl j0 j1 j2 j3 nid j5 hm hs
      simp only [Bool.and_eq_true, beq_iff_eq, Bool.not_eq_true'] at q
      obtain ⟨⟨⟨⟨⟨rfl, rfl⟩, nodel⟩, tails⟩, nsok⟩, noini⟩ := q
      obtain ⟨cn, cbs, cmro, cns, cqn, chd, csn, csub, cab, ccol, cdel⟩ := cdt
      dsimp only at hm nodel nsok noini
      subst hm nodel
      have es : slots = #[j0, j1, j2, j3, some (.builtin "ValueError.__new__"), j5] := by
        obtain ⟨l⟩ := slots
        simp only at hs
        rw [hs]
      subst es
      exact ⟨tl, cns, cn, cqn, cbs, chd, csn, csub, cab, ccol, dct, j0, j1, j2, j3, j5, _, X _ _ looked, .of_isNs (PySem.W.isNs_of_in X nsok), PySem.W.nsMap_none_of_in X nsok noini, PySem.W.tail_of_in X tails⟩
    · cases q
  · cases q
section
variable {P : Program} {w : World} {K : PySem.W.Frag} {mg : Str → Option Value} {base : Heap} {N : List Str} {qual : Str} {scope : Scope} {f : Addr} {cd : Value} {A : Around} {outer : List Env} {s : Shared} {H : Hp} {E : XK} {CX : CXT}
theorem ps_raiseN {C : Addr} {x : Str} {e0 : Expr} {ta : TA} {np cpos pos : Pos} (q : PySem.W.excIn K C bmV "ValueError.__new__" = true) (hm : mg x = some (.ref C))
    (hg : Gl (cxOf CX P w K mg base N qual scope f cd A outer s H E) x) (ha : PA (cxOf CX P w K mg base N qual scope f cd A outer s H E) [e0] ta) (hCX : ∀ e s', CXN P w (.ref C) outer H s E e s' → CX outer H s E e s')
    (he : starEach [e0] (envOfC qual scope s.heap.objs.size f cd) = [(false, eval e0 (envOfC qual scope s.heap.objs.size f cd))] := by rfl) (hdb : (x == ("__debug__" : Str)) = false := by decide) :
    PS (cxOf CX P w K mg base N qual scope f cd A outer s H E) (.Raise (some (.Call (.Name x np) [e0] [] cpos)) none pos) (fun _ σ H1 => ta σ H1 fun vs H2 => vs.length ≤ sizeLine ∧ ∀ e, E (.ref e) none H2) := by
  intro pins s1 σ H1 D I h
  obtain ⟨bm, Nn, nm, qn, bs, hd, sn, sub, ab, col, dd, k0, k1, k2, k3, k5, mN, hC, hN, hni, T⟩ := exc_obj I.ok.mod.kin q
  have e1 : starEach [e0] (cxOf CX P w K mg base N qual scope f cd A outer s H E).env = [(false, eval e0 (cxOf CX P w K mg base N qual scope f cd A outer s H E).env)] := he
  refine wpAny_Raise_call_subT (C := C) (nm := nm) (q := qn) (N := Nn) (bs := bs) (bm := bm) (hdct := hd) (sn := sn) (sub := sub) (ab := ab) (col := col) (dd := dd) (k0 := k0) (k1 := k1) (k2 := k2) (k3 := k3) (k5 := k5)
    F.excBase_ValueError (mN := mN) (T.hasType F.excBase_ValueError.hasBase) (I.ok.hd rfl) (by rw [e1]; rfl) hni (ld_glob I hg hm ⟨rfl, ?_⟩ hdb)
  have hA := ha cpos pins s1 σ H1 _ I h
  rw [e1] at hA ⊢
  exact Calls.evalArgs_plain (thn hA fun us s2 ⟨vs, H2, I2, r, hl, hE⟩ => ⟨rfl, by rw [← r.length]; exact hl, I2.bk _ _ hC, hN.keeps I2.bk, T.keeps I2.bk, fun h' e hx => flies I2 hx (hE e) hCX⟩)
end
/-! ### f"..{i}.." -/
section
variable {X : Cx}
def tFs (a b : Str) (te : TE) : TE := fun σ H Q => te σ H fun x H1 => ∃ i : Int, x = .int i ∧ i.natAbs.log2 < 1920 ∧ a.length + (Str.ofString (toString i)).length + b.length ≤ 16777216 ∧ ∀ z : Str, Q (.str z) H1
theorem pe_fstr {a b : Str} {e : Expr} {te : TE} {j j' : Nat} {p1 p2 p3 pos : Pos} (he : PE X e te) (ha : a.length ≤ 1000 := by decide) :
    PE X (.JoinedStr [.Constant (.str a) j p1, .FormattedValue e (-1) none p2, .Constant (.str b) j' p3] pos) (tFs a b te) := by
  intro pins s σ H Q I h
  have el : ∀ u v : Str, (u ++ v).length = u.length + v.length := fun u v => Th.app_len u v
  have e0 : Str.empty.length = 0 := rfl
  have sz : ∀ n : Nat, n ≤ 16777216 → n ≤ sizeLine := fun n hn => by rw [sizeLine_eq]; exact hn
  refine JoinedStr_many (joinParts_cons (Calls.Constant_str ⟨sz _ (by rw [el, e0]; omega), joinParts_cons (FormattedValue_plain ?_)⟩))
  refine thn (he pins _ σ H _ (I.tok _) h) fun v s1 ⟨x, H1, I1, r1, i, ex, hd, hl, q⟩ => ?_
  subst ex
  obtain ⟨t, rfl⟩ := r1
  refine formatField_int_small hd ⟨sz _ (by rw [el, el, e0]; omega), joinParts_cons (Calls.Constant_str ⟨sz _ (by rw [el, el, el, e0]; omega), joinParts_nil ?_ (sz _ (by rw [el, el, el, e0]; omega))⟩)⟩
  exact ⟨.str _, H1, I1.tok _, ⟨_, rfl⟩, q _⟩
end
/-! ### try: a call, caught -/
/-- within an except's suite: e is handled, its object stands pinned -/
abbrev Cx.inX (X : Cx) (e : Addr) (oe : Obj) : Cx := { X with A := X.A.mark (some (.ref e)), calm := false, pn := (e, oe) :: X.pn, xe := fun _ _ => False }
section
variable {X : Cx} {pins : List (Addr × Obj)} {σ : St} {H : Hp} {s : Shared} {e : Addr} {oe : Obj}
theorem Cx.Ok.inX (ok : X.Ok) : (X.inX e oe).Ok :=
  ⟨ok.mod, ok.kind, ok.glob, ok.blt, ok.above, ok.inj, ok.has, ok.cab, (fun z => by cases z), ok.frames, ok.stk, ok.exf, ok.bs, ok.bsz, ok.noex, ok.exfs, ok.funs, ok.frf⟩
theorem Inv.inX (I : Inv X pins σ H s) (he : s.heap.get? e = some oe) (hn : H e = none) (hL : e ≠ X.env.locals) (hf : e ∉ X.fs) (hd : ∀ v, oe.data ≠ .cell v) : Inv (X.inX e oe) pins σ H s :=
  ⟨I.ok.inX, I.os, I.bare, I.base, I.loc, I.cell, I.free, I.freeC, fun p hp => by
    rcases List.mem_append.mp hp with z | z
    · rcases List.mem_cons.mp z with z | z
      · subst z; exact ⟨he, hn, hL, hf, hd⟩
      · exact I.pin p (List.mem_append_left _ z)
    · exact I.pin p (List.mem_append_right _ z), I.hok, I.len⟩
theorem Inv.outX (ok : X.Ok) (J : Inv (X.inX e oe) pins σ H s) : Inv X pins σ H s :=
  ⟨ok, J.os, J.bare, J.base, J.loc, J.cell, J.free, J.freeC, fun p hp => by
    rcases List.mem_append.mp hp with z | z
    · exact J.pin p (List.mem_append_left _ (List.mem_cons_of_mem _ z))
    · exact J.pin p (List.mem_append_right _ z), J.hok, J.len⟩
theorem SP.outX (ok : X.Ok) {D : Ends} {f : Flow} {s' : Shared} (h : SP (X.inX e oe) pins D f s') : SP X pins D f s' := by
  cases f with
  | next => obtain ⟨σ', H', I, q⟩ := h; exact ⟨σ', H', I.outX ok, q⟩
  | brk => obtain ⟨σ', H', I, q⟩ := h; exact ⟨σ', H', I.outX ok, q⟩
  | cont => obtain ⟨σ', H', I, q⟩ := h; exact ⟨σ', H', I.outX ok, q⟩
  | ret u => obtain ⟨v, σ', H', I, r, q⟩ := h; exact ⟨v, σ', H', I.outX ok, r, q⟩
/-- the caller's state where the exception has come to it -/
theorem inv_came {H' : Hp} {s' : Shared} {h : Heap} {B : Heap} (I : Inv X pins σ H s) (hos : s'.os = s.os) (hg : AllBare s'.gens) (un : Un (frs X.stack) [] H H' s.heap s'.heap) (hok : HOk X.prog X.w H' B)
    (kb : ∀ b o, s.heap.get? b = some o → H b = none → b ∉ frs X.stack → B.get? b = some o) (kb2 : ∀ b o, s.heap.get? b = some o → b ∉ frs X.stack → ∃ o', B.get? b = some o')
    (st : B.StaysIn h) (up : s'.heap.UpToSlots h) : Inv X pins σ H' { s' with heap := h } := by
  have slot : ∀ b o, s.heap.get? b = some o → H b = none → b ∈ frs X.stack → ∃ sl, h.get? b = some { o with slots := sl } := fun b o q n hb => by
    obtain ⟨sl, e1⟩ := un.slot b o q n hb (by simp)
    obtain ⟨_, o', ho', hnf⟩ := I.stack.mem hb
    rw [q] at ho'
    cases ho'
    obtain ⟨sl2, e2⟩ := up b _ e1 hnf
    exact ⟨sl2, e2⟩
  refine I.call' (ch := []) (s' := { s' with heap := h }) hos ⟨fun b o q n hb _ => st b o (kb b o q n hb), fun b o q n hb _ => slot b o q n hb, un.free, fun b o q _ => ?_, un.tups, un.frzs, un.tbls⟩ (hok.kept st) hg fun _ z => nomatch z
  by_cases hb : b ∈ frs X.stack
  · obtain ⟨sl, e1⟩ := slot b o q (I.stkFree b hb) hb
    exact ⟨_, e1⟩
  · obtain ⟨o', e1⟩ := kb2 b o q hb
    exact ⟨o', st b o' e1⟩
/-- except D: .. -/
theorem caught {H' : Hp} {s' : Shared} {E : XK} {C Cx' : Addr} {v : Value} {x : Str} {np pos : Pos} {b0 : Stmt} {suite : List Stmt} {ts : TS} {D : Ends} {EX : Value → Shared → Prop} (I : Inv X pins σ H s) (hst : X.stack = X.env :: X.outer) (hfr : X.env.frame = some X.env.locals)
    (hx : CXN X.prog X.w (.ref C) X.stack H s E v s') (hg : Gl X x) (hm : X.mg x = some (.ref Cx'))
    (hmat : ∀ (h : Heap) (g : Array GenState) (d : Drawn) (t : Nat) (os : OsState) (e : Addr) (oe : Obj) (A : Around) (Q : Bool → Shared → Prop) (E : Value → Shared → Prop), X.K.In h → h.get? e = some oe → oe.cls = .ref C → Q true ⟨h, g, d, t, os⟩ → wpAny (model X.prog X.w) A (excMatches (.ref e) (.ref Cx')) Q E ⟨h, g, d, t, os⟩)
    (hs : ∀ e oe, oe.cls = .ref C → PSs (X.inX e oe) (b0 :: suite) ts) (hq : ∀ H', E v none H' → ts D σ H') (hdb : (x == ("__debug__" : Str)) = false := by decide) :
    wpAny (model X.prog X.w) X.A (noteFrame v X.env) (fun _ s2 => wpAny (model X.prog X.w) X.A (setFlight v none) (fun _ s3 => wpAny (model X.prog X.w) X.A (handleBy v X.env [.ExceptHandler (some (.Name x np)) none (b0 :: suite) pos]) (SP X pins D) EX s3) EX s2) EX s' := by
  obtain ⟨a, H', rfl, hos, hbare, un, hna, ⟨B, a0, fl, hokB, keepB, keep2⟩, hE⟩ := hx
  have fl' := fl
  rw [hst] at fl'
  have locF : X.env.locals ∈ frs X.stack := by
    rw [hst]
    unfold frs
    rw [List.filterMap_cons, hfr]
    exact List.mem_cons_self
  have apart : ∀ {h : Heap}, Heap.FlyingW B (X.env :: X.outer) a (.ref C) a0 h → ∃ oe, h.get? a = some oe ∧ oe.cls = .ref C ∧ a ≠ X.env.locals ∧ a ∉ X.fs ∧ ∀ v, oe.data ≠ .cell v := fun {h} z => by
    obtain ⟨oe, vs, T, oT, ts, he, hc, hd, h1, hnT, hTe, hT, hdT, h3⟩ := z.2.2.2
    refine ⟨oe, he, hc.1, fun w => ?_, fun w => ?_, fun v q => by rw [hd] at q; cases q⟩
    · obtain ⟨_, ⟨L', o, hf, hn', ho, hnf⟩, _⟩ := z.2.2.1
      rw [hfr] at hf
      cases hf
      rw [← w, he] at ho
      cases ho
      exact hnf _ hd
    · obtain ⟨_, o, ho, hnf⟩ := (z.2.2.1).2.2.mem w
      rw [he] at ho
      cases ho
      exact hnf _ hd
  refine wpAny_looks_onW (by rw [I.ok.frames, hst]) hfr fl' fun h4 held4 sm4 => ?_
  refine wpAny_landsW held4 fun h5 fl5 sm5 => ?_
  have I5 := inv_came I hos hbare un hokB keepB keep2 fl5.1 (sm4.trans sm5)
  obtain ⟨oe5, p1, p2, p3, p4, p5⟩ := apart fl5
  refine wpAny_handleBy_cons (codeAny_handlers_test (ld_glob (X := X.inX a oe5) (I5.inX p1 hna p3 p4 p5) hg hm ?_ hdb)) (by intro z; cases z)
  refine hmat h5 _ _ _ _ a oe5 _ _ _ I5.kIn p1 p2 (codeAny_handlers_suite ?_)
  refine lands_againW fl5 fun h6 fl6 sm6 => ?_
  have I6 := inv_came I hos hbare un hokB keepB keep2 fl6.1 ((sm4.trans sm5).trans sm6)
  obtain ⟨oe6, r1, r2, r3, r4, r5⟩ := apart fl6
  refine wpAny_mono (hs a oe6 r2 pins _ σ H' D (I6.inX r1 hna r3 r4 r5) (hq H' hE)) (fun f s2 z => ?_) fun _ _ z => z.elim
  exact z.outX I.ok
end
end L2


set_option Elab.async false
set_option linter.all false
set_option maxRecDepth 100000
namespace L2
open PySem PySem.Spec PyProof.Rows
section
variable {prog : Program} {w : World} {A : Around} {E : Value → Shared → Prop} {K : PySem.W.Frag} {h : Heap} {g : Array GenState} {d : Drawn} {t : Nat} {os : OsState} {a C : Addr} {o : Obj}
structure ExFacts (K : PySem.W.Frag) (C : Addr) : Prop where
  exc : PySem.W.excIn K C bmV "ValueError.__new__" = true
  ga : PySem.W.findIn K (.ref C) "__getattribute__" = some (some (.builtin "BaseException.__getattribute__"))
  gt : PySem.W.findIn K (.ref C) "__getattr__" = some none
  cl : PySem.W.findIn K (.ref C) "__class__" = some (some (.builtin "object.__class__"))
  sb : PySem.W.subIn K (.ref C) (.type "BaseException") = some true
  so : PySem.W.subIn K (.ref C) (.type "object") = some true
theorem exc_ty (hx : h.get? a = some o) (hc : o.cls = .ref C) (M : Model) : PySem.W.Looks M h (typeOf (.ref a)) (.ref C) := by
  intro A' Q' E' s' k q
  show wpAny M A' (do let z ← loadPart a (some headPart); pure z.cls) Q' E' s'
  exact wpAny_bind (wpAny_loadPart (k _ _ hx) (wpAny_pure (by rw [hc]; exact q)))
open Builtin Builtin.ObjectAttr Builtin.Getset_descriptor in
theorem exc_get {R : Result → Shared → Prop} (X : K.In h) (hx : h.get? a = some o) (hc : o.cls = .ref C) (FX : ExFacts K C) (hq : R (.ok (.ret (.ref C))) ⟨h, g, d, t, os⟩) :
    codeAny (model prog w) A (.call (.builtin "getset_descriptor.__get__") ⟨[.builtin "object.__class__", .ref a, .ref C], []⟩) R ⟨h, g, d, t, os⟩ := by
  have L0 := exc_ty hx hc (model prog w)
  have L1 := PySem.W.looks_subIn (M := model prog w) X FX.so
  refine codeAny_call_builtin F.slot_gs_get.plain F.entry_gs_get (F.slot_gs_get.check _ _ _ _ _ _ _ _ F.typeOf_object_class (F.args_gs_get _ _ _) ?_)
  unfold Builtin.«getset_descriptor.__get__» descrGet
  rw [PySem.W.dga_obj]
  refine wpAny_bind (wpAny_pure ?_)
  unfold descrGetter descrCheckInstance descrNameAndClass isInstance
  simp only [PySem.W.KF.owner_class]
  repeat lk
  refine ⟨Code.quiet_builtin _ (by decide +kernel), codeAny_builtin F.entry_object_class ?_⟩
  unfold Builtin.«object.__class__» shownTypeOf
  repeat lk
  exact hq
theorem exc_check {M : Model} {nameV : Value} {Q : Unit → Shared → Prop} (X : K.In h) (hx : h.get? a = some o) (hc : o.cls = .ref C) (FX : ExFacts K C) (hq : Q () ⟨h, g, d, t, os⟩) :
    wpAny M A (checkBuiltinCall "BaseException.__getattribute__" ⟨[.ref a, nameV], []⟩) Q E ⟨h, g, d, t, os⟩ := by
  have hk : builtinKind "BaseException.__getattribute__" = some .slot := by decide +kernel
  have hsplit : splitId "BaseException.__getattribute__" = some ("BaseException", "__getattribute__") := by decide +kernel
  have ha := F.args_bexc_ga (.ref a) nameV
  have L0 := exc_ty hx hc M
  have L1 := PySem.W.looks_subIn (M := M) X FX.sb
  simp only [checkBuiltinCall, hk, hsplit]
  refine wpAny_bind ?_
  · unfold isInstance
    refine wpAny_bind (L0.at (L1.at ?_))
    repeat (first | wp_step)
    exact hq
theorem exc_entry {tk : Tok} {Q : Fin → Shared → Prop} (X : K.In h) (hx : h.get? a = some o) (hc : o.cls = .ref C) (FX : ExFacts K C) (hq : Q (.done (.ret (.ref C))) ⟨h, g, d, t, os⟩) :
    wpAny (model prog w) A (Builtin.«object.__getattribute__» ⟨[.ref a, .str "__class__" tk], []⟩) Q E ⟨h, g, d, t, os⟩ := by
  have hT5 : (⟨h, g, d, t, os⟩ : Shared).TypeIs (.builtin "object.__class__") "getset_descriptor" := F.typeOf_object_class
  have L3 := PySem.W.looks_findIn (M := model prog w) X FX.cl
  have f5 := F.typeOf_object_class
  have f6 := F.slot_gs_get.lookup
  have f7 := F.slot_gs_set.lookup
  repeat (any_goals (first | assumption | (with_reducible refine wpAny_loadPart_at hx ?_; rw [hc]) | with_reducible refine wpAny_bind (L3.at ?_) | with_reducible refine (L3.at ?_) | wp_step))
  refine exc_get X hx hc FX ?_
  repeat (any_goals (first | assumption | wp_step))
theorem exc_class {Q : Option Value → Shared → Prop} (X : K.In h) (hx : h.get? a = some o) (hc : o.cls = .ref C) (FX : ExFacts K C) (hq : Q (some (.ref C)) ⟨h, g, d, t + 1, os⟩) :
    wpAny (model prog w) A (getAttr? (.ref a) "__class__") Q E ⟨h, g, d, t, os⟩ := by
  have L0 := exc_ty hx hc (model prog w)
  have L1 := PySem.W.looks_findIn (M := model prog w) X FX.ga
  have L2' := PySem.W.looks_findIn (M := model prog w) X FX.gt
  unfold getAttr? getAttrBy? getAttrBy
  refine wpAny_bind (wpAny_mkText (wpAny_bind (wpAny_attempt (wpAny_holding (wpAny_bind (L0.at (wpAny_bind (L1.at ?_))))))))
  dsimp only
  have hx2 : (Value.builtin "BaseException.__getattribute__" == Value.builtin "object.__getattribute__") = false := by decide +kernel
  rw [hx2, Bool.and_false, if_neg Bool.false_ne_true]
  unfold getAttrByItsOwn hookBefore
  have f3 := F.attrBase_ValueError.ga.bind (.ref a)
  have hx0 : (false && onTheHeap (Value.builtin "BaseException.__getattribute__")) = false := rfl
  repeat (any_goals (first | assumption | with_reducible refine wpAny_bind (L2'.at ?_) | with_reducible refine (L2'.at ?_) | (with_reducible refine wpAny_loadPart_at hx ?_; rw [hc]) | wp_step))
  refine codeAny_call_builtin F.attrBase_ValueError.ga.plain F.entry_bexc_ga (exc_check X hx hc FX (exc_entry X hx hc FX ?_))
  repeat (any_goals (first | assumption | wp_step))
theorem kitx_exc (FX : ExFacts K C) (hcl : (PySem.W.clsIn K C).isSome = true) (hc : o.cls = .ref C) : PySem.W.KitX K (.ref a) (.ref C) (fun h => h.get? a = some o) where
  ty := fun M _ _ I => exc_ty I hc M
  it := fun _ _ X _ => by
    unfold PySem.W.clsIn at hcl
    split at hcl
    · rename_i c' d' cd' sl' ho
      intro A' Q' E' s' k q
      unfold isType loadHead
      exact wpAny_bind (wpAny_loadPart (k _ _ (X _ _ ho)) (wpAny_pure q))
    · cases hcl
  ne := fun h tp dd its n sl X htp => by
    refine Bool.eq_false_iff.mpr fun q => ?_
    have e : C = tp := Value.ref.inj (beq_iff_eq.mp q)
    subst e
    unfold PySem.W.clsIn at hcl
    split at hcl
    · rename_i c' d' cd' sl' ho
      have z := (X _ _ ho).symm.trans htp
      cases z
    · cases hcl
  ca := fun {_ _ _ _ _ s} X I k => by
    obtain ⟨h, g, d, t, os⟩ := s
    exact exc_class X I hc FX k
end
end L2


set_option Elab.async false
set_option linter.all false
set_option maxRecDepth 100000
namespace L2
open PySem PySem.Spec PyProof.Rows
/-- except D: matches an object whose class is D or below -/
theorem exc_matches {M : Model} {K : PySem.W.Frag} {h : Heap} {g : Array GenState} {d : Drawn} {t : Nat} {os : OsState} {e C D : Addr} {oe : Obj} {A : Around} {Q : Bool → Shared → Prop} {E : Value → Shared → Prop}
    (hD : PySem.W.kitCls K (.ref C) (.ref D) = some true) (hB : PySem.W.subIn K (.ref D) (.type "BaseException") = some true) (X : K.In h) (he : h.get? e = some oe) (hc : oe.cls = .ref C) (hq : Q true ⟨h, g, d, t, os⟩) :
    wpAny M A (excMatches (.ref e) (.ref D)) Q E ⟨h, g, d, t, os⟩ := by
  obtain ⟨hty, his, hsub⟩ := PySem.W.kit_cls (M := M) X hD
  have LT := exc_ty he hc M
  have LB := PySem.W.looks_subIn (M := M) X hB
  have f := tc_notTuple
  unfold excMatches isInstance isExcClass
  refine wpAny_bind (wpAny_bind (hty.at ?_))
  rw [f]
  refine wpAny_pure ?_
  simp only [Bool.false_eq_true, if_false]
  refine wpAny_bind (wpAny_pure ?_)
  simp only [List.forIn_cons, List.forIn_nil, bind_assoc]
  refine wpAny_bind (his.at ?_)
  simp only [if_true]
  refine wpAny_bind (LB.at ?_)
  simp only [Bool.not_true, Bool.false_eq_true, if_false, pure_bind]
  refine wpAny_bind (LT.at ?_)
  refine wpAny_bind (hsub.at ?_)
  simp only [if_true, pure_bind]
  exact wpAny_pure hq
section
variable {X : Cx} {CX : CXT} {k : Nat} {f C : Addr} {fd : FuncData} {ps : List Str} {sp : Sp} {x : Str} {p pos : Pos} {e : Expr} {es : List Expr} {t : TA}
/-- a call that may raise -/
theorem call_flies {pins : List (Addr × Obj)} {σ : St} {H : Hp} {s : Shared} {Q : VK} {E : XK} {EX : Value → Shared → Prop} (F : FnOk X.prog X.w X.K X.mg X.base CX k f fd ps sp) (hr : Room k X.A) (hg : Gl X x) (hm : X.mg x = some (.ref f)) (hk : PySem.W.keepIn X.K (.ref f) = true) (hb : Binds X.K fd ps [])
    (ha : PA X (e :: es) t) (hnx : ∀ e s, X.xe e s → False) (I : Inv X pins σ H s) (h : t σ H fun vs H1 => sp vs H1 Q E) (hE : ∀ H1 s1 v s', Inv X pins σ H1 s1 → CX X.stack H1 s1 E v s' → EX v s')
    (hdb : (x == ("__debug__" : Str)) = false) (he : starEach (e :: es) X.env = (false, eval e X.env) :: starEach es X.env) (hpl : (backTo pos (starEach es X.env)).any (·.1) = false) :
    wpAny (model X.prog X.w) X.A (eval (.Call (.Name x p) (e :: es) [] pos) X.env) (EP X pins σ Q) EX s := by
  refine wpAny_Call_Name_kw (ld_glob I hg hm ?_ hdb)
  refine PySem.W.callWith_K (h₀ := X.base) I.ok.mod.kin hk (wpAny_mono (ha pos pins s σ H _ I h) (fun us s1 ⟨vs, H1, I1, r, q⟩ => ⟨I1.kIn, ?_⟩) fun e s z => (hnx e s z).elim) he hpl
  have hl : (us ++ []).length = ps.length := by rw [List.append_nil, ← r.length]; exact F.len _ _ _ _ q
  have hb' := hb s1 us I1.kIn hl
  rw [List.append_nil] at hb'
  refine wpAny_call (codeAny_mono (F.run X.A X.stack s1 H1 ⟨us, []⟩ us vs Q E hr I1.env0 hb' r q) fun r s' hq => ?_)
  cases r with
  | error e => exact hE H1 s1 e s' I1 hq
  | ok fl =>
    cases fl with
    | ret u => exact I1.after hq
    | next => exact False.elim hq
    | brk => exact False.elim hq
    | cont => exact False.elim hq
/-- an exception of the class at C that came out of a call here is handled by hs, whose reading is ts -/
def Lands (X : Cx) (C : Addr) (hs : List ExceptHandler) (ts : TS) : Prop :=
  ∀ (pins : List (Addr × Obj)) (σ : St) (H : Hp) (s s' : Shared) (E : XK) (v : Value) (D : Ends) (EX : Value → Shared → Prop), Inv X pins σ H s → CXN X.prog X.w (.ref C) X.stack H s E v s' → (∀ H', E v none H' → ts D σ H') →
    wpAny (model X.prog X.w) X.A (noteFrame v X.env) (fun _ s2 => wpAny (model X.prog X.w) X.A (setFlight v none) (fun _ s3 => wpAny (model X.prog X.w) X.A (handleBy v X.env hs) (SP X pins D) EX s3) EX s2) EX s'
theorem lands {D : Addr} {y : Str} {np hpos : Pos} {b0 : Stmt} {suite : List Stmt} {ts : TS} (hst : X.stack = X.env :: X.outer) (hfr : X.env.frame = some X.env.locals) (hg : Gl X y) (hm : X.mg y = some (.ref D))
    (hD : PySem.W.kitCls X.K (.ref C) (.ref D) = some true) (hB : PySem.W.subIn X.K (.ref D) (.type "BaseException") = some true) (hs : ∀ e oe, oe.cls = .ref C → PSs (X.inX e oe) (b0 :: suite) ts) (hdb : (y == ("__debug__" : Str)) = false := by decide) :
    Lands X C [.ExceptHandler (some (.Name y np)) none (b0 :: suite) hpos] ts := fun pins σ H s s' E v D' EX I hx hq =>
  caught (H' := H) I hst hfr hx hg hm (fun h g d t os e oe A Q E K he hc q => exc_matches hD hB K he hc q) hs hq hdb
/-- try: f(..) except .. -/
theorem ps_tryE {h0 : ExceptHandler} {hs : List ExceptHandler} {ts : TS} {epos tpos : Pos} (F : FnOk X.prog X.w X.K X.mg X.base (CXN X.prog X.w (.ref C)) k f fd ps sp) (hr : Room k X.A) (hg : Gl X x) (hm : X.mg x = some (.ref f)) (hk : PySem.W.keepIn X.K (.ref f) = true) (hb : Binds X.K fd ps [])
    (ha : PA X (e :: es) t) (L : Lands X C (h0 :: hs) ts) (hnx : ∀ e s, X.xe e s → False := by exact fun _ _ z => z) (hdb : (x == ("__debug__" : Str)) = false := by decide) (he : starEach (e :: es) X.env = (false, eval e X.env) :: starEach es X.env := by rfl) (hpl : (backTo pos (starEach es X.env)).any (·.1) = false := by rfl)
    (hsw : swapsWith (.Call (.Name x p) (e :: es) [] pos) none epos.line X.env = pure false := by rfl) :
    PS X (.Try [.Expr (.Call (.Name x p) (e :: es) [] pos) epos] (h0 :: hs) [] [] tpos) (fun D σ H => t σ H fun vs H1 => sp vs H1 (fun _ H2 => D.nx σ H2) (fun _ _ H' => ts D σ H')) := by
  intro pins s σ H D I h
  refine wpAny_Try_except (wpAny_execs_cons (wpAny_Expr_any (thn (call_flies F hr hg hm hk hb ha hnx I h (fun H1 s1 v s' I1 z => L pins σ H1 s1 s' _ v D _ I1 z fun _ q => q) hdb he hpl) fun v s1 ⟨y, H1, I1, r1, q1⟩ => ?_) I.quiet hsw))
  exact wpAny_execs_nil (wpAny_execs_nil ⟨σ, H1, I1, q1⟩)
/-- try: y = f(..) except .. -/
theorem ps_tryS {h0 : ExceptHandler} {hs : List ExceptHandler} {ts : TS} {i : Nat} {y : Str} {ypos epos tpos : Pos} (hN : X.N.Nodup) (hi : X.N[i]? = some y) (hy : Loc X.env.scope y) (F : FnOk X.prog X.w X.K X.mg X.base (CXN X.prog X.w (.ref C)) k f fd ps sp) (hr : Room k X.A) (hg : Gl X x) (hm : X.mg x = some (.ref f)) (hk : PySem.W.keepIn X.K (.ref f) = true) (hb : Binds X.K fd ps [])
    (ha : PA X (e :: es) t) (L : Lands X C (h0 :: hs) ts) (hnx : ∀ e s, X.xe e s → False := by exact fun _ _ z => z) (hdb : (x == ("__debug__" : Str)) = false := by decide) (he : starEach (e :: es) X.env = (false, eval e X.env) :: starEach es X.env := by rfl) (hpl : (backTo pos (starEach es X.env)).any (·.1) = false := by rfl)
    (hsw : swapsWith (.Call (.Name x p) (e :: es) [] pos) (some (.Name y ypos)) epos.line X.env = pure false := by rfl) (hf : X.fn y = true ∨ X.env.scope.names.lookup y = some .local := by first | exact .inl rfl | exact .inr rfl | assumption) :
    PS X (.Try [.Assign [.Name y ypos] (.Call (.Name x p) (e :: es) [] pos) epos] (h0 :: hs) [] [] tpos) (fun D σ H => t σ H fun vs H1 => sp vs H1 (fun v H2 => D.nx (σ.set i (some v)) H2) (fun _ _ H' => ts D σ H')) := by
  intro pins s σ H D I h
  refine wpAny_Try_except (wpAny_execs_cons (wpAny_Assign_Name (thn (call_flies F hr hg hm hk hb ha hnx I h (fun H1 s1 v s' I1 z => L pins σ H1 s1 s' _ v D _ I1 z fun _ q => q) hdb he hpl) fun v s1 ⟨y, H1, I1, r1, q1⟩ => ?_) hsw))
  exact store_ok I1 hN hi hy r1 (fun s2 I2 => wpAny_execs_nil (wpAny_execs_nil ⟨_, H1, I2, q1⟩)) hf
end
/-! ### except D as e -/
section
variable {X : Cx} {pins : List (Addr × Obj)} {σ : St} {H : Hp} {s : Shared}
/-- a name goes -/
theorem Inv.forget {i : Nat} {x : Str} {m : Str → Option Value} {v : Option Value} {h' : Heap} {tk : Nat} (I : Inv X pins σ H s) (hN : X.N.Nodup) (hi : X.N[i]? = some x)
    (hn : s.heap.Ns X.env.locals m) (hl : ∀ (i : Nat) (x : Str) (v : V), X.N[i]? = some x → σ[i]? = some (some v) → Vis X.env.scope x → ∃ u, RelV v u ∧ Look X.env s.heap m x u)
    (hn' : h'.Ns X.env.locals (fun y => if y = x then v else m y)) (hs : Heap.SameBut X.env.locals s.heap h') : Inv X pins (σ.set i none) H { s with heap := h', toks := tk } := by
  have hiσ : i < σ.length := by rw [I.len]; exact (List.getElem?_eq_some_iff.mp hi).1
  have cne := I.cne
  obtain ⟨oL, _, _, hoL, _⟩ := id hn
  have tracked : HOk X.prog X.w H h' := fun b ob e => by
    refine (I.hok b ob e).stay (fun c w' hc q => (hs.2 c ?_).trans q) (fun _ q => q) fun _ _ q => q
    rintro rfl
    rcases hc with rfl | hc
    · rw [I.free] at e; cases e
    · rw [I.free] at hc; cases hc
  refine ⟨I.ok, I.os, I.bare, ⟨fun b o e n hb hx => ?_, fun b o e n hb hx => ?_, I.base.free, fun b o e hx => ?_, I.base.tups, I.base.frzs, I.base.tbls⟩, ⟨_, hn', fun j y v' e1 e2 e3 => ?_⟩, fun y c e => ?_, I.free, I.freeC, fun p hp => ?_, tracked, by simpa using I.len⟩
  · exact (hs.2 b (Nat.ne_of_lt (Nat.lt_of_lt_of_le (Heap.lt_size e) I.ok.above))).trans (I.base.keep b o e n hb hx)
  · obtain ⟨sl, e1⟩ := I.base.slot b o e n hb hx
    exact ⟨sl, (hs.2 b (Nat.ne_of_lt (Nat.lt_of_lt_of_le (Heap.lt_size e) I.ok.above))).trans e1⟩
  · obtain ⟨o', e1⟩ := I.base.there b o e hx
    exact ⟨o', (hs.2 b (Nat.ne_of_lt (Nat.lt_of_lt_of_le (Heap.lt_size e) I.ok.above))).trans e1⟩
  · by_cases hj : j = i
    · subst hj
      rw [List.getElem?_set_self hiσ] at e2
      cases e2
    · rw [List.getElem?_set_ne (Ne.symm hj)] at e2
      obtain ⟨u', r', q⟩ := hl j y v' e1 e2 e3
      refine ⟨u', r', ?_⟩
      rcases q with ⟨k, e⟩ | ⟨k, c, e, z⟩
      · refine .inl ⟨k, ?_⟩
        have : y ≠ x := fun e => hj (nodup_ix hN e1 (e ▸ hi))
        simp [this, e]
      · exact .inr ⟨k, c, e, z.sameBut hs (cne y c e)⟩
  · obtain ⟨w', z⟩ := I.cell y c e
    exact ⟨w', z.sameBut hs (cne y c e)⟩
  · obtain ⟨e, n, ne, nf, d⟩ := I.pin p hp
    exact ⟨(hs.2 p.1 ne).trans e, n, ne, nf, d⟩
/-- behind the suite the name is unbound -/
theorem goes_ok {i : Nat} {n : Str} {pos : Pos} {D : Ends} {f : Flow} {EX : Value → Shared → Prop} (hN : X.N.Nodup) (hi : X.N[i]? = some n) (hk : X.env.kindOf n = some .local)
    (h : SP X pins { nx := fun σ' H' => D.nx (σ'.set i none) H', rt := D.rt, bk := fun σ' H' => D.bk (σ'.set i none) H', ct := fun σ' H' => D.ct (σ'.set i none) H' } f s) :
    wpAny (model X.prog X.w) X.A (do bindName X.env n .none; unbindBehindTheSuite X.env n pos) (fun _ s3 => SP X pins D f s3) EX s := by
  have hc : ∀ {σ' H'}, Inv X pins σ' H' s → (X.env.scope.kind == .class || (X.env.scope.kind == .module && X.env.locals != X.env.globals)) = false := fun I => by rw [I.ok.kind]; rfl
  cases f with
  | next =>
    obtain ⟨σ', H', I, q⟩ := h
    obtain ⟨m, hn, hl⟩ := id I.loc
    exact wpAny_nameGoes_keeps hk hn (hc I) fun h' v hn' hs => ⟨_, H', I.forget hN hi hn hl hn' hs, q⟩
  | brk =>
    obtain ⟨σ', H', I, q⟩ := h
    obtain ⟨m, hn, hl⟩ := id I.loc
    exact wpAny_nameGoes_keeps hk hn (hc I) fun h' v hn' hs => ⟨_, H', I.forget hN hi hn hl hn' hs, q⟩
  | cont =>
    obtain ⟨σ', H', I, q⟩ := h
    obtain ⟨m, hn, hl⟩ := id I.loc
    exact wpAny_nameGoes_keeps hk hn (hc I) fun h' v hn' hs => ⟨_, H', I.forget hN hi hn hl hn' hs, q⟩
  | ret u =>
    obtain ⟨v, σ', H', I, r, q⟩ := h
    obtain ⟨m, hn, hl⟩ := id I.loc
    exact wpAny_nameGoes_keeps hk hn (hc I) fun h' _ hn' hs => ⟨v, _, H', I.forget hN hi hn hl hn' hs, r, q⟩
/-- except D as n -/
theorem lands_as {i : Nat} {C D : Addr} {y n : Str} {np hpos : Pos} {b0 : Stmt} {suite : List Stmt} {ts : Addr → Obj → TS} (hN : X.N.Nodup) (hi : X.N[i]? = some n) (hk : X.env.kindOf n = some .local) (hlc : Loc X.env.scope n)
    (hst : X.stack = X.env :: X.outer) (hfr : X.env.frame = some X.env.locals) (hg : Gl X y) (hm : X.mg y = some (.ref D))
    (hD : PySem.W.kitCls X.K (.ref C) (.ref D) = some true) (hB : PySem.W.subIn X.K (.ref D) (.type "BaseException") = some true) (hs : ∀ e oe, oe.cls = .ref C → PSs (X.inX e oe) (b0 :: suite) (ts e oe)) (hdb : (y == ("__debug__" : Str)) = false := by decide) (hf : X.fn n = true ∨ X.env.scope.names.lookup n = some .local := by first | exact .inl rfl | exact .inr rfl | assumption) :
    Lands X C [.ExceptHandler (some (.Name y np)) (some n) (b0 :: suite) hpos] (fun D σ H => ∀ e oe, oe.cls = .ref C → ts e oe { nx := fun σ' H' => D.nx (σ'.set i none) H', rt := D.rt, bk := fun σ' H' => D.bk (σ'.set i none) H', ct := fun σ' H' => D.ct (σ'.set i none) H' } (σ.set i (some (.ref e))) H) := by
  intro pins σ H s s' E v Dd EX I hx hq
  obtain ⟨a, H', rfl, hos, hbare, un, hna, ⟨B, a0, fl, hokB, keepB, keep2⟩, hE⟩ := hx
  have fl' := fl
  rw [hst] at fl'
  have hiσ : i < σ.length := by rw [I.len]; exact (List.getElem?_eq_some_iff.mp hi).1
  have apart : ∀ {h : Heap}, Heap.FlyingW B (X.env :: X.outer) a (.ref C) a0 h → ∃ oe, h.get? a = some oe ∧ oe.cls = .ref C ∧ a ≠ X.env.locals ∧ a ∉ X.fs ∧ ∀ v, oe.data ≠ .cell v := fun {h} z => by
    obtain ⟨oe, vs, T, oT, ts, he, hc, hd, h1, hnT, hTe, hT, hdT, h3⟩ := z.2.2.2
    refine ⟨oe, he, hc.1, fun w => ?_, fun w => ?_, fun v q => by rw [hd] at q; cases q⟩
    · obtain ⟨_, ⟨L', o, hf, hn', ho, hnf⟩, _⟩ := z.2.2.1
      rw [hfr] at hf
      cases hf
      rw [← w, he] at ho
      cases ho
      exact hnf _ hd
    · obtain ⟨_, o, ho, hnf⟩ := (z.2.2.1).2.2.mem w
      rw [he] at ho
      cases ho
      exact hnf _ hd
  refine wpAny_looks_onW (by rw [I.ok.frames, hst]) hfr fl' fun h4 held4 sm4 => ?_
  refine wpAny_landsW held4 fun h5 fl5 sm5 => ?_
  have I5 := inv_came I hos hbare un hokB keepB keep2 fl5.1 (sm4.trans sm5)
  obtain ⟨oe5, p1, p2, p3, p4, p5⟩ := apart fl5
  refine wpAny_handleBy_cons (codeAny_handlers_test (ld_glob (X := X.inX a oe5) (I5.inX p1 hna p3 p4 p5) hg hm ?_ hdb)) (by intro z; cases z)
  refine exc_matches hD hB I5.kIn p1 p2 (codeAny_handlers_suite_as ?_)
  refine lands_againW fl5 fun h6 fl6 sm6 => ?_
  have I6 := inv_came I hos hbare un hokB keepB keep2 fl6.1 ((sm4.trans sm5).trans sm6)
  obtain ⟨oe6, r1, r2, r3, r4, r5⟩ := apart fl6
  refine store_ok (X := X.inX a oe6) (v := .ref a) (I6.inX r1 hna r3 r4 r5) hN hi hlc rfl (fun s7 I7 => ?_) hf
  refine wpAny_mono (hs a oe6 r2 pins s7 _ H' _ I7 (hq H' hE a oe6 r2)) (fun f s2 z => ?_) fun _ _ z => z.elim
  exact goes_ok hN hi hk (z.outX I.ok)
/-- isinstance(e, D) of the exception that is handled -/
theorem call_isinX {a C : Addr} {o : Obj} (hp : (a, o) ∈ X.pn) (hc : o.cls = .ref C) (FX : ExFacts X.K C) (hcl : (PySem.W.clsIn X.K C).isSome = true) :
    CallR X (.builtin "isinstance") (fun xs H Q => ∃ c b, xs = [.ref a, c] ∧ ((∃ T, c = .ty T ∧ PySem.W.kitOne X.K (.ref C) (.type T) = some b) ∨ (∃ D, c = .ref D ∧ PySem.W.kitOne X.K (.ref C) (.ref D) = some b)) ∧ Q (.bl b) H) := by
  intro pins s σ H xs us Q I r h
  obtain ⟨c, b, rfl, hb, q⟩ := h
  obtain ⟨u, w', rfl, ru, rw'⟩ := vals2 r
  cases (show u = Value.ref a from ru)
  have hx := (I.pin (a, o) (List.mem_append_left _ hp)).1
  rcases hb with ⟨T, rfl, e⟩ | ⟨D, rfl, e⟩
  · cases (show w' = Value.type T from rw')
    exact PySem.W.kia_one (kitx_exc FX hcl hc) I.kIn hx e (fun z => nomatch z) fun tk => ⟨.bl b, H, I.tok tk, rfl, q⟩
  · cases (show w' = Value.ref D from rw')
    exact PySem.W.kia_one (kitx_exc FX hcl hc) I.kIn hx e (fun z => nomatch z) fun tk => ⟨.bl b, H, I.tok tk, rfl, q⟩
end
/-! ### [b, c].count(d) -/
def rCount : V → List V → Hp → VK → Prop := fun x vs H Q => ∃ l a b k, x = .ref l ∧ vs = [.bl k] ∧ H l = some (.lst [.bl a, .bl b]) ∧ Q (.int ((if a = k then 1 else 0) + (if b = k then 1 else 0))) H
theorem mt_count {X : Cx} : MtM X "list.count" rCount := by
  intro pins s σ H x vs v us Q I rx rv h
  obtain ⟨l, a, b, k, rfl, rfl, hH, q⟩ := h
  cases rx
  obtain ⟨u, rfl, ru⟩ := rv.one
  cases (show u = Value.bool k from ru)
  obtain ⟨z, its, n, r, hl, e⟩ := I.lstM hH
  obtain ⟨u1, u2, rfl, r1, r2⟩ := vals2 r
  cases (show u1 = Value.bool a from r1)
  cases (show u2 = Value.bool b from r2)
  refine count_list_bools (vs := [.bool a, .bool b]) (xs := [.bool a, .bool b]) (as := []) (hp := s.heap) ⟨_, e, rfl, n, rfl⟩ (.cons (as := []) (bs := []) (.bool _) (.cons (as := []) (bs := []) (.bool _) .nil)) rfl ?_
  refine ⟨.int _, H, I.tok _, ⟨_, rfl⟩, ?_⟩
  refine (congrArg (fun z => Q (.int z) H) ?_).mp q
  cases a <;> cases b <;> cases k <;> rfl
end L2

set_option Elab.async false
set_option linter.all false
set_option maxRecDepth 100000
set_option maxHeartbeats 4000000
namespace C
open PySem PySem.Spec PyProof.Rows L2
def top (i : Nat) : Stmt := PySem.Challenge.pw_foldrows_k12_whole_narrowest.main.body.getD i (.Pass ⟨0, 0, 0, 0⟩)
abbrev s_flat : Stmt := top 5
theorem sc_flat : FnScope ["thing"] ["thing"] (defScope s_flat) := ⟨rfl, rfl, rfl, by decide +kernel, rfl, by decide +kernel, by decide +kernel⟩
abbrev s_flat_size : Stmt := top 6
theorem sc_flat_size : FnScope ["thing"] ["thing"] (defScope s_flat_size) := ⟨rfl, rfl, rfl, by decide +kernel, rfl, by decide +kernel, by decide +kernel⟩
abbrev s_filled : Stmt := top 8
theorem sc_filled : FnScope ["words", "room", "rows", "used", "word", "grown"] ["words", "room"] (defScope s_filled) := ⟨rfl, rfl, rfl, by decide +kernel, rfl, by decide +kernel, by decide +kernel⟩
abbrev s_laid : Stmt := top 11
theorem sc_laid : FnScope ["thing", "width"] ["thing", "width"] (defScope s_laid) := ⟨rfl, rfl, rfl, by decide +kernel, rfl, by decide +kernel, by decide +kernel⟩
abbrev s_rows_of_thing : Stmt := top 12
theorem sc_rows_of_thing : FnScope ["thing", "width", "indent", "lead", "tail", "blanks", "row", "within"] ["thing", "width", "indent", "lead", "tail"] (defScope s_rows_of_thing) := ⟨rfl, rfl, rfl, by decide +kernel, rfl, by decide +kernel, by decide +kernel⟩
abbrev s_can_be_broken : Stmt := top 13
theorem sc_can_be_broken : FnScope ["thing"] ["thing"] (defScope s_can_be_broken) := ⟨rfl, rfl, rfl, by decide +kernel, rfl, by decide +kernel, by decide +kernel⟩
abbrev s_rows_of_parts : Stmt := top 14
theorem sc_rows_of_parts : FnScope ["parts", "width", "indent", "rows", "place", "part", "tail"] ["parts", "width", "indent"] (defScope s_rows_of_parts) := ⟨rfl, rfl, rfl, by decide +kernel, rfl, by decide +kernel, by decide +kernel⟩
abbrev s_rows_of_words : Stmt := top 15
theorem sc_rows_of_words : FnScope ["words", "width", "indent"] ["words", "width", "indent"] (defScope s_rows_of_words) := ⟨rfl, rfl, rfl, by decide +kernel, rfl, by decide +kernel, by decide +kernel⟩
abbrev s_narrowest : Stmt := top 17
theorem sc_narrowest : FnScope ["thing", "most", "low", "high", "middle"] ["thing", "most"] (defScope s_narrowest) := ⟨rfl, rfl, rfl, by decide +kernel, rfl, by decide +kernel, by decide +kernel⟩
abbrev s_will_do : Stmt := top 18
theorem sc_will_do : FnScope ["thing", "width", "most", "rows"] ["thing", "width", "most"] (defScope s_will_do) := ⟨rfl, rfl, rfl, by decide +kernel, rfl, by decide +kernel, by decide +kernel⟩
abbrev s__law_whole : Stmt := top 20
theorem sc__law_whole : FnScope ["_law_found"] ["_law_found"] (defScope s__law_whole) := ⟨rfl, rfl, rfl, by decide +kernel, rfl, by decide +kernel, by decide +kernel⟩
abbrev s__law_at : Stmt := top 21
theorem sc__law_at : FnScope ["_law_script", "_law_k"] ["_law_script", "_law_k"] (defScope s__law_at) := ⟨rfl, rfl, rfl, by decide +kernel, rfl, by decide +kernel, by decide +kernel⟩
abbrev s__law_word_by : Stmt := top 22
theorem sc__law_word_by : FnScope ["_law_salt", "_law_signs", "_law_size", "_law_made", "_law_k"] ["_law_salt"] (defScope s__law_word_by) := ⟨rfl, rfl, rfl, by decide +kernel, rfl, by decide +kernel, by decide +kernel⟩
abbrev s__law_tags : Stmt := top 23
theorem sc__law_tags : FnScope ["_law_thing", "_law_deep", "_law_inner"] ["_law_thing"] (defScope s__law_tags) := ⟨rfl, rfl, rfl, by decide +kernel, rfl, by decide +kernel, by decide +kernel⟩
abbrev s__law_step : Stmt := top 24
theorem sc__law_step : FnScope ["_law_frames", "_law_way", "_law_salt", "_law_parts", "_law_inner"] ["_law_frames", "_law_way", "_law_salt"] (defScope s__law_step) := ⟨rfl, rfl, rfl, by decide +kernel, rfl, by decide +kernel, by decide +kernel⟩
abbrev s__law_grown : Stmt := top 25
theorem sc__law_grown : FnScope ["_law_cells", "_law_frames", "_law_k"] ["_law_cells"] (defScope s__law_grown) := ⟨rfl, rfl, rfl, by decide +kernel, rfl, by decide +kernel, by decide +kernel⟩
abbrev s__law_flat_line : Stmt := top 26
theorem sc__law_flat_line : FnScope ["_law_thing", "_law_line", "_law_todo", "_law_one", "_law_k"] ["_law_thing"] (defScope s__law_flat_line) := ⟨rfl, rfl, rfl, by decide +kernel, rfl, by decide +kernel, by decide +kernel⟩
abbrev s__law_unbroken : Stmt := top 27
theorem sc__law_unbroken : FnScope ["_law_one", "_law_wide", "_law_width", "_law_cell"] ["_law_one", "_law_wide", "_law_width", "_law_cell"] (defScope s__law_unbroken) := ⟨rfl, rfl, rfl, by decide +kernel, rfl, by decide +kernel, by decide +kernel⟩
abbrev s__law_word_rows : Stmt := top 28
theorem sc__law_word_rows : FnScope ["_law_words", "_law_room", "_law_cell", "_law_rows", "_law_line", "_law_k", "_law_early"] ["_law_words", "_law_room", "_law_cell"] (defScope s__law_word_rows) := ⟨rfl, rfl, rfl, by decide +kernel, rfl, by decide +kernel, by decide +kernel⟩
abbrev s__law_other_rows : Stmt := top 29
theorem sc__law_other_rows : FnScope ["_law_thing", "_law_width", "_law_cells", "_law_rows", "_law_seen", "_law_todo", "_law_one", "_law_indent", "_law_lead", "_law_tail", "_law_cell", "_law_pad", "_law_line", "_law_row", "_law_k", "_law_behind"] ["_law_thing", "_law_width", "_law_cells"] (defScope s__law_other_rows) := ⟨rfl, rfl, rfl, by decide +kernel, rfl, by decide +kernel, by decide +kernel⟩
abbrev s__law_longest : Stmt := top 30
theorem sc__law_longest : FnScope ["_law_rows"] ["_law_rows"] (defScope s__law_longest) := ⟨rfl, rfl, rfl, by decide +kernel, rfl, by decide +kernel, by decide +kernel⟩
abbrev s__law_mixed : Stmt := top 31
theorem sc__law_mixed : FnScope ["_law_script"] ["_law_script"] (defScope s__law_mixed) := ⟨rfl, rfl, rfl, by decide +kernel, rfl, by decide +kernel, by decide +kernel⟩
abbrev s__law_refuses : Stmt := top 32
theorem sc__law_refuses : FnScope ["_law_thing", "_law_most", "e", "_law_under"] ["_law_thing", "_law_most"] (defScope s__law_refuses) := ⟨rfl, rfl, rfl, by decide +kernel, rfl, by decide +kernel, by decide +kernel⟩
abbrev s_law : Stmt := top 33
theorem sc_law : FnScope ["_law_script", "_law_thing", "_law_least", "_law_most", "_law_found", "_law_refused", "_law_rows", "_law_less", "_law_cells", "_law_others"] ["_law_script"] (defScope s_law) := ⟨rfl, rfl, rfl, by decide +kernel, rfl, by decide +kernel, by decide +kernel⟩
/-! ### what is seen of a def of the text; the names that stay the built-in ones -/
structure At (K : PySem.W.Frag) (mg : Str → Option Value) (x : Str) (st : Stmt) (ps : List Str) (f : Addr) (fd : FuncData) : Prop where
  F : Fun K x x st f fd
  m : mg x = some (.ref f)
  b : Binds K fd ps []
structure Bn (mg : Str → Option Value) : Prop where
  len : mg "len" = none
  isinstance : mg "isinstance" = none
  list : mg "list" = none
  str : mg "str" = none
  int : mg "int" = none
  range : mg "range" = none
  tuple : mg "tuple" = none
  bool : mg "bool" = none
  max : mg "max" = none
theorem le_size {n : Nat} (h : n ≤ 16777216) : n ≤ sizeLine := by rw [sizeLine_eq]; exact h
theorem lt_size {n : Nat} (h : n < 16777216) : n < sizeLine := by rw [sizeLine_eq]; exact h
theorem same_new {H : Hp} {p : Addr} (h : H p = none) (o : HO) : Same H (upd H p o) := fun b u q => by rw [upd_ne (ne_of_none q h)]; exact q
theorem same_upd {H H' : Hp} {p : Addr} (s : Same H H') (h : H p = none) (o : HO) : Same H (upd H' p o) := fun b u q => by rw [upd_ne (ne_of_none q h)]; exact s b u q
theorem len_app (a b : Str) : (a ++ b).length = a.length + b.length := by
  show (a.cps ++ b.cps).size = _
  rw [Array.size_append]
  rfl

/-! ### filled -/
abbrev szS (x : Str) : Nat := x.length
def RowsAt (H : Hp) : List Addr → List (List Str) → Prop
  | [], [] => True
  | a :: as, r :: rs => H a = some (.lst (r.map V.str)) ∧ RowsAt H as rs
  | _, _ => False
theorem RowsAt.mono {H H' : Hp} : ∀ {as : List Addr} {rs : List (List Str)}, RowsAt H as rs → (∀ a ∈ as, H' a = H a) → RowsAt H' as rs
  | [], [], _, _ => True.intro
  | a :: as, r :: rs, h, k => ⟨(k a List.mem_cons_self).trans h.1, RowsAt.mono h.2 fun b hb => k b (List.mem_cons_of_mem _ hb)⟩
  | [], _ :: _, h, _ => h.elim
  | _ :: _, [], h, _ => h.elim
theorem RowsAt.len {H : Hp} : ∀ {as : List Addr} {rs : List (List Str)}, RowsAt H as rs → as.length = rs.length
  | [], [], _ => rfl
  | _ :: as, _ :: rs, h => congrArg (· + 1) (RowsAt.len h.2)
  | [], _ :: _, h => h.elim
  | _ :: _, [], h => h.elim
theorem RowsAt.snoc {H : Hp} {a : Addr} {r : List Str} (ha : H a = some (.lst (r.map V.str))) : ∀ {as : List Addr} {rs : List (List Str)}, RowsAt H as rs → RowsAt H (as ++ [a]) (rs ++ [r])
  | [], [], _ => ⟨ha, True.intro⟩
  | _ :: as, _ :: rs, h => ⟨h.1, RowsAt.snoc ha h.2⟩
  | [], _ :: _, h => h.elim
  | _ :: _, [], h => h.elim
theorem RowsAt.last {H : Hp} {r : List Str} : ∀ {as : List Addr} {rs : List (List Str)}, RowsAt H as (rs ++ [r]) → ∃ bs a, as = bs ++ [a] ∧ RowsAt H bs rs ∧ H a = some (.lst (r.map V.str))
  | [], [], h => h.elim
  | [a], [], h => ⟨[], a, rfl, True.intro, h.1⟩
  | _ :: _ :: _, [], h => h.2.elim
  | [], _ :: _, h => h.elim
  | b :: as, s :: rs, h => by
    obtain ⟨bs, a, e, h1, h2⟩ := RowsAt.last h.2
    exact ⟨b :: bs, a, by rw [e]; rfl, ⟨h.1, h1⟩, h2⟩
theorem RowsAt.get {H : Hp} : ∀ {as : List Addr} {rs : List (List Str)} {i : Nat} {a : Addr}, RowsAt H as rs → as[i]? = some a → ∃ r, rs[i]? = some r ∧ H a = some (.lst (r.map V.str))
  | [], [], _, _, _, e => by simp at e
  | b :: as, r :: rs, 0, a, h, e => by
    have e' : b = a := by simpa using e
    exact ⟨r, rfl, by rw [← e']; exact h.1⟩
  | b :: as, r :: rs, i + 1, a, h, e => by
    obtain ⟨q, e1, e2⟩ := RowsAt.get (i := i) (a := a) h.2 (by simpa using e)
    exact ⟨q, by simpa using e1, e2⟩
  | [], _ :: _, _, _, h, _ => h.elim
  | _ :: _, [], _, _, h, _ => h.elim
theorem RowsAt.same {H H' : Hp} (s : Same H H') : ∀ {as : List Addr} {rs : List (List Str)}, RowsAt H as rs → RowsAt H' as rs
  | [], [], _ => True.intro
  | _ :: _, _ :: _, h => ⟨s _ _ h.1, RowsAt.same s h.2⟩
  | [], _ :: _, h => h.elim
  | _ :: _, [], h => h.elim
structure FillAt (H0 H' : Hp) (r : Addr) (as : List Addr) (rows : List (List Str)) : Prop where
  same : Same H0 H'
  new : H0 r = none
  at_ : H' r = some (.lst (as.map V.ref))
  rows : RowsAt H' as rows
  nd : as.Nodup
  ne : r ∉ as
  fresh : ∀ a ∈ as, H0 a = none
theorem fill_start {H : Hp} {r : Addr} (h : H r = none) : FillAt H (upd H r (.lst [])) r [] [] := ⟨same_new h _, h, upd_same, True.intro, List.nodup_nil, by simp, by simp⟩
theorem fill_on {H H' : Hp} {r z : Addr} {bs : List Addr} {rs : List (List Str)} {row : List Str} {w : Str} (F : FillAt H H' r (bs ++ [z]) (rs ++ [row])) (hb : RowsAt H' bs rs) :
    FillAt H (upd H' z (.lst (row.map V.str ++ [.str w]))) r (bs ++ [z]) (rs ++ [row ++ [w]]) := by
  have hz : z ∈ bs ++ [z] := by simp
  have hrz : r ≠ z := fun e => F.ne (by rw [e]; exact hz)
  have hbz : ∀ a ∈ bs, a ≠ z := fun a ha e => by
    have := F.nd
    rw [List.nodup_append] at this
    exact this.2.2 a ha z (by simp) e
  refine ⟨same_upd F.same (F.fresh z hz) _, F.new, by rw [upd_ne hrz]; exact F.at_, RowsAt.snoc ?_ (hb.mono fun a ha => upd_ne (hbz a ha)), F.nd, F.ne, F.fresh⟩
  rw [upd_same, List.map_append]
  rfl
theorem fill_new {H H' : Hp} {r p : Addr} {as : List Addr} {rs : List (List Str)} {w : Str} (F : FillAt H H' r as rs) (hp : H' p = none) :
    FillAt H (upd (upd H' p (.lst [.str w])) r (.lst (as.map V.ref ++ [.ref p]))) r (as ++ [p]) (rs ++ [[w]]) := by
  have hrp : r ≠ p := fun e => by rw [← e, F.at_] at hp; cases hp
  have hap : ∀ a ∈ as, a ≠ p := fun a ha e => by
    obtain ⟨i, hi⟩ := List.getElem?_of_mem ha
    obtain ⟨_, _, q⟩ := F.rows.get hi
    rw [e, hp] at q; cases q
  have har : ∀ a ∈ as, a ≠ r := fun a ha e => F.ne (by rw [← e]; exact ha)
  have hHp : H p = none := by
    cases e : H p with
    | none => rfl
    | some o => have := F.same p o e; rw [hp] at this; cases this
  refine ⟨same_upd (same_upd F.same hHp _) F.new _, F.new, ?_, RowsAt.snoc ?_ (F.rows.mono fun a ha => ?_), ?_, ?_, ?_⟩
  · rw [upd_same, List.map_append]; rfl
  · rw [upd_ne (Ne.symm hrp), upd_same]; rfl
  · rw [upd_ne (har a ha), upd_ne (hap a ha)]
  · rw [List.nodup_append]
    exact ⟨F.nd, by simp, fun a ha b hb e => by
      have : b = p := by simpa using hb
      exact hap a ha (by rw [e, this])⟩
  · intro hm
    rcases List.mem_append.mp hm with h | h
    · exact F.ne h
    · exact hrp (by simpa using h)
  · intro a ha
    rcases List.mem_append.mp ha with h | h
    · exact F.fresh a h
    · have : a = p := by simpa using h
      rw [this]; exact hHp
def spFilled (K : PySem.W.Frag) : Sp := fun vs H Q _ => ∃ (a : Addr) (ws : List Str) (room : Int), vs = [.ref a, .int room] ∧ SqL K H a (ws.map V.str) ∧ ws.length ≤ 1000000 ∧ (∀ x ∈ ws, x.length ≤ 1000000) ∧
  ∀ (r : Addr) (as : List Addr) (H' : Hp), FillAt H H' r as (Fm.filledM szS ws room) → Q (.ref r) H'
section
variable {P : Program} {w : World} {K : PySem.W.Frag} {mg : Str → Option Value} {base : Heap}
theorem str_at {xs : List Str} {i : Nat} {x : V} (hx : (xs.map V.str)[i]? = some x) : ∃ y, x = V.str y ∧ xs[i]? = some y := by
  rw [List.getElem?_map] at hx
  cases e : xs[i]? with
  | none => rw [e] at hx; cases hx
  | some y => rw [e] at hx; exact ⟨y, (Option.some.inj hx).symm, rfl⟩
theorem take_snoc {α : Type} {xs : List α} {i : Nat} {y : α} (h : xs[i]? = some y) : xs.take (i + 1) = xs.take i ++ [y] := by
  rw [List.take_add_one, h]
  rfl
theorem ok_filled {n : Nat} {f : Addr} {fd : FuncData} (T : At K mg "filled" s_filled ["words", "room"] f fd) (B : Bn mg) : FnOk P w K mg base CX0 (n + 1) f fd ["words", "room"] (spFilled K) := by
  have sc := sc_filled
  refine T.F.ok sc (fun vs H Q E h => ?_) (fun cdv A outer s H vs Q E hr h => ?_)
  · obtain ⟨a, ws, room, rfl, _⟩ := h; rfl
  obtain ⟨a, ws, room, rfl, hS, hl, hw, q⟩ := h
  have m_len := B.len
  refine ⟨_, ((pss_cons (ps_set (i := 2) sc.nd rfl (Or.inl rfl) (pe_lst pa_nil))
    (pss_cons (ps_set (i := 3) sc.nd rfl (Or.inl rfl) pe_int)
    (pss_cons (ps_for PassesOwn.never rfl (pi_list (pv 0)) (pg_name (i := 4) sc.nd rfl (Or.inl rfl))
      (pss_cons (ps_set (i := 5) sc.nd rfl (Or.inl rfl) (pe_op op_add (pe_op op_add (pv 3) pe_int) (pe_callB call_len_str rfl m_len PySem.boot_len (pa_cons (pv 4) pa_nil))))
      (pss_one (ps_if (PW.pt (pw_and (pt_truth (pv 2) (fun _ => rfl)) (pw_and1 (pt_cmpR op_le (pv 5) (pv 1) (nomark _)))))
        (pss_cons (ps_expr (pe_bm PySem.F.plainAttrs_list PySem.F.slot_list_append PySem.F.type_list_append mt_append (pe_ix ix_list (pv 2) (pe_un un_neg pe_int) (fun _ _ => rfl)) (pa_cons (pv 4) pa_nil)))
        (pss_one (ps_set (i := 3) sc.nd rfl (Or.inl rfl) (pv 5))))
        (pss_cons (ps_expr (pe_bm PySem.F.plainAttrs_list PySem.F.slot_list_append PySem.F.type_list_append mt_append (pv 2) (pa_cons (pe_lst (pa_cons (pv 4) pa_nil)) pa_nil)))
        (pss_one (ps_set (i := 3) sc.nd rfl (Or.inl rfl) (pe_callB call_len_str rfl m_len PySem.boot_len (pa_cons (pv 4) pa_nil)))))))))
    (pss_one (ps_ret (pv 2))))))), ?_⟩
  refine ⟨(by show 0 ≤ sizeLine; decide), fun r hr0 => ?_⟩
  have hne : Same H (upd H r (.lst [])) := same_new hr0 _
  refine ⟨_, rfl, a, rfl, ⟨_, hne.seq hS⟩, for_list (K := K) (a := a) (xs := ws.map V.str)
    (fun i σ H' => ∃ (as : List Addr) (rows : List (List Str)) (used : Int) (wv gv : Option V), σ = [some (.ref a), some (.int room), some (.ref r), some (.int used), wv, gv] ∧ Fm.run szS room (ws.take i) = (rows, used) ∧ FillAt H H' r as rows ∧ as.length ≤ i ∧ ∀ row ∈ rows, row.length ≤ i)
    ⟨[], [], 0, none, none, rfl, rfl, fill_start hr0, Nat.le_refl _, by simp⟩ ?_ ?_ ?_⟩
  · rintro i σ H' _ ⟨as, rows, used, wv, gv, rfl, _, F, _⟩
    exact F.same.seq hS
  · rintro i x σ H' hx ⟨as, rows, used, wv, gv, rfl, er, F, hal, hrl⟩
    obtain ⟨y, rfl, hy⟩ := str_at hx
    have hi : i < ws.length := (List.getElem?_eq_some_iff.mp hy).1
    have hyl : y.length ≤ sizeLine := le_size (by have := hw y (List.mem_of_getElem? hy); omega)
    have et : Fm.run szS room (ws.take (i + 1)) = Fm.turn szS room (rows, used) y := by rw [take_snoc hy, Fm.run_snoc, er]
    have hlen := F.rows.len
    -- a new row
    have new : ¬ (rows ≠ [] ∧ used + 1 + (y.length : Int) ≤ room) → ∀ g : Option V, ∀ p : Addr, H' p = none →
        ∃ (as' : List Addr) (rows' : List (List Str)) (used' : Int) (wv' gv' : Option V), [some (.ref a), some (.int room), some (.ref r), some (V.int (y.length : Int)), some (.str y), g] = [some (.ref a), some (.int room), some (.ref r), some (.int used'), wv', gv'] ∧
          Fm.run szS room (ws.take (i + 1)) = (rows', used') ∧ FillAt H (upd (upd H' p (.lst [.str y])) r (.lst (as.map V.ref ++ [.ref p]))) r as' rows' ∧ as'.length ≤ i + 1 ∧ ∀ row ∈ rows', row.length ≤ i + 1 := by
      intro c g p hp
      refine ⟨as ++ [p], rows ++ [[y]], _, _, _, rfl, ?_, fill_new F hp, by simp; omega, ?_⟩
      · rw [et, Fm.turn, if_neg c]
      · intro row hrow
        rcases List.mem_append.mp hrow with h | h
        · have := hrl row h; omega
        · have e : row = [y] := by simpa using h
          rw [e]; simp
    refine ⟨_, rfl, _, _, rfl, rfl, _, rfl, y, rfl, hyl, _, _, rfl, rfl, ?_⟩
    refine ⟨_, rfl, _, .inl ⟨_, SqL.of F.at_, rfl⟩, ?_⟩
    refine ite2 (fun c0 => ?_) (fun c0 => ?_)
    · have hrows : rows ≠ [] := by
        intro e
        rw [e] at hlen
        have e' : as = [] := List.length_eq_zero_iff.mp hlen
        rw [e'] at c0
        cases c0
      refine ⟨_, rfl, _, rfl, _, _, rfl, rfl, _, rfl, ?_⟩
      refine ite2 (fun c => ?_) (fun c => ?_)
      · have c' : used + 1 + (y.length : Int) ≤ room := of_decide_eq_true c
        obtain ⟨rs, row, rfl⟩ := Fm.split_last rows hrows
        obtain ⟨bs, z, rfl, hb, hz⟩ := F.rows.last
        have hml := hrl row (by simp)
        refine ⟨_, rfl, _, rfl, r, _, _, .ref z, rfl, rfl, SqL.of F.at_, ?_, .inl ⟨rfl, _, SqL.of hz⟩, _, rfl, z, _, _, rfl, rfl, hz, ?_, ?_⟩
        · rw [List.map_append]
          exact atI_last _ _
        · rw [List.length_map]
          exact lt_size (by omega)
        · refine ⟨_, rfl, ?_⟩
          refine ⟨bs ++ [z], rs ++ [row ++ [y]], _, _, _, rfl, ?_, fill_on F hb, by omega, ?_⟩
          · rw [et, Fm.turn, if_pos ⟨hrows, c'⟩, Fm.onLast_snoc]
          · intro row' hrow
            rcases List.mem_append.mp hrow with h | h
            · have := hrl row' (by simp [h]); omega
            · have e : row' = row ++ [y] := by simpa using h
              rw [e]; simp; omega
      · have c' : ¬ used + 1 + (y.length : Int) ≤ room := of_decide_eq_false (Bool.eq_false_iff.mpr c)
        refine ⟨_, rfl, .inl ⟨rfl, _, SqL.of F.at_⟩, _, rfl, (by show 1 ≤ sizeLine; decide), fun p hp => ?_⟩
        have hrp : r ≠ p := fun e => by rw [← e, F.at_] at hp; cases hp
        refine ⟨r, _, _, rfl, rfl, by rw [upd_ne hrp]; exact F.at_, by rw [List.length_map]; exact lt_size (by omega), _, rfl, y, rfl, hyl, ?_⟩
        exact new (fun z => c' z.2) _ p hp
    · have hrows : rows = [] := by
        cases as with
        | nil => exact List.length_eq_zero_iff.mp hlen.symm
        | cons b as => exact absurd rfl c0
      refine iteF ?_
      refine ⟨_, rfl, .inl ⟨rfl, _, SqL.of F.at_⟩, _, rfl, (by show 1 ≤ sizeLine; decide), fun p hp => ?_⟩
      have hrp : r ≠ p := fun e => by rw [← e, F.at_] at hp; cases hp
      refine ⟨r, _, _, rfl, rfl, by rw [upd_ne hrp]; exact F.at_, by rw [List.length_map]; exact lt_size (by omega), _, rfl, y, rfl, hyl, ?_⟩
      exact new (fun z => z.1 hrows) _ p hp
  · rintro σ H' ⟨as, rows, used, wv, gv, rfl, er, F, _⟩
    refine ⟨_, rfl, q r as H' ?_⟩
    have e : (ws.map V.str).length = ws.length := List.length_map _
    rw [e, List.take_length] at er
    rw [Fm.filledM, er]
    exact F
end

/-! ### lengths -/
theorem map_len (xs : List Str) (k : Nat) : (xs.map (·.length)).sum + xs.length * k = (xs.map fun x => x.length + k).sum := by
  induction xs with
  | nil => simp
  | cons x xs ih =>
    simp only [List.map_cons, List.sum_cons, List.length_cons]
    rw [← ih, Nat.succ_mul]
    omega

/-! ### flat, flat_size -/
section
open Rp
theorem flats_range {ps : List Th.T} : (List.range ps.length).map (fun i => V.str (Th.flat (ps.getD i (.word "")))) = (Th.flats ps).map V.str := by
  rw [Th.flats_map, List.map_map]
  exact range_map ps _ _ fun i x e => by rw [List.getD_eq_getElem?_getD, e]; rfl
def spFlat (d : Nat) : Sp := fun vs H Q _ => ∃ (t : Th.T) (v : V), vs = [v] ∧ Rep H t v ∧ Th.deep t < d ∧ Th.size t ≤ 1000000 ∧ ∀ H', Same H H' → Q (.str (Th.flat t)) H'
variable {P : Program} {w : World} {K : PySem.W.Frag} {mg : Str → Option Value} {base : Heap}
theorem ok_flat1 {n : Nat} {f : Addr} {fd : FuncData} (T : At K mg "flat" s_flat ["thing"] f fd) (B : Bn mg) (G_flat : FnOk P w K mg base CX0 n f fd ["thing"] (spFlat n)) : FnOk P w K mg base CX0 (n + 1) f fd ["thing"] (spFlat (n + 1)) := by
  have sc := sc_flat
  refine T.F.ok sc (fun vs H Q E h => ?_) (fun cdv A outer s H vs Q E hr h => ?_)
  · obtain ⟨t, v, rfl, _⟩ := h; rfl
  obtain ⟨t, v, rfl, R, hd, hz, q⟩ := h
  have m_isinstance := B.isinstance
  have m_str := B.str
  have m_flat := T.m
  have k_flat := T.F.kp
  have b_flat := T.b
  refine ⟨_, ((pss_cons (ps_if (pt_val (pe_callB call_isinst rfl m_isinstance boot_isinstance' (pa_cons (pv 0) (pa_cons (pe_bltn (v := .ty "str") rfl m_str boot_str' rfl) pa_nil))))
      (pss_one (ps_ret (pv 0)))
      pss_nil)
    (pss_cons (ps_if (pt_cmpR op_eq (pe_ix ix_tup (pv 0) pe_int (fun _ _ => rfl)) pe_str (nomark _))
      (pss_one (ps_ret (pe_op op_add_str (pe_op op_add_str (pe_op op_add_str (pe_ix ix_tup (pv 0) pe_int (fun _ _ => rfl)) pe_str) (pe_bm PySem.F.plainAttrs_str PySem.F.slot_str_join PySem.F.type_str_join mt_join pe_str (pa_cons (pe_comp rfl (pi_list (pe_ix ix_tup (pv 0) pe_int (fun _ _ => rfl))) (CompOk.none (by decide +kernel) (by decide +kernel) rfl (by decide +kernel) (by decide +kernel)) (fun _ _ _ => (pe_call G_flat hr rfl m_flat k_flat b_flat .nil pass0 (pa_cons (pv 0) pa_nil)))) pa_nil))) pe_str)))
      pss_nil)
    (pss_cons (ps_if (pt_cmpR op_eq (pe_ix ix_tup (pv 0) pe_int (fun _ _ => rfl)) pe_str (nomark _))
      (pss_one (ps_ret (pe_op op_add_str (pe_op op_add_str pe_str (pe_bm PySem.F.plainAttrs_str PySem.F.slot_str_join PySem.F.type_str_join mt_join pe_str (pa_cons (pe_ix ix_tup (pv 0) pe_int (fun _ _ => rfl)) pa_nil))) pe_str)))
      pss_nil)
    (pss_one (ps_ret (pe_op op_add_str (pe_op op_add_str (pe_ix ix_tup (pv 0) pe_int (fun _ _ => rfl)) pe_str) (pe_call G_flat hr rfl m_flat k_flat b_flat .nil pass0 (pa_cons (pe_ix ix_tup (pv 0) pe_int (fun _ _ => rfl)) pa_nil))))))))), ?_⟩
  cases t with
  | word x =>
    rw [Rep] at R
    subst R
    refine ⟨_, rfl, _, _, _, _, rfl, .str x, kit_str_str K, _, rfl, ?_⟩
    refine iteT ?_
    rw [Th.flat] at q
    exact ⟨_, rfl, q H (Same.refl H)⟩
  | bundle hd' ps =>
    rw [Rep] at R
    obtain ⟨a, l, us, rfl, h1, h2, h3⟩ := R
    have hb := Th.flat_le (.bundle hd' ps)
    rw [Th.flat] at q hb
    rw [Th.app_len, Th.app_len, Th.app_len] at hb
    rw [Th.size] at hz hb
    rw [Th.deep] at hd
    have hf := Th.flats_le ps
    have e1 : ("(" : Str).length = 1 := by decide
    have e2 : (")" : Str).length = 1 := by decide
    refine ⟨_, rfl, _, _, _, _, rfl, .tup h1, kit_tup_str K, _, rfl, ?_⟩
    refine iteF ?_
    refine ⟨_, rfl, a, _, _, _, rfl, rfl, SqT.of h1, rfl, rfl, _, rfl, ?_⟩
    refine iteT ?_
    refine ⟨_, rfl, a, _, _, _, rfl, rfl, SqT.of h1, rfl, _, _, rfl, rfl, le_size (by omega), rfl, _, rfl, a, _, _, _, rfl, rfl, SqT.of h1, rfl, l, rfl, ⟨_, SqL.of h2⟩, fun D hD => ?_⟩
    refine comp_list (fun i => V.str (Th.flat (ps.getD i (.word "")))) (SqL.of h2) hD (by rw [← h3.len]; exact le_size (by have := Th.hefts_le ps; omega)) ?_ ?_
    · intro i x H' R hx s1 k
      obtain ⟨t, ht, hrep⟩ := h3.get hx
      have hm := List.mem_of_getElem? ht
      have hdt := Th.deep_le_of_mem hm
      have hst : Th.size t ≤ Th.sizes ps := Th.size_le_of_mem hm
      refine ⟨_, rfl, t, x, rfl, Rep.mono s1 _ _ hrep, by omega, by omega, fun H2 s2 => ?_⟩
      have := k H2 s2
      rw [List.getD_eq_getElem?_getD, ht] at this
      exact this
    · intro H' s1 hD'
      rw [← h3.len, flats_range] at hD'
      refine ⟨_, D, _, rfl, rfl, SqL.of hD', ?_, _, _, rfl, rfl, ?_, _, _, rfl, rfl, ?_, ?_⟩
      · rw [map_len]
        have e3 : (", " : Str).length = 2 := by decide
        rw [e3]
        omega
      · rw [Th.app_len]
        exact le_size (by omega)
      · rw [Th.app_len, Th.app_len]
        exact le_size (by omega)
      · exact q H' s1
  | run ws =>
    rw [Rep] at R
    obtain ⟨a, l, rfl, h1, h2⟩ := R
    have hb := Th.flat_le (.run ws)
    rw [Th.flat] at q hb
    rw [Th.app_len, Th.app_len] at hb
    rw [Th.size] at hz hb
    have e1 : ("[" : Str).length = 1 := by decide
    have e2 : ("]" : Str).length = 1 := by decide
    refine ⟨_, rfl, _, _, _, _, rfl, .tup h1, kit_tup_str K, _, rfl, ?_⟩
    refine iteF ?_
    refine ⟨_, rfl, a, _, _, _, rfl, rfl, SqT.of h1, rfl, rfl, _, rfl, ?_⟩
    refine iteF ?_
    refine ⟨_, rfl, a, _, _, _, rfl, rfl, SqT.of h1, rfl, rfl, _, rfl, ?_⟩
    refine iteT ?_
    refine ⟨rfl, _, rfl, a, _, _, _, rfl, rfl, SqT.of h1, rfl, _, l, ws, rfl, rfl, SqL.of h2, ?_, _, _, rfl, rfl, ?_, _, _, rfl, rfl, ?_, ?_⟩
    · rw [map_len]
      have e3 : (" " : Str).length = 1 := by decide
      rw [e3]
      omega
    · exact le_size (by omega)
    · rw [Th.app_len]
      exact le_size (by omega)
    · exact q H (Same.refl H)
  | tag w' t =>
    rw [Rep] at R
    obtain ⟨a, u, rfl, h1, h2⟩ := R
    have hb := Th.flat_le (.tag w' t)
    rw [Th.flat] at q hb
    rw [Th.app_len, Th.app_len] at hb
    rw [Th.size] at hz hb
    rw [Th.deep] at hd
    refine ⟨_, rfl, _, _, _, _, rfl, .tup h1, kit_tup_str K, _, rfl, ?_⟩
    refine iteF ?_
    refine ⟨_, rfl, a, _, _, _, rfl, rfl, SqT.of h1, rfl, rfl, _, rfl, ?_⟩
    refine iteF ?_
    refine ⟨_, rfl, a, _, _, _, rfl, rfl, SqT.of h1, rfl, rfl, _, rfl, ?_⟩
    refine iteF ?_
    refine ⟨_, rfl, a, _, _, _, rfl, rfl, SqT.of h1, rfl, _, _, rfl, rfl, le_size (by omega), _, rfl, a, _, _, _, rfl, rfl, SqT.of h1, rfl, t, u, rfl, h2, by omega, by omega, fun H' s1 => ?_⟩
    refine ⟨_, _, rfl, rfl, ?_, q H' s1⟩
    rw [Th.app_len]
    exact le_size (by omega)
theorem ok_flat {f : Addr} {fd : FuncData} (T : At K mg "flat" s_flat ["thing"] f fd) (B : Bn mg) : ∀ n, FnOk P w K mg base CX0 n f fd ["thing"] (spFlat n)
  | 0 => by
    have no : ∀ vs H Q E, ¬ spFlat 0 vs H Q E := fun vs H Q E h => by
      obtain ⟨t, v, _, _, hd, _⟩ := h
      omega
    exact ⟨fun vs H Q E h => absurd h (no vs H Q E), fun A outer s H args us vs Q E _ _ _ _ h => absurd h (no vs H Q E)⟩
  | n + 1 => ok_flat1 T B (ok_flat T B n)
end

/-! ### flat_size -/
section
open Rp
variable {P : Program} {w : World} {K : PySem.W.Frag} {mg : Str → Option Value} {base : Heap}
def spFlatSize (d : Nat) : Sp := fun vs H Q _ => ∃ (t : Th.T) (v : V), vs = [v] ∧ Rep H t v ∧ Th.deep t < d ∧ Th.size t ≤ 1000000 ∧ ∀ H', Same H H' → Q (.int (Th.flat t).length) H'
theorem ok_flat_size {n : Nat} {f g : Addr} {fd gd : FuncData} (T : At K mg "flat_size" s_flat_size ["thing"] f fd) (TF : At K mg "flat" s_flat ["thing"] g gd) (B : Bn mg) : FnOk P w K mg base CX0 (n + 1) f fd ["thing"] (spFlatSize n) := by
  have sc := sc_flat_size
  refine T.F.ok sc (fun vs H Q E h => ?_) (fun cdv A outer s H vs Q E hr h => ?_)
  · obtain ⟨t, v, rfl, _⟩ := h; rfl
  obtain ⟨t, v, rfl, R, hd, hz, q⟩ := h
  have m_len := B.len
  have G_flat := ok_flat (P := P) (w := w) (base := base) TF B n
  have m_flat := TF.m
  have k_flat := TF.F.kp
  have b_flat := TF.b
  refine ⟨_, ((pss_one (ps_ret (pe_callB call_len_str rfl m_len PySem.boot_len (pa_cons (pe_call G_flat hr rfl m_flat k_flat b_flat .nil pass0 (pa_cons (pv 0) pa_nil)) pa_nil))))), ?_⟩
  refine ⟨_, rfl, t, v, rfl, R, hd, hz, fun H' s1 => ?_⟩
  have hb := Th.flat_le t
  exact ⟨_, rfl, le_size (by omega), q H' s1⟩
end

/-! ### how long words in a row are -/
theorem join_jl : ∀ r : List Str, (Str.join " " r).length = Fm.jl Ly.sz r
  | [] => rfl
  | [x] => rfl
  | x :: y :: r => by
    show (x ++ " " ++ Str.join " " (y :: r)).length = x.length + 1 + Fm.jl Ly.sz (y :: r)
    rw [len_app, len_app, join_jl (y :: r)]
    rfl
theorem jl_take : ∀ (a b : List Str), Fm.jl Ly.sz a ≤ Fm.jl Ly.sz (a ++ b)
  | [], b => Nat.zero_le _
  | [x], [] => Nat.le_refl _
  | [x], y :: b => by show x.length ≤ x.length + 1 + _; omega
  | x :: y :: a, b => by
    have := jl_take (y :: a) b
    show x.length + 1 + Fm.jl Ly.sz (y :: a) ≤ x.length + 1 + Fm.jl Ly.sz (y :: a ++ b)
    omega
theorem jl_drop : ∀ (a b : List Str), Fm.jl Ly.sz b ≤ Fm.jl Ly.sz (a ++ b)
  | [], b => Nat.le_refl _
  | [x], [] => Nat.zero_le _
  | [x], y :: b => by show _ ≤ x.length + 1 + Fm.jl Ly.sz (y :: b); omega
  | x :: y :: a, b => by
    have := jl_drop (y :: a) b
    show _ ≤ x.length + 1 + Fm.jl Ly.sz (y :: a ++ b)
    omega

/-! ### how many rows, how long, whatever the choice -/
section
open Rp
open Th (T)
mutual
theorem any_count : ∀ {t : T} {i : Nat} {lead tail : Str} {rows : List Str}, Ly.Any t i lead tail rows → rows.length ≤ Ly.cap t
  | .word x, i, lead, tail, _, .word => by rw [Ly.cap]; simp
  | .bundle hd ps, i, lead, tail, _, .flatB => by rw [Ly.cap]; simp
  | .bundle hd ps, i, lead, tail, _, .bundle _ h => by
    rw [Ly.cap]
    have := anys_count h
    simp only [List.length_cons, List.length_append, List.length_nil]
    omega
  | .run ws, i, lead, tail, _, .flatR => by rw [Ly.cap]; simp
  | .run ws, i, lead, tail, _, .run (gs := gs) _ hf hg => by
    rw [Ly.cap]
    have key : ∀ l : List (List Str), (∀ g ∈ l, g ≠ []) → l.length ≤ l.flatten.length := by
      intro l
      induction l with
      | nil => intro _; simp
      | cons g l ih =>
        intro h
        have h1 := List.length_pos_iff.mpr (h g List.mem_cons_self)
        have h2 := ih fun g' hg' => h g' (List.mem_cons_of_mem _ hg')
        rw [List.flatten_cons, List.length_append, List.length_cons]
        omega
    have := key gs hg
    rw [hf] at this
    simp only [List.length_cons, List.length_append, List.length_map, List.length_nil]
    omega
  | .tag w t, i, lead, tail, _, .tag h => by rw [Ly.cap]; exact any_count h
theorem anys_count : ∀ {ts : List T} {i : Nat} {rows : List Str}, Ly.Anys ts i rows → rows.length ≤ Ly.caps ts
  | [], i, _, .nil => by rw [Ly.caps]; simp
  | t :: r, i, _, .cons h hs => by
    rw [Ly.caps, List.length_append]
    have := any_count h
    have := anys_count hs
    omega
end
mutual
theorem any_le : ∀ {t : T} {i : Nat} {lead tail : Str} {rows : List Str}, Ly.Any t i lead tail rows → ∀ x ∈ rows, x.length ≤ (Ly.flatRow t i lead tail).length
  | .word x, i, lead, tail, _, .word => fun y hy => by
    have e : y = _ := List.mem_singleton.mp hy
    rw [e]; exact Nat.le_refl _
  | .bundle hd ps, i, lead, tail, _, .flatB => fun y hy => by
    have e : y = _ := List.mem_singleton.mp hy
    rw [e]; exact Nat.le_refl _
  | .run ws, i, lead, tail, _, .flatR => fun y hy => by
    have e : y = _ := List.mem_singleton.mp hy
    rw [e]; exact Nat.le_refl _
  | .bundle hd ps, i, lead, tail, _, .bundle _ h => fun y hy => by
    have e1 : ("(" : Str).length = 1 := by decide
    have e2 : (")" : Str).length = 1 := by decide
    rw [Ly.flatRow_len, Th.flat, Th.app_len, Th.app_len, Th.app_len]
    rcases List.mem_cons.mp hy with e | hy
    · rw [e, Th.app_len, Th.app_len, Th.app_len, Ly.pad_len]; omega
    · rcases List.mem_append.mp hy with hy | hy
      · have := anys_le h y hy; omega
      · have e : y = _ := List.mem_singleton.mp hy
        rw [e, Th.app_len, Th.app_len, Ly.pad_len]; omega
  | .run ws, i, lead, tail, _, .run (gs := gs) _ hf hg => fun y hy => by
    have e1 : ("[" : Str).length = 1 := by decide
    have e2 : ("]" : Str).length = 1 := by decide
    rw [Ly.flatRow_len, Th.flat, Th.app_len, Th.app_len]
    rcases List.mem_cons.mp hy with e | hy
    · rw [e, Th.app_len, Th.app_len, Ly.pad_len]; omega
    · rcases List.mem_append.mp hy with hy | hy
      · obtain ⟨g, hgm, rfl⟩ := List.mem_map.mp hy
        rw [Ly.wordRow_len i g (hg g hgm)]
        have key : ∀ (gs : List (List Str)), g ∈ gs → Fm.jl Ly.sz g ≤ Fm.jl Ly.sz gs.flatten := by
          intro gs
          induction gs with
          | nil => intro z; cases z
          | cons b gs ih =>
            intro z
            rw [List.flatten_cons]
            rcases List.mem_cons.mp z with e | z
            · rw [e]; exact jl_take _ _
            · exact Nat.le_trans (ih z) (jl_drop _ _)
        have h1 := key gs hgm
        rw [hf] at h1
        have h2 := join_jl ws
        omega
      · have e : y = _ := List.mem_singleton.mp hy
        rw [e, Th.app_len, Th.app_len, Ly.pad_len]; omega
  | .tag w t, i, lead, tail, _, .tag h => fun y hy => by
    have := any_le h y hy
    rw [Ly.flatRow_len] at this ⊢
    rw [Th.app_len, Th.app_len] at this
    rw [Th.flat, Th.app_len, Th.app_len]
    omega
theorem anys_le : ∀ {ts : List T} {i : Nat} {rows : List Str}, Ly.Anys ts i rows → ∀ x ∈ rows, x.length ≤ i + (Str.join ", " (Th.flats ts)).length
  | [], i, _, .nil => fun y hy => by cases hy
  | t :: r, i, _, .cons h hs => fun y hy => by
    have e0 : ("" : Str).length = 0 := by decide
    have e1 : ("," : Str).length = 1 := by decide
    have e2 : (", " : Str).length = 2 := by decide
    rcases List.mem_append.mp hy with hy | hy
    · have q := any_le h y hy
      rw [Ly.flatRow_len, e0] at q
      cases r with
      | nil =>
        rw [show (if ([] : List T).isEmpty = true then ("" : Str) else ",") = "" from rfl, e0] at q
        rw [Th.flats, Th.flats]
        show y.length ≤ i + (Th.flat t).length
        omega
      | cons u r =>
        rw [show (if (u :: r).isEmpty = true then ("" : Str) else ",") = "," from rfl, e1] at q
        rw [Th.flats, Th.flats]
        show y.length ≤ i + (Th.flat t ++ ", " ++ Str.join ", " (Th.flat u :: Th.flats r)).length
        rw [Th.app_len, Th.app_len, e2]
        omega
    · cases r with
      | nil => cases hs; cases hy
      | cons u r =>
        have q := anys_le hs y hy
        have eu : Th.flats (u :: r) = Th.flat u :: Th.flats r := by rw [Th.flats]
        rw [Th.flats, eu]
        rw [eu] at q
        show y.length ≤ i + (Th.flat t ++ ", " ++ Str.join ", " (Th.flat u :: Th.flats r)).length
        rw [Th.app_len, Th.app_len]
        omega
end
theorem any_bounds {t : T} {rows : List Str} (h : Ly.Any t 0 "" "" rows) (hz : Th.size t ≤ 30000) : rows ≠ [] ∧ rows.length ≤ 1000000 ∧ ∀ x ∈ rows, x.length ≤ 10000000 := by
  have h1 := any_count h
  have h2 := Ly.cap_le t
  have h3 := Th.flat_le t
  have e0 : ("" : Str).length = 0 := by decide
  refine ⟨Ly.any_ne h, by omega, fun x hx => ?_⟩
  have := any_le h x hx
  rw [Ly.flatRow_len, e0] at this
  omega
end

/-! ### what the program promises -/
section
open Rp
open Th (T)
/-- what laid, least_width promise -/
def spLaid (d : Nat) : Sp := fun vs H Q _ => ∃ (t : T) (v : V) (W : Int), vs = [v, .int W] ∧ Rep H t v ∧ Th.deep t < d ∧ Th.size t ≤ 30000 ∧
  ∀ (r : Addr) (H' : Hp), H r = none → Same H H' → H' r = some (.lst ((Ly.lay W t 0 "" "").map V.str)) → Q (.ref r) H'
def spLeast (d : Nat) : Sp := fun vs H Q _ => ∃ (t : T) (v : V), vs = [v] ∧ Rep H t v ∧ Th.deep t < d ∧ Th.size t ≤ 30000 ∧ ∀ H', Same H H' → Q (.int (Ly.leastW t)) H'
/-- what height promises -/
def spHeight (d : Nat) : Sp := fun vs H Q _ => ∃ (t : T) (v : V) (W : Int), vs = [v, .int W] ∧ 0 ≤ W ∧ Rep H t v ∧ Th.deep t < d ∧ Th.size t ≤ 30000 ∧ ∀ H', Same H H' → Q (.int (Ly.lay W t 0 "" "").length) H'
end

/-! ### laid -/
section
open Rp
open Th (T)
theorem pad_add (i j : Nat) : Ly.pad i ++ Ly.pad j = Ly.pad (i + j) := by
  show (⟨Array.replicate i 32 ++ Array.replicate j 32⟩ : Str) = ⟨Array.replicate (i + j) 32⟩
  rw [Array.replicate_append_replicate]
theorem pad_two : ("  " : Str) = Ly.pad 2 := by decide +kernel
theorem wordRow_eq (i : Nat) (g : List Str) : Ly.wordRow i g = Ly.pad (i + 2) ++ Str.join " " g := by rw [Ly.wordRow, pad_two, pad_add]
def canB : T → Bool
  | .word _ => false
  | .run ws => !ws.isEmpty
  | .bundle _ ps => !ps.isEmpty
  | .tag _ _ => true
def tagB : T → Bool
  | .tag _ _ => true
  | _ => false
theorem isEmpty_pos {α : Type} (l : List α) : decide ((l.length : Int) > 0) = !l.isEmpty := by
  cases l with
  | nil => rfl
  | cons x l => exact decide_eq_true (by rw [List.length_cons]; omega)
variable {P : Program} {w : World} {K : PySem.W.Frag} {mg : Str → Option Value} {base : Heap}
def spCan : Sp := fun vs H Q _ => ∃ (t : T) (v : V), vs = [v] ∧ Rep H t v ∧ tagB t = false ∧ Q (.bl (canB t)) H
theorem ok_can {n : Nat} {f : Addr} {fd : FuncData} (TC : At K mg "can_be_broken" s_can_be_broken ["thing"] f fd) (B : Bn mg) : FnOk P w K mg base CX0 (n + 1) f fd ["thing"] spCan := by
  have sc := sc_can_be_broken
  refine TC.F.ok sc (fun vs H Q E h => ?_) (fun cdv A outer s H vs Q E hr h => ?_)
  · obtain ⟨t, v, rfl, _⟩ := h; rfl
  obtain ⟨t, v, rfl, R, ht, q⟩ := h
  have m_len := B.len
  have m_isinstance := B.isinstance
  have m_str := B.str
  refine ⟨_, ((pss_one (ps_ret (pe_and (pe_not (pe_callB call_isinst rfl m_isinstance boot_isinstance' (pa_cons (pv 0) (pa_cons (pe_bltn (v := .ty "str") rfl m_str boot_str' rfl) pa_nil)))) (pe_one (pe_cmpR op_gt (pe_callB call_len_seq rfl m_len PySem.boot_len (pa_cons (pe_ix ix_tup (pv 0) (pe_un un_neg pe_int) (fun _ _ => rfl)) pa_nil)) pe_int (nomark _))))))), ?_⟩
  cases t with
  | tag w' t => cases ht
  | word x =>
    rw [Rep] at R
    subst R
    refine ⟨_, rfl, _, _, _, _, rfl, .str x, kit_str_str K, _, rfl, _, rfl, ?_⟩
    exact iteF q
  | bundle hd ps =>
    rw [Rep] at R
    obtain ⟨a, l, us, rfl, h1, h2, h3⟩ := R
    refine ⟨_, rfl, _, _, _, _, rfl, .tup h1, kit_tup_str K, _, rfl, _, rfl, ?_⟩
    refine iteT ?_
    refine ⟨_, rfl, _, rfl, a, _, _, _, rfl, rfl, SqT.of h1, rfl, l, us, rfl, .inl (SqL.of h2), _, _, rfl, rfl, ?_⟩
    have e : canB (.bundle hd ps) = decide ((us.length : Int) > 0) := by rw [isEmpty_pos, canB]; cases ps with
      | nil => rw [Reps] at h3; subst h3; rfl
      | cons t r => rw [Reps] at h3; obtain ⟨_, _, rfl, _⟩ := h3; rfl
    rw [e] at q
    exact q
  | run ws =>
    rw [Rep] at R
    obtain ⟨a, l, rfl, h1, h2⟩ := R
    refine ⟨_, rfl, _, _, _, _, rfl, .tup h1, kit_tup_str K, _, rfl, _, rfl, ?_⟩
    refine iteT ?_
    refine ⟨_, rfl, _, rfl, a, _, _, _, rfl, rfl, SqT.of h1, rfl, l, _, rfl, .inl (SqL.of h2), _, _, rfl, rfl, ?_⟩
    have e : canB (.run ws) = decide (((ws.map V.str).length : Int) > 0) := by rw [isEmpty_pos, canB]; cases ws <;> rfl
    rw [e] at q
    exact q
def spWords (K : PySem.W.Frag) : Sp := fun vs H Q _ => ∃ (l : Addr) (ws : List Str) (W : Int) (i : Nat), vs = [.ref l, .int W, .int ((i + 2 : Nat) : Int)] ∧ H l = some (.lst (ws.map V.str)) ∧ i + (ws.map fun x => x.length + 1).sum ≤ 1000000 ∧
  ∀ (r : Addr) (H' : Hp), H r = none → Same H H' → H' r = some (.lst (((Fm.filledM szS ws (Ly.room W i)).map (Ly.wordRow i)).map V.str)) → Q (.ref r) H'
theorem join_le : ∀ g : List Str, (Str.join " " g).length ≤ (g.map fun x => x.length + 1).sum
  | [] => Nat.zero_le _
  | [x] => by show x.length ≤ _; simp
  | x :: y :: g => by
    have := join_le (y :: g)
    show (x ++ " " ++ Str.join " " (y :: g)).length ≤ _
    rw [len_app, len_app, List.map_cons, List.sum_cons]
    have e : (" " : Str).length = 1 := by decide
    omega
theorem sum_mem {f : Str → Nat} : ∀ {gs : List (List Str)} {g : List Str}, g ∈ gs → (g.map f).sum ≤ (gs.flatten.map f).sum
  | a :: gs, g, h => by
    rw [List.flatten_cons, List.map_append, List.sum_append]
    rcases List.mem_cons.mp h with e | h
    · rw [e]; omega
    · have := sum_mem (f := f) h; omega
theorem sum_one {f : Str → Nat} : ∀ {ws : List Str} {x : Str}, x ∈ ws → f x ≤ (ws.map f).sum
  | a :: ws, x, h => by
    rw [List.map_cons, List.sum_cons]
    rcases List.mem_cons.mp h with e | h
    · rw [e]; omega
    · have := sum_one (f := f) h; omega
theorem flat_len {gs : List (List Str)} (h : ∀ g ∈ gs, g ≠ []) : gs.length ≤ gs.flatten.length := by
  induction gs with
  | nil => exact Nat.le_refl _
  | cons g gs ih =>
    have h1 := List.length_pos_iff.mpr (h g List.mem_cons_self)
    have h2 := ih fun g' hg' => h g' (List.mem_cons_of_mem _ hg')
    rw [List.flatten_cons, List.length_append, List.length_cons]
    omega
theorem ok_words {n : Nat} {f g : Addr} {fd gd : FuncData} (TW : At K mg "rows_of_words" s_rows_of_words ["words", "width", "indent"] f fd) (TF : At K mg "filled" s_filled ["words", "room"] g gd) (B : Bn mg) :
    FnOk P w K mg base CX0 (n + 2) f fd ["words", "width", "indent"] (spWords K) := by
  have sc := sc_rows_of_words
  refine TW.F.ok sc (fun vs H Q E h => ?_) (fun cdv A outer s H vs Q E hr h => ?_)
  · obtain ⟨l, ws, W, i, rfl, _⟩ := h; rfl
  obtain ⟨l, ws, W, i, rfl, hl, hz, q⟩ := h
  have G_filled : FnOk P w K mg base CX0 (n + 1) g gd _ _ := ok_filled TF B
  have m_filled := TF.m
  have k_filled := TF.F.kp
  have b_filled := TF.b
  have hwl := Ly.run_words ws
  have er : W - ((i + 2 : Nat) : Int) = Ly.room W i := by unfold Ly.room; omega
  refine ⟨_, ((pss_one (ps_ret (pe_comp rfl (pi_list (pe_call G_filled hr rfl m_filled k_filled b_filled .nil pass0 (pa_cons (pv 0) (pa_cons (pe_op op_sub (pv 1) (pv 2)) pa_nil)))) (CompOk.of (cl := [("indent", s.heap.objs.size + 1)]) (fr := [("indent", 2)]) rfl (by decide +kernel) rfl (by decide +kernel) (by decide +kernel) (fun _ _ h => h) (fun p hp e => ⟨_, by rw [(by decide +kernel : ∀ p ∈ _, p.2 = NameKind.free → p.1 = ("indent" : Str)) p hp e]; rfl⟩) (fun p hp => by cases List.mem_singleton.mp hp; exact ⟨rfl, rfl, Or.inl rfl⟩) (by decide +kernel)) (fun _ _ _ => (pe_op op_add_str (pe_op op_blank pe_str (pv 1)) (pe_bmK (K := K) rfl PySem.F.plainAttrs_str PySem.F.slot_str_join PySem.F.type_str_join (mt_joinK (K := K) rfl) pe_str (pa_cons (pv 0) pa_nil)))))))), ?_⟩
  refine ⟨_, rfl, _, rfl, _, rfl, _, _, rfl, rfl, l, ws, _, rfl, SqL.of hl, by omega, fun x hx => ?_, fun r as H1 F => ?_⟩
  · have := sum_one (f := fun x => x.length + 1) hx
    omega
  rw [er] at F
  have hfl := Fm.filled_flat szS (Ly.room W i) ws
  have hlen := F.rows.len
  have hgn : ∀ g ∈ Fm.filledM szS ws (Ly.room W i), g ≠ [] := fun g hg => (Ly.filled_mem hg).1
  have hcl := flat_len hgn
  rw [hfl] at hcl
  refine ⟨r, rfl, ⟨_, SqL.of F.at_⟩, fun D hD => ?_⟩
  refine comp_list (fun k => V.str (Ly.wordRow i ((Fm.filledM szS ws (Ly.room W i)).getD k []))) (SqL.of F.at_) hD (by rw [List.length_map, hlen]; exact le_size (by omega)) ?_ ?_
  · intro k x H2 R hx s2 kk
    obtain ⟨a, rfl, ha⟩ : ∃ a, x = V.ref a ∧ as[k]? = some a := by
      rw [List.getElem?_map] at hx
      cases e : as[k]? with
      | none => rw [e] at hx; cases hx
      | some y => rw [e] at hx; exact ⟨y, (Option.some.inj hx).symm, rfl⟩
    obtain ⟨row, hrow, hat⟩ := F.rows.get ha
    have hm := List.mem_of_getElem? hrow
    have hs := sum_mem (f := fun x => x.length + 1) hm
    rw [hfl] at hs
    have hj := join_le row
    have hrl := Ly.run_words row
    refine ⟨_, rfl, i + 2, rfl, rfl, by omega, rfl, _, rfl, _, a, row, rfl, rfl, SqL.of (s2 _ _ hat), ?_, _, _, rfl, rfl, le_size (by rw [Ly.pad_len]; omega), ?_⟩
    · rw [map_len]
      have e3 : (" " : Str).length = 1 := by decide
      rw [e3]
      omega
    · have := kk H2 (Same.refl _)
      rw [List.getD_eq_getElem?_getD, hrow, Option.getD_some, wordRow_eq] at this
      exact this
  · intro H2 s2 hD2
    refine q D H2 (F.same.free hD) (F.same.trans (fun b o hb => s2 b o hb)) ?_
    rw [hD2, List.length_map, hlen, List.map_map]
    congr 2
    exact range_map _ _ _ fun k x e => by rw [List.getD_eq_getElem?_getD, e]; rfl
end

/-! ### rows_of_thing, rows_of_parts, laid -/
section
open Rp
open Th (T)
variable {P : Program} {w : World} {K : PySem.W.Frag} {mg : Str → Option Value} {base : Heap}
def spRows (d : Nat) : Sp := fun vs H Q _ => ∃ (t : T) (v : V) (W : Int) (i : Nat) (lead tail : Str), vs = [v, .int W, .int (i : Int), .str lead, .str tail] ∧ Rep H t v ∧ Th.deep t < d ∧ i + lead.length + tail.length + Th.size t ≤ 1000000 ∧
  ∀ (r : Addr) (H' : Hp), H r = none → Same H H' → H' r = some (.lst ((Ly.lay W t i lead tail).map V.str)) → Q (.ref r) H'
def spParts (d : Nat) : Sp := fun vs H Q _ => ∃ (l : Addr) (us : List V) (ps : List T) (W : Int) (i : Nat), vs = [.ref l, .int W, .int (i : Int)] ∧ H l = some (.lst us) ∧ Reps H ps us ∧ Th.deeps ps < d ∧ i + 1 + Th.sizes ps ≤ 1000000 ∧
  ∀ (r : Addr) (H' : Hp), H r = none → Same H H' → H' r = some (.lst ((Ly.lays W ps i).map V.str)) → Q (.ref r) H'
theorem layI_take (W : Int) (its : List Ly.It) (k : Nat) : (Ly.layI W (its.take k)).length ≤ (Ly.layI W its).length := by
  have e := Ly.layI_app W (its.take k) (its.drop k)
  rw [List.take_append_drop] at e
  rw [e, List.length_append]
  omega
theorem layI_snoc {W : Int} {its : List Ly.It} {k : Nat} {x : Ly.It} (h : its[k]? = some x) : Ly.layI W (its.take (k + 1)) = Ly.layI W (its.take k) ++ Ly.lay W x.t x.i x.lead x.tail := by
  rw [take_snoc h, Ly.layI_app, Ly.layI, Ly.layI, List.append_nil]
theorem ok_parts {n d : Nat} {f g : Addr} {fd gd : FuncData} (TP : At K mg "rows_of_parts" s_rows_of_parts ["parts", "width", "indent"] f fd) (TR : At K mg "rows_of_thing" s_rows_of_thing ["thing", "width", "indent", "lead", "tail"] g gd) (B : Bn mg) (m_enumerate : mg "enumerate" = none)
    (G_rows_of_thing : FnOk P w K mg base CX0 n g gd ["thing", "width", "indent", "lead", "tail"] (spRows d)) : FnOk P w K mg base CX0 (n + 1) f fd ["parts", "width", "indent"] (spParts d) := by
  have sc := sc_rows_of_parts
  refine TP.F.ok sc (fun vs H Q E h => ?_) (fun cdv A outer s H vs Q E hr h => ?_)
  · obtain ⟨l, us, ps, W, i, rfl, _⟩ := h; rfl
  obtain ⟨l, us, ps, W, i, rfl, hl, hR, hd, hz, q⟩ := h
  have m_len := B.len
  have m_rows_of_thing := TR.m
  have k_rows_of_thing := TR.F.kp
  have b_rows_of_thing := TR.b
  have hlen := hR.len
  have hcap : (Ly.layI W (Ly.partsI ps i)).length ≤ 1000000 := by
    rw [Ly.layI_parts]
    have h1 := anys_count (Ly.lays_anys W ps i)
    have h2 := Ly.caps_le ps
    omega
  refine ⟨_, ((pss_cons (ps_set (i := 3) sc.nd rfl (Or.inl rfl) (pe_lst pa_nil))
    (pss_cons (ps_for PassesOwn.never rfl (pi_enum rfl m_enumerate (pa_cons (pv 0) pa_nil)) (pg_tup rfl (pgs_cons (pg_name (i := 4) sc.nd rfl (Or.inl rfl)) (pgs_cons (pg_name (i := 5) sc.nd rfl (Or.inl rfl)) pgs_nil)))
      (pss_cons (ps_set (i := 6) sc.nd rfl (Or.inl rfl) (pe_ifExp (pt_cmpR op_lt (pv 4) (pe_callB call_len_seq rfl m_len PySem.boot_len (pa_cons (pv 0) pa_nil)) (nomark _)) pe_str pe_str))
      (pss_one (ps_expr (pe_bm PySem.F.plainAttrs_list PySem.F.slot_list_extend PySem.F.type_list_extend mt_extend (pv 3) (pa_cons (pe_call G_rows_of_thing hr rfl m_rows_of_thing k_rows_of_thing b_rows_of_thing .nil pass0 (pa_cons (pv 5) (pa_cons (pv 1) (pa_cons (pv 2) (pa_cons pe_str (pa_cons (pv 6) pa_nil)))))) pa_nil))))))
    (pss_one (ps_ret (pv 3)))))), ?_⟩
  refine ⟨(by show 0 ≤ sizeLine; decide), fun r hr0 => ?_⟩
  have s0 : Same H (upd H r (.lst [])) := same_new hr0 _
  refine ⟨_, rfl, l, rfl, ⟨us, SqL.of (s0 _ _ hl)⟩, for_enum (K := K) (a := l) (xs := us)
    (fun k σ H' => ∃ (z4 z5 z6 : Option V), σ = [some (.ref l), some (.int W), some (.int (i : Int)), some (.ref r), z4, z5, z6] ∧ Same H H' ∧ H' r = some (.lst ((Ly.layI W ((Ly.partsI ps i).take k)).map V.str)))
    ⟨none, none, none, rfl, s0, by rw [List.take_zero]; exact upd_same⟩ ?_ ?_ ?_⟩
  · rintro k σ H' _ ⟨z4, z5, z6, rfl, s1, _⟩
    exact SqL.of (s1 _ _ hl)
  · rintro k x σ H' p hx ⟨z4, z5, z6, rfl, s1, hr1⟩ hp
    have hk : k < us.length := (List.getElem?_eq_some_iff.mp hx).1
    obtain ⟨t, ht, hrep⟩ := hR.get hx
    have hm := List.mem_of_getElem? ht
    have hdt := Th.deep_le_of_mem hm
    have hst := Th.size_le_of_mem hm
    have hit := Ly.partsI_get ps i k t ht
    have s2 := same_new hp (.tup [.int ((k : Int) + 1), x])
    have s3 := s1.trans s2
    have e0 : ("" : Str).length = 0 := by decide
    have e1 : ("," : Str).length = 1 := by decide
    have hsn := layI_snoc (W := W) hit
    dsimp only at hsn
    have htk := layI_take W (Ly.partsI ps i) (k + 1)
    -- the part's rows put behind
    have put : ∀ (tl : Str), tl = (if k + 1 = ps.length then ("" : Str) else ",") → ∀ (r1 : Addr) (H2 : Hp), Same (upd H' p (.tup [.int ((k : Int) + 1), x])) H2 → H2 r1 = some (.lst ((Ly.lay W t i "" tl).map V.str)) →
        (upd H2 r (.lst ((Ly.layI W ((Ly.partsI ps i).take k)).map V.str ++ (Ly.lay W t i "" tl).map V.str))) r = some (.lst ((Ly.layI W ((Ly.partsI ps i).take (k + 1))).map V.str)) ∧
        ((Ly.layI W ((Ly.partsI ps i).take k)).map V.str).length + ((Ly.lay W t i "" tl).map V.str).length ≤ sizeLine := by
      intro tl etl r1 H2 _ _
      rw [upd_same, hsn, etl, List.map_append]
      refine ⟨rfl, ?_⟩
      rw [hsn, List.length_append] at htk
      rw [List.length_map, List.length_map]
      exact le_size (by omega)
    refine ⟨p, _, rfl, SqT.of upd_same, rfl, _, _, rfl, _, _, rfl, rfl, ?_⟩
    refine ⟨_, rfl, _, rfl, l, us, rfl, .inl (SqL.of (s3 _ _ hl)), _, _, rfl, rfl, _, rfl, ?_⟩
    refine ite2 (fun c => ?_) (fun c => ?_)
    · have c' : (k : Int) + 1 < (us.length : Int) := of_decide_eq_true c
      have et : ("," : Str) = (if k + 1 = ps.length then ("" : Str) else ",") := by rw [if_neg (by omega)]
      refine ⟨_, rfl, .inl ⟨rfl, _, SqL.of (s2 _ _ hr1)⟩, _, rfl, _, rfl, _, rfl, _, rfl, t, x, W, i, "", ",", rfl, Rep.mono s3 _ _ hrep, by omega, by rw [e0, e1]; omega, fun r1 H2 hr1n s4 hr1a => ?_⟩
      obtain ⟨p1, p2⟩ := put "," et r1 H2 s4 hr1a
      exact ⟨r, r1, _, _, rfl, rfl, s4 _ _ (s2 _ _ hr1), hr1a, p2, _, _, _, rfl, same_upd (s3.trans s4) hr0 _, p1⟩
    · have c' : ¬ (k : Int) + 1 < (us.length : Int) := of_decide_eq_false (Bool.eq_false_iff.mpr c)
      have et : ("" : Str) = (if k + 1 = ps.length then ("" : Str) else ",") := by rw [if_pos (by omega)]
      refine ⟨_, rfl, .inl ⟨rfl, _, SqL.of (s2 _ _ hr1)⟩, _, rfl, _, rfl, _, rfl, _, rfl, t, x, W, i, "", "", rfl, Rep.mono s3 _ _ hrep, by omega, by rw [e0]; omega, fun r1 H2 hr1n s4 hr1a => ?_⟩
      obtain ⟨p1, p2⟩ := put "" et r1 H2 s4 hr1a
      exact ⟨r, r1, _, _, rfl, rfl, s4 _ _ (s2 _ _ hr1), hr1a, p2, _, _, _, rfl, same_upd (s3.trans s4) hr0 _, p1⟩
  · rintro σ H' ⟨z4, z5, z6, rfl, s1, hr1⟩
    refine ⟨_, rfl, q r H' hr0 s1 ?_⟩
    rw [List.take_of_length_le (by rw [Ly.partsI_len]; omega), Ly.layI_parts] at hr1
    exact hr1
theorem ok_rows1 {n d : Nat} {f g h k j fl : Addr} {fd gd hd' kd jd ld : FuncData} (TR : At K mg "rows_of_thing" s_rows_of_thing ["thing", "width", "indent", "lead", "tail"] f fd) (TL : At K mg "flat" s_flat ["thing"] g gd)
    (TC : At K mg "can_be_broken" s_can_be_broken ["thing"] h hd') (TP : At K mg "rows_of_parts" s_rows_of_parts ["parts", "width", "indent"] k kd) (TW : At K mg "rows_of_words" s_rows_of_words ["words", "width", "indent"] j jd) (TF : At K mg "filled" s_filled ["words", "room"] fl ld) (B : Bn mg)
    {tk : Tok} (g_STEP : mg "STEP" = some (.int 2 tk)) (hn : d + 3 ≤ n)
    (G_rows_of_thing : FnOk P w K mg base CX0 n f fd ["thing", "width", "indent", "lead", "tail"] (spRows d)) (G_rows_of_parts : FnOk P w K mg base CX0 n k kd ["parts", "width", "indent"] (spParts d)) :
    FnOk P w K mg base CX0 (n + 1) f fd ["thing", "width", "indent", "lead", "tail"] (spRows (d + 1)) := by
  have sc := sc_rows_of_thing
  refine TR.F.ok sc (fun vs H Q E h => ?_) (fun cdv A outer s H vs Q E hr h => ?_)
  · obtain ⟨t, v, W, i, lead, tail, rfl, _⟩ := h; rfl
  obtain ⟨t, v, W, i, lead, tail, rfl, R, hd, hz, q⟩ := h
  have m_len := B.len
  have m_isinstance := B.isinstance
  have m_str := B.str
  have G_flat : FnOk P w K mg base CX0 n g gd _ _ := ok_flat TL B n
  have G_can_be_broken : FnOk P w K mg base CX0 n h hd' _ _ := (ok_can (n := 0) TC B).mono (by omega)
  have G_rows_of_words : FnOk P w K mg base CX0 n j jd _ _ := (ok_words (n := 0) TW TF B).mono (by omega)
  have m_flat := TL.m
  have k_flat := TL.F.kp
  have b_flat := TL.b
  have m_can_be_broken := TC.m
  have k_can_be_broken := TC.F.kp
  have b_can_be_broken := TC.b
  have m_rows_of_thing := TR.m
  have k_rows_of_thing := TR.F.kp
  have b_rows_of_thing := TR.b
  have m_rows_of_parts := TP.m
  have k_rows_of_parts := TP.F.kp
  have b_rows_of_parts := TP.b
  have m_rows_of_words := TW.m
  have k_rows_of_words := TW.F.kp
  have b_rows_of_words := TW.b
  have hd' := hd
  have e1 : ("(" : Str).length = 1 := by decide
  have e2 : (")" : Str).length = 1 := by decide
  have e3 : ("[" : Str).length = 1 := by decide
  have e4 : ("]" : Str).length = 1 := by decide
  have hfl := Th.flat_le t
  refine ⟨_, ((pss_cons (ps_if (PW.pt (pw_and (pt_not (pt_val (pe_callB call_isinst rfl m_isinstance boot_isinstance' (pa_cons (pv 0) (pa_cons (pe_bltn (v := .ty "str") rfl m_str boot_str' rfl) pa_nil))))) (pw_and1 (pt_cmpR op_eq (pe_ix ix_tup (pv 0) pe_int (fun _ _ => rfl)) pe_str (nomark _)))))
      (pss_one (ps_ret (pe_call G_rows_of_thing hr rfl m_rows_of_thing k_rows_of_thing b_rows_of_thing .nil pass0 (pa_cons (pe_ix ix_tup (pv 0) pe_int (fun _ _ => rfl)) (pa_cons (pv 1) (pa_cons (pv 2) (pa_cons (pe_op op_add_str (pe_op op_add_str (pv 3) (pe_ix ix_tup (pv 0) pe_int (fun _ _ => rfl))) pe_str) (pa_cons (pv 4) pa_nil))))))))
      pss_nil)
    (pss_cons (ps_set (i := 5) sc.nd rfl (Or.inl rfl) (pe_op op_blank pe_str (pv 2)))
    (pss_cons (ps_set (i := 6) sc.nd rfl (Or.inl rfl) (pe_op op_add_str (pe_op op_add_str (pe_op op_add_str (pv 5) (pv 3)) (pe_call G_flat hr rfl m_flat k_flat b_flat .nil pass0 (pa_cons (pv 0) pa_nil))) (pv 4)))
    (pss_cons (ps_if (PW.pt (pw_or (pt_cmpR op_le (pe_callB call_len_str rfl m_len PySem.boot_len (pa_cons (pv 6) pa_nil)) (pv 1) (nomark _)) (pw_or1 (pt_not (pt_val (pe_call G_can_be_broken hr rfl m_can_be_broken k_can_be_broken b_can_be_broken .nil pass0 (pa_cons (pv 0) pa_nil)))))))
      (pss_one (ps_ret (pe_lst (pa_cons (pv 6) pa_nil))))
      pss_nil)
    (pss_cons (ps_if (pt_cmpR op_eq (pe_ix ix_tup (pv 0) pe_int (fun _ _ => rfl)) pe_str (nomark _))
      (pss_cons (ps_set (i := 7) sc.nd rfl (Or.inl rfl) (pe_call G_rows_of_parts hr rfl m_rows_of_parts k_rows_of_parts b_rows_of_parts .nil pass0 (pa_cons (pe_ix ix_tup (pv 0) pe_int (fun _ _ => rfl)) (pa_cons (pv 1) (pa_cons (pe_op op_add (pv 2) (pe_glob (v := .int (2)) rfl g_STEP ⟨_, rfl⟩)) pa_nil)))))
      (pss_one (ps_ret (pe_op op_cat (pe_op op_cat (pe_lst (pa_cons (pe_op op_add_str (pe_op op_add_str (pe_op op_add_str (pv 5) (pv 3)) (pe_ix ix_tup (pv 0) pe_int (fun _ _ => rfl))) pe_str) pa_nil)) (pv 7)) (pe_lst (pa_cons (pe_op op_add_str (pe_op op_add_str (pv 5) pe_str) (pv 4)) pa_nil))))))
      pss_nil)
    (pss_cons (ps_set (i := 7) sc.nd rfl (Or.inl rfl) (pe_call G_rows_of_words hr rfl m_rows_of_words k_rows_of_words b_rows_of_words .nil pass0 (pa_cons (pe_ix ix_tup (pv 0) pe_int (fun _ _ => rfl)) (pa_cons (pv 1) (pa_cons (pe_op op_add (pv 2) (pe_glob (v := .int (2)) rfl g_STEP ⟨_, rfl⟩)) pa_nil)))))
    (pss_one (ps_ret (pe_op op_cat (pe_op op_cat (pe_lst (pa_cons (pe_op op_add_str (pe_op op_add_str (pv 5) (pv 3)) pe_str) pa_nil)) (pv 7)) (pe_lst (pa_cons (pe_op op_add_str (pe_op op_add_str (pv 5) pe_str) (pv 4)) pa_nil)))))))))))), ?_⟩
  cases t with
  | tag w' t =>
    rw [Rep] at R
    obtain ⟨a, u, rfl, h1, h2⟩ := R
    rw [Th.size] at hz
    rw [Th.deep] at hd
    have e5 : (": " : Str).length = 2 := by decide
    refine ⟨_, rfl, _, _, _, _, rfl, .tup h1, kit_tup_str K, _, rfl, ?_⟩
    refine iteT ?_
    refine ⟨_, rfl, a, _, _, _, rfl, rfl, SqT.of h1, rfl, rfl, _, rfl, ?_⟩
    refine iteT ?_
    refine ⟨_, rfl, a, _, _, _, rfl, rfl, SqT.of h1, rfl, _, rfl, _, rfl, _, rfl, _, rfl, a, _, _, _, rfl, rfl, SqT.of h1, rfl, _, _, rfl, rfl, le_size (by omega), _, _, rfl, rfl, le_size (by rw [len_app]; omega), _, rfl,
      t, u, W, i, lead ++ w' ++ ": ", tail, rfl, h2, by omega, by rw [len_app, len_app]; omega, fun r H' hr0 s1 hr1 => ?_⟩
    rw [Ly.lay] at q
    exact q r H' hr0 s1 hr1
  | word x =>
    have R0 := R
    rw [Rep] at R
    subst R
    refine ⟨_, rfl, _, _, _, _, rfl, .str x, kit_str_str K, _, rfl, ?_⟩
    refine iteF ?_
    refine iteF ?_
    refine ⟨_, rfl, i, rfl, rfl, by omega, ?_⟩
    refine ⟨_, rfl, _, rfl, _, _, rfl, rfl, le_size (by rw [Ly.pad_len]; omega), _, rfl, .word x, .str x, rfl, R0, by omega, by omega, fun H1 s1 => ⟨_, _, rfl, rfl, le_size (by rw [len_app, Ly.pad_len]; omega), _, rfl, _, _, rfl, rfl, le_size (by rw [len_app, len_app, Ly.pad_len]; omega), ?_⟩⟩
    have one : ∀ r, H1 r = none → Ly.lay W (.word x) i lead tail = [Ly.flatRow (.word x) i lead tail] → Q (.ref r) (upd H1 r (.lst [.str (Ly.pad i ++ lead ++ Th.flat (.word x) ++ tail)])) := fun r hr0 e => q r _ (s1.free hr0) (s1.trans (same_new hr0 _)) (by rw [upd_same, e]; rfl)
    refine ⟨_, rfl, _, rfl, le_size (by rw [len_app, len_app, len_app, Ly.pad_len]; omega), _, rfl, _, _, rfl, rfl, _, rfl, ?_⟩
    refine ite2 (fun c => ?_) (fun c => ?_)
    · refine iteT ?_
      exact ⟨_, rfl, (by show 1 ≤ sizeLine; decide), fun r hr0 => one r hr0 (by rw [Ly.lay])⟩
    · refine ⟨_, rfl, .word x, .str x, rfl, Rep.mono s1 _ _ R0, rfl, _, rfl, ?_⟩
      refine iteT ?_
      exact ⟨_, rfl, (by show 1 ≤ sizeLine; decide), fun r hr0 => one r hr0 (by rw [Ly.lay])⟩
  | bundle hw ps =>
    have R0 := R
    rw [Rep] at R
    obtain ⟨a, l, us, rfl, h1, h2, h3⟩ := R
    refine ⟨_, rfl, _, _, _, _, rfl, .tup h1, kit_tup_str K, _, rfl, ?_⟩
    refine iteT ?_
    refine ⟨_, rfl, a, _, _, _, rfl, rfl, SqT.of h1, rfl, rfl, _, rfl, ?_⟩
    refine iteF ?_
    refine ⟨_, rfl, i, rfl, rfl, by omega, ?_⟩
    refine ⟨_, rfl, _, rfl, _, _, rfl, rfl, le_size (by rw [Ly.pad_len]; omega), _, rfl, .bundle hw ps, .ref a, rfl, R0, by omega, by omega, fun H1 s1 => ⟨_, _, rfl, rfl, le_size (by rw [len_app, Ly.pad_len]; omega), _, rfl, _, _, rfl, rfl, le_size (by rw [len_app, len_app, Ly.pad_len]; omega), ?_⟩⟩
    have one : ∀ r, H1 r = none → Ly.lay W (.bundle hw ps) i lead tail = [Ly.flatRow (.bundle hw ps) i lead tail] → Q (.ref r) (upd H1 r (.lst [.str (Ly.pad i ++ lead ++ Th.flat (.bundle hw ps) ++ tail)])) := fun r hr0 e => q r _ (s1.free hr0) (s1.trans (same_new hr0 _)) (by rw [upd_same, e]; rfl)
    refine ⟨_, rfl, _, rfl, le_size (by rw [len_app, len_app, len_app, Ly.pad_len]; omega), _, rfl, _, _, rfl, rfl, _, rfl, ?_⟩
    refine ite2 (fun c => ?_) (fun c => ?_)
    · have c' : ((Ly.flatRow (.bundle hw ps) i lead tail).length : Int) ≤ W := of_decide_eq_true c
      refine iteT ?_
      exact ⟨_, rfl, (by show 1 ≤ sizeLine; decide), fun r hr0 => one r hr0 (by rw [Ly.lay, if_pos (.inr c')])⟩
    have c' : ¬ ((Ly.flatRow (.bundle hw ps) i lead tail).length : Int) ≤ W := of_decide_eq_false (Bool.eq_false_iff.mpr c)
    refine ⟨_, rfl, .bundle hw ps, .ref a, rfl, Rep.mono s1 _ _ R0, rfl, _, rfl, ?_⟩
    by_cases c0 : ps = []
    · have eb : (!canB (.bundle hw ps)) = true := by rw [c0]; rfl
      show if (!canB (.bundle hw ps)) = true then _ else _
      rw [if_pos eb]
      exact ⟨_, rfl, (by show 1 ≤ sizeLine; decide), fun r hr0 => one r hr0 (by rw [Ly.lay, if_pos (.inl c0)])⟩
    have eb : (!canB (.bundle hw ps)) = false := by
      rw [canB]
      cases ps with
      | nil => exact absurd rfl c0
      | cons x y => rfl
    show if (!canB (.bundle hw ps)) = true then _ else _
    rw [if_neg (by rw [eb]; exact Bool.false_ne_true)]
    have hcnt := any_count (Ly.lay_any W (.bundle hw ps) i lead tail)
    have hcle := Ly.cap_le (.bundle hw ps)
    rw [Ly.lay, if_neg (fun z => z.elim c0 c')] at q hcnt
    rw [List.length_cons, List.length_append, List.length_singleton] at hcnt
    have hsz := hz
    rw [Th.size] at hsz
    rw [Th.deep] at hd'
    refine ⟨_, rfl, a, _, _, _, rfl, rfl, SqT.of (s1 _ _ h1), rfl, rfl, _, rfl, ?_⟩
    refine iteT ?_
    refine ⟨_, rfl, a, _, _, _, rfl, rfl, SqT.of (s1 _ _ h1), rfl, _, rfl, _, rfl, _, _, rfl, rfl, l, us, ps, W, i + 2, rfl, s1 _ _ h2, Reps.mono s1 _ _ h3, by omega, by omega, fun rw H2 hrw s2 hwi => ?_⟩
    have sH := s1.trans s2
    refine ⟨_, rfl, _, rfl, _, _, rfl, rfl, le_size (by rw [Ly.pad_len]; omega), _, rfl, a, _, _, _, rfl, rfl, SqT.of (sH _ _ h1), rfl, _, _, rfl, rfl, le_size (by rw [len_app, Ly.pad_len]; omega), _, _, rfl, rfl, le_size (by rw [len_app, len_app, Ly.pad_len]; omega), (by show 1 ≤ sizeLine; decide), fun p1 hp1 => ?_⟩
    have s3 := same_new hp1 (.lst [.str (Ly.pad i ++ lead ++ hw ++ "(")])
    refine ⟨_, rfl, p1, rw, _, _, rfl, rfl, upd_same, s3 _ _ hwi, ?_, fun p2 hp2 => ?_⟩
    · rw [List.length_singleton, List.length_map]
      exact le_size (by omega)
    have s4 := same_new hp2 (.lst ([.str (Ly.pad i ++ lead ++ hw ++ "(")] ++ (Ly.lays W ps (i + 2)).map V.str))
    refine ⟨_, rfl, _, _, rfl, rfl, le_size (by rw [Ly.pad_len]; omega), _, rfl, _, _, rfl, rfl, le_size (by rw [len_app, Ly.pad_len]; omega), (by show 1 ≤ sizeLine; decide), fun p3 hp3 => ?_⟩
    have s5 := same_new hp3 (.lst [.str (Ly.pad i ++ ")" ++ tail)])
    refine ⟨p2, p3, _, _, rfl, rfl, s5 _ _ upd_same, upd_same, ?_, fun p4 hp4 => ?_⟩
    · rw [List.length_append, List.length_singleton, List.length_singleton, List.length_map]
      exact le_size (by omega)
    have s345 := s3.trans (s4.trans s5)
    refine q p4 _ (sH.free (s345.free hp4)) (sH.trans (s345.trans (same_new hp4 _))) ?_
    rw [upd_same, List.map_cons, List.map_append]
    rfl
  | run ws =>
    have R0 := R
    rw [Rep] at R
    obtain ⟨a, l, rfl, h1, h2⟩ := R
    refine ⟨_, rfl, _, _, _, _, rfl, .tup h1, kit_tup_str K, _, rfl, ?_⟩
    refine iteT ?_
    refine ⟨_, rfl, a, _, _, _, rfl, rfl, SqT.of h1, rfl, rfl, _, rfl, ?_⟩
    refine iteF ?_
    refine ⟨_, rfl, i, rfl, rfl, by omega, ?_⟩
    refine ⟨_, rfl, _, rfl, _, _, rfl, rfl, le_size (by rw [Ly.pad_len]; omega), _, rfl, .run ws, .ref a, rfl, R0, by omega, by omega, fun H1 s1 => ⟨_, _, rfl, rfl, le_size (by rw [len_app, Ly.pad_len]; omega), _, rfl, _, _, rfl, rfl, le_size (by rw [len_app, len_app, Ly.pad_len]; omega), ?_⟩⟩
    have one : ∀ r, H1 r = none → Ly.lay W (.run ws) i lead tail = [Ly.flatRow (.run ws) i lead tail] → Q (.ref r) (upd H1 r (.lst [.str (Ly.pad i ++ lead ++ Th.flat (.run ws) ++ tail)])) := fun r hr0 e => q r _ (s1.free hr0) (s1.trans (same_new hr0 _)) (by rw [upd_same, e]; rfl)
    refine ⟨_, rfl, _, rfl, le_size (by rw [len_app, len_app, len_app, Ly.pad_len]; omega), _, rfl, _, _, rfl, rfl, _, rfl, ?_⟩
    refine ite2 (fun c => ?_) (fun c => ?_)
    · have c' : ((Ly.flatRow (.run ws) i lead tail).length : Int) ≤ W := of_decide_eq_true c
      refine iteT ?_
      exact ⟨_, rfl, (by show 1 ≤ sizeLine; decide), fun r hr0 => one r hr0 (by rw [Ly.lay, if_pos (.inr c')])⟩
    have c' : ¬ ((Ly.flatRow (.run ws) i lead tail).length : Int) ≤ W := of_decide_eq_false (Bool.eq_false_iff.mpr c)
    refine ⟨_, rfl, .run ws, .ref a, rfl, Rep.mono s1 _ _ R0, rfl, _, rfl, ?_⟩
    by_cases c0 : ws = []
    · have eb : (!canB (.run ws)) = true := by rw [c0]; rfl
      show if (!canB (.run ws)) = true then _ else _
      rw [if_pos eb]
      exact ⟨_, rfl, (by show 1 ≤ sizeLine; decide), fun r hr0 => one r hr0 (by rw [Ly.lay, if_pos (.inl c0)])⟩
    have eb : (!canB (.run ws)) = false := by
      rw [canB]
      cases ws with
      | nil => exact absurd rfl c0
      | cons x y => rfl
    show if (!canB (.run ws)) = true then _ else _
    rw [if_neg (by rw [eb]; exact Bool.false_ne_true)]
    have hcnt := any_count (Ly.lay_any W (.run ws) i lead tail)
    have hcle := Ly.cap_le (.run ws)
    rw [Ly.lay, if_neg (fun z => z.elim c0 c')] at q hcnt
    rw [List.length_cons, List.length_append, List.length_singleton] at hcnt
    have hcnt' : ((Fm.filledM szS ws (Ly.room W i)).map (Ly.wordRow i)).length + 1 + 1 ≤ Ly.cap (.run ws) := hcnt
    have hsz := hz
    rw [Th.size] at hsz
    refine ⟨_, rfl, a, _, _, _, rfl, rfl, SqT.of (s1 _ _ h1), rfl, rfl, _, rfl, ?_⟩
    refine iteF ?_
    refine ⟨_, rfl, a, _, _, _, rfl, rfl, SqT.of (s1 _ _ h1), rfl, _, rfl, _, rfl, _, _, rfl, rfl, l, ws, W, i, rfl, s1 _ _ h2, by omega, fun rw H2 hrw s2 hwi => ?_⟩
    have sH := s1.trans s2
    refine ⟨_, rfl, _, rfl, _, _, rfl, rfl, le_size (by rw [Ly.pad_len]; omega), _, _, rfl, rfl, le_size (by rw [len_app, Ly.pad_len]; omega), (by show 1 ≤ sizeLine; decide), fun p1 hp1 => ?_⟩
    have s3 := same_new hp1 (.lst [.str (Ly.pad i ++ lead ++ "[")])
    refine ⟨_, rfl, p1, rw, _, _, rfl, rfl, upd_same, s3 _ _ hwi, ?_, fun p2 hp2 => ?_⟩
    · rw [List.length_singleton, List.length_map]
      exact le_size (by omega)
    have s4 := same_new hp2 (.lst ([.str (Ly.pad i ++ lead ++ "[")] ++ ((Fm.filledM szS ws (Ly.room W i)).map (Ly.wordRow i)).map V.str))
    refine ⟨_, rfl, _, _, rfl, rfl, le_size (by rw [Ly.pad_len]; omega), _, rfl, _, _, rfl, rfl, le_size (by rw [len_app, Ly.pad_len]; omega), (by show 1 ≤ sizeLine; decide), fun p3 hp3 => ?_⟩
    have s5 := same_new hp3 (.lst [.str (Ly.pad i ++ "]" ++ tail)])
    refine ⟨p2, p3, _, _, rfl, rfl, s5 _ _ upd_same, upd_same, ?_, fun p4 hp4 => ?_⟩
    · rw [List.length_append, List.length_singleton, List.length_singleton, List.length_map]
      exact le_size (by omega)
    have s345 := s3.trans (s4.trans s5)
    refine q p4 _ (sH.free (s345.free hp4)) (sH.trans (s345.trans (same_new hp4 _))) ?_
    rw [upd_same, List.map_cons, List.map_append]
    rfl
theorem ok_rows {f g h k j fl : Addr} {fd gd hd kd jd ld : FuncData} (TR : At K mg "rows_of_thing" s_rows_of_thing ["thing", "width", "indent", "lead", "tail"] f fd) (TL : At K mg "flat" s_flat ["thing"] g gd)
    (TC : At K mg "can_be_broken" s_can_be_broken ["thing"] h hd) (TP : At K mg "rows_of_parts" s_rows_of_parts ["parts", "width", "indent"] k kd) (TW : At K mg "rows_of_words" s_rows_of_words ["words", "width", "indent"] j jd) (TF : At K mg "filled" s_filled ["words", "room"] fl ld) (B : Bn mg)
    (m_enumerate : mg "enumerate" = none) {tk : Tok} (g_STEP : mg "STEP" = some (.int 2 tk)) : ∀ d, FnOk P w K mg base CX0 (2 * d + 3) f fd ["thing", "width", "indent", "lead", "tail"] (spRows d)
  | 0 => by
    have no : ∀ vs H Q E, ¬ spRows 0 vs H Q E := fun vs H Q E h => by
      obtain ⟨t, v, W, i, lead, tail, _, _, hd, _⟩ := h
      omega
    exact ⟨fun vs H Q E h => absurd h (no vs H Q E), fun A outer s H args us vs Q E _ _ _ _ h => absurd h (no vs H Q E)⟩
  | d + 1 => by
    have G := ok_rows TR TL TC TP TW TF B m_enumerate g_STEP d
    exact ok_rows1 (n := 2 * d + 4) TR TL TC TP TW TF B g_STEP (by omega) (G.mono (by omega)) (ok_parts TP TR B m_enumerate G)
theorem ok_laid {m : Addr} {md : FuncData} {f g h k j fl : Addr} {fd gd hd kd jd ld : FuncData} (TD : At K mg "laid" s_laid ["thing", "width"] m md) (TR : At K mg "rows_of_thing" s_rows_of_thing ["thing", "width", "indent", "lead", "tail"] f fd) (TL : At K mg "flat" s_flat ["thing"] g gd)
    (TC : At K mg "can_be_broken" s_can_be_broken ["thing"] h hd) (TP : At K mg "rows_of_parts" s_rows_of_parts ["parts", "width", "indent"] k kd) (TW : At K mg "rows_of_words" s_rows_of_words ["words", "width", "indent"] j jd) (TF : At K mg "filled" s_filled ["words", "room"] fl ld) (B : Bn mg)
    (m_enumerate : mg "enumerate" = none) {tk : Tok} (g_STEP : mg "STEP" = some (.int 2 tk)) (d : Nat) : FnOk P w K mg base CX0 (2 * d + 4) m md ["thing", "width"] (spLaid d) := by
  have sc := sc_laid
  refine TD.F.ok sc (fun vs H Q E h => ?_) (fun cdv A outer s H vs Q E hr h => ?_)
  · obtain ⟨t, v, W, rfl, _⟩ := h; rfl
  obtain ⟨t, v, W, rfl, R, hdp, hz, q⟩ := h
  have G_rows_of_thing := ok_rows (P := P) (w := w) (base := base) TR TL TC TP TW TF B m_enumerate g_STEP d
  have m_rows_of_thing := TR.m
  have k_rows_of_thing := TR.F.kp
  have b_rows_of_thing := TR.b
  have e0 : ("" : Str).length = 0 := by decide
  refine ⟨_, ((pss_one (ps_ret (pe_call G_rows_of_thing hr rfl m_rows_of_thing k_rows_of_thing b_rows_of_thing .nil pass0 (pa_cons (pv 0) (pa_cons (pv 1) (pa_cons pe_int (pa_cons pe_str (pa_cons pe_str pa_nil))))))))), ?_⟩
  exact ⟨_, rfl, _, rfl, t, v, W, 0, "", "", rfl, R, hdp, by rw [e0]; omega, fun r H' hr0 s1 hr1 => q r H' hr0 s1 hr1⟩
end

/-! ### what is known of the refusals' classes: C is the one that is raised -/
structure ExKnown (K : PySem.W.Frag) (C cF cT cH : Addr) (bT bH : Bool) : Prop where
  x : ExFacts K C
  cl : (PySem.W.clsIn K C).isSome = true
  self : PySem.W.kitCls K (.ref C) (.ref C) = some true
  up : PySem.W.kitCls K (.ref C) (.ref cF) = some true
  bF : PySem.W.subIn K (.ref cF) (.type "BaseException") = some true
  no : PySem.W.kitOne K (.ref C) (.ref cT) = some bT
  yes : PySem.W.kitOne K (.ref C) (.ref cH) = some bH
  val : PySem.W.kitOne K (.ref C) (.type "ValueError") = some true
theorem boot_ValueError' : bootBuiltins "ValueError" = some (.type "ValueError") := by decide +kernel

/-! ### will_do -/
section
open Rp
open Th (T)
variable {P : Program} {w : World} {K : PySem.W.Frag} {mg : Str → Option Value} {base : Heap}
def spWillDo (d : Nat) : Sp := fun vs H Q _ => ∃ (t : T) (v : V) (W most : Int), vs = [v, .int W, .int most] ∧ Rep H t v ∧ Th.deep t < d ∧ Th.size t ≤ 30000 ∧ ∀ (b : Bool) (H' : Hp), Same H H' → (b = true ↔ Ly.Do t most W) → Q (.bl b) H'
theorem ok_will_do {n d : Nat} {f m : Addr} {fd md : FuncData} (TW : At K mg "will_do" s_will_do ["thing", "width", "most"] f fd) (TD : At K mg "laid" s_laid ["thing", "width"] m md) (B : Bn mg) (G_laid : FnOk P w K mg base CX0 n m md ["thing", "width"] (spLaid d)) :
    FnOk P w K mg base CX0 (n + 1) f fd ["thing", "width", "most"] (spWillDo d) := by
  have sc := sc_will_do
  refine TW.F.ok sc (fun vs H Q E h => ?_) (fun cdv A outer s H vs Q E hr h => ?_)
  · obtain ⟨t, v, W, most, rfl, _⟩ := h; rfl
  obtain ⟨t, v, W, most, rfl, R, hdp, hz, q⟩ := h
  have m_len := B.len
  have m_max := B.max
  have m_laid := TD.m
  have k_laid := TD.F.kp
  have b_laid := TD.b
  obtain ⟨hne, hl, hzz⟩ := any_bounds (Ly.lay_any W t 0 "" "") hz
  refine ⟨_, ((pss_cons (ps_set (i := 3) sc.nd rfl (Or.inl rfl) (pe_call G_laid hr rfl m_laid k_laid b_laid .nil pass0 (pa_cons (pv 0) (pa_cons (pv 1) pa_nil))))
    (pss_one (ps_ret (pe_and (pe_cmpR op_le (pe_callB call_len_seq rfl m_len PySem.boot_len (pa_cons (pv 3) pa_nil)) (pv 2) (nomark _)) (pe_one (pe_cmpR op_le (pe_callB (call_max_list rfl) rfl m_max boot_max' (pa_cons (pe_comp rfl (pi_list (pv 3)) (CompOk.none (by decide +kernel) (by decide +kernel) rfl (by decide +kernel) (by decide +kernel)) (fun _ _ _ => (pe_callB call_len_str rfl m_len PySem.boot_len (pa_cons (pv 0) pa_nil)))) pa_nil)) (pv 1) (nomark _)))))))), ?_⟩
  refine ⟨_, rfl, _, rfl, t, v, W, rfl, R, hdp, hz, fun r H1 hr0 s1 hr1 => ?_⟩
  have hS : SqL K H1 r ((Ly.lay W t 0 "" "").map V.str) := SqL.of hr1
  have hD : Ly.Do t most W ↔ ((Ly.lay W t 0 "" "").length : Int) ≤ most ∧ (Ly.longest (Ly.lay W t 0 "" "") : Int) ≤ W := Iff.rfl
  generalize Ly.lay W t 0 "" "" = rows at hne hl hzz hS hD
  refine ⟨_, rfl, r, _, rfl, .inl hS, _, rfl, _, _, rfl, rfl, _, rfl, ?_⟩
  refine ite2 (fun c => ?_) (fun c => ?_)
  · have c' : (((rows.map V.str).length : Nat) : Int) ≤ most := of_decide_eq_true c
    rw [List.length_map] at c'
    refine ⟨_, rfl, r, rfl, ⟨_, hS⟩, fun D hDn => ?_⟩
    refine comp_list (fun i => V.int ((rows.getD i "").length : Int)) hS hDn (by rw [List.length_map]; exact le_size (by omega)) ?_ ?_
    · intro i x H' R hx _ k
      obtain ⟨y, rfl, hy⟩ := str_at hx
      have := k H' (Same.refl H')
      rw [List.getD_eq_getElem?_getD, hy] at this
      exact ⟨_, rfl, y, rfl, le_size (by have := hzz y (List.mem_of_getElem? hy); omega), this⟩
    · intro H' s2 hD'
      have em : (List.range (rows.map V.str).length).map (fun i => V.int ((rows.getD i "").length : Int)) = (rows.map fun x => (x.length : Int)).map V.int := by
        rw [List.length_map, List.map_map]
        exact range_map rows _ _ fun i x e => by rw [List.getD_eq_getElem?_getD, e]; rfl
      rw [em] at hD'
      refine ⟨D, rows.map fun x => (x.length : Int), rfl, SqL.of hD', by simpa using hne, fun M hM hall => ?_⟩
      have e : M = (Ly.longest rows : Int) := Ly.longest_is (by
        obtain ⟨x, hx, e⟩ := List.mem_map.mp hM
        exact ⟨x, hx, e.symm⟩) fun x hx => hall _ (List.mem_map.mpr ⟨x, hx, rfl⟩)
      rw [e]
      refine ⟨_, rfl, _, _, rfl, rfl, q _ H' (s1.trans s2) ?_⟩
      rw [hD]
      exact ⟨fun z => ⟨c', of_decide_eq_true z⟩, fun z => decide_eq_true z.2⟩
  · have c' : ¬ (((rows.map V.str).length : Nat) : Int) ≤ most := of_decide_eq_false (Bool.eq_false_iff.mpr c)
    rw [List.length_map] at c'
    have ec : decide ((((rows.map V.str).length : Nat) : Int) ≤ most) = false := Bool.eq_false_iff.mpr c
    refine q _ H1 s1 ?_
    rw [hD]
    exact ⟨fun z => absurd z (by decide), fun z => absurd z.1 c'⟩
end

/-! ### narrowest, where it may refuse -/
section
open Rp
open Th (T)
variable {P : Program} {w : World} {K : PySem.W.Frag} {mg : Str → Option Value} {base : Heap}
def spNarrowX (d : Nat) : Sp := fun vs H Q E => ∃ (t : T) (v : V) (most : Int), vs = [v, .int most] ∧ Rep H t v ∧ Th.deep t < d ∧ Th.size t ≤ 30000 ∧
  (1 ≤ most → ∀ (W : Nat) (H' : Hp), Same H H' → Ly.Do t most (W : Int) → (∀ U : Int, 0 ≤ U → U < (W : Int) → ¬ Ly.Do t most U) → Q (.int (W : Int)) H') ∧ (most < 1 → most.natAbs.log2 < 1920 ∧ (Str.ofString (toString most)).length ≤ 1000 ∧ ∀ (e : Addr) (H' : Hp), Same H H' → E (.ref e) none H')
theorem ok_narrowX {n d : Nat} {f g h k c_NoHeight : Addr} {fd gd hd kd : FuncData} (TN : At K mg "narrowest" s_narrowest ["thing", "most"] f fd) (TW : At K mg "will_do" s_will_do ["thing", "width", "most"] g gd) (TS : At K mg "flat_size" s_flat_size ["thing"] h hd) (TF : At K mg "flat" s_flat ["thing"] k kd) (B : Bn mg)
    (g_NoHeight : mg "NoHeight" = some (.ref c_NoHeight)) (xf : ExFacts K c_NoHeight) (hn : d < n) (G_will_do : FnOk P w K mg base CX0 n g gd ["thing", "width", "most"] (spWillDo d)) : FnOk P w K mg base (CXN P w (.ref c_NoHeight)) (n + 1) f fd ["thing", "most"] (spNarrowX d) := by
  have sc := sc_narrowest
  obtain ⟨oc, od, kV, doc, pm, an, cdv, ct, osl, rfl, lk, hcd⟩ := TN.F.ex
  refine fn_of lk hcd sc (fun vs H Q E h => ?_) (fun A outer s H vs Q E hr h => ?_)
  · obtain ⟨t, v, most, rfl, _⟩ := h; rfl
  obtain ⟨t, v, most, rfl, R, hdp, hz, q, qE⟩ := h
  obtain ⟨n, rfl⟩ : ∃ n', n = n' + 1 := ⟨n - 1, by omega⟩
  have G_flat_size : FnOk P w K mg base CX0 (n + 1) h hd _ _ := ok_flat_size TS TF B
  have m_flat_size := TS.m
  have k_flat_size := TS.F.kp
  have b_flat_size := TS.b
  have m_will_do := TW.m
  have k_will_do := TW.F.kp
  have b_will_do := TW.b
  refine ⟨_, ((pss_cons (ps_if (pt_cmpR op_lt (pv 1) pe_int (nomark _))
      (pss_one (ps_raiseN xf.exc g_NoHeight rfl (pa_cons (pe_fstr (pv 1)) pa_nil) (fun _ _ z => z)))
      pss_nil)
    (PSs.nox (pss_cons (ps_set (i := 2) sc.nd rfl (Or.inl rfl) pe_int)
    (pss_cons (ps_set (i := 3) sc.nd rfl (Or.inl rfl) (pe_call G_flat_size hr rfl m_flat_size k_flat_size b_flat_size .nil pass0 (pa_cons (pv 0) pa_nil)))
    (pss_cons (ps_while PassesOwn.never (pt_cmpR op_lt (pv 2) (pv 3) (nomark _))
      (pss_cons (ps_set (i := 4) sc.nd rfl (Or.inl rfl) (pe_op op_fdiv (pe_op op_add (pv 2) (pv 3)) pe_int))
      (pss_one (ps_if (pt_val (pe_call G_will_do hr rfl m_will_do k_will_do b_will_do .nil pass0 (pa_cons (pv 0) (pa_cons (pv 4) (pa_cons (pv 1) pa_nil)))))
        (pss_one (ps_set (i := 3) sc.nd rfl (Or.inl rfl) (pv 4)))
        (pss_one (ps_set (i := 2) sc.nd rfl (Or.inl rfl) (pe_op op_add (pv 4) pe_int)))))))
    (pss_one (ps_ret (pv 2))))))))), ?_⟩
  refine ⟨_, rfl, _, _, rfl, rfl, _, rfl, ?_⟩
  refine ite2 (fun c => ?_) (fun c => ?_)
  · have c' : most < 1 := of_decide_eq_true c
    obtain ⟨hlog, hlen, qE⟩ := qE c'
    refine ⟨_, rfl, most, rfl, hlog, ?_, fun z => ⟨by show 1 ≤ sizeLine; decide, fun e => qE e H (Same.refl H)⟩⟩
    have : ("no thing is laid out on " : Str).length + (Str.ofString (toString most)).length + (" rows" : Str).length ≤ 16777216 := by
      have e1 : ("no thing is laid out on " : Str).length = 24 := by decide
      have e2 : (" rows" : Str).length = 5 := by decide
      omega
    exact this
  have hmo : 1 ≤ most := by
    have c' : ¬ most < 1 := of_decide_eq_false (Bool.eq_false_iff.mpr c)
    omega
  have q := q hmo
  refine ⟨_, rfl, t, v, rfl, R, by omega, by omega, fun H1 s1 => ?_⟩
  refine ⟨fun m σ H' => ∃ (lo hi : Nat) (z : Option V), σ = [some v, some (.int most), some (.int (lo : Int)), some (.int (hi : Int)), z] ∧ Same H H' ∧ lo ≤ hi ∧ Ly.Do t most (hi : Int) ∧ (∀ U : Int, 0 ≤ U → U < (lo : Int) → ¬ Ly.Do t most U) ∧ m = hi - lo,
    ⟨_, 0, (Th.flat t).length, none, rfl, s1, Nat.zero_le _, Ly.do_flat hmo, fun U h1 h2 => by omega, rfl⟩, ?_⟩
  rintro m σ H2 ⟨lo, hi, z, rfl, s2, hle, hdo, hno, rfl⟩
  refine ⟨_, rfl, _, rfl, _, _, rfl, rfl, _, rfl, ?_⟩
  refine ite2 (fun c => ?_) (fun c => ?_)
  · have c' : (lo : Int) < (hi : Int) := of_decide_eq_true c
    refine ⟨_, fun _ _ z => z, ?_⟩
    refine ⟨_, rfl, _, rfl, _, _, rfl, rfl, _, _, rfl, rfl, ⟨by decide, by decide⟩, ?_⟩
    obtain ⟨mid, em, h1, h2⟩ : ∃ mid : Nat, ((lo : Int) + (hi : Int)) / 2 = (mid : Int) ∧ lo ≤ mid ∧ mid < hi := ⟨(lo + hi) / 2, by omega, by omega, by omega⟩
    refine ⟨_, rfl, _, rfl, _, rfl, t, v, ((lo : Int) + (hi : Int)) / 2, most, rfl, Rep.mono s2 _ _ R, hdp, hz, fun b H3 s3 hb => ⟨_, rfl, ?_⟩⟩
    rw [em] at hb
    refine ite2 (fun cb => ?_) (fun cb => ?_)
    · refine ⟨_, rfl, mid - lo, by omega, lo, mid, some (.int (((lo : Int) + (hi : Int)) / 2)), ?_, s2.trans s3, h1, hb.mp cb, hno, rfl⟩
      rw [← em]
      rfl
    · refine ⟨_, rfl, _, _, rfl, rfl, hi - (mid + 1), by omega, mid + 1, hi, some (.int (((lo : Int) + (hi : Int)) / 2)), ?_, s2.trans s3, by omega, hdo, fun U u0 u1 du => cb (hb.mpr (Ly.do_mono (by omega) du)), rfl⟩
      have e1 : ((mid + 1 : Nat) : Int) = ((lo : Int) + (hi : Int)) / 2 + 1 := by omega
      rw [e1]
      rfl
  · have c' : ¬ (lo : Int) < (hi : Int) := of_decide_eq_false (Bool.eq_false_iff.mpr c)
    have e : lo = hi := by omega
    subst e
    exact ⟨_, rfl, q lo H2 s2 hdo hno⟩
/-- _law_refuses at a count below one -/
def spRefuses : Sp := fun vs H Q _ => ∃ (t : T) (v : V) (most : Int), vs = [v, .int most] ∧ most < 1 ∧ most.natAbs.log2 < 1920 ∧ (Str.ofString (toString most)).length ≤ 1000 ∧ Rep H t v ∧ Th.deep t < 80 ∧ Th.size t ≤ 30000 ∧ ∀ H', Q (.bl true) H'
theorem ok_refuses {n : Nat} {f g c_FoldError c_NoThing c_NoHeight : Addr} {fd gd : FuncData} (TR : At K mg "_law_refuses" s__law_refuses ["_law_thing", "_law_most"] f fd) (TN : At K mg "narrowest" s_narrowest ["thing", "most"] g gd) (B : Bn mg) (m_ValueError : mg "ValueError" = none)
    (g_FoldError : mg "FoldError" = some (.ref c_FoldError)) (g_NoThing : mg "NoThing" = some (.ref c_NoThing)) (g_NoHeight : mg "NoHeight" = some (.ref c_NoHeight)) (XF : ExKnown K c_NoHeight c_FoldError c_NoThing c_NoHeight false true)
    (G_narrowest : FnOk P w K mg base (CXN P w (.ref c_NoHeight)) n g gd ["thing", "most"] (spNarrowX 80)) : FnOk P w K mg base CX0 (n + 1) f fd ["_law_thing", "_law_most"] spRefuses := by
  have sc := sc__law_refuses
  refine TR.F.ok sc (fun vs H Q E h => ?_) (fun cdv A outer s H vs Q E hr h => ?_)
  · obtain ⟨t, v, most, rfl, _⟩ := h; rfl
  obtain ⟨t, v, most, rfl, hlt, hlog, hlen, R, hdp, hz, q⟩ := h
  have m_isinstance := B.isinstance
  have m_narrowest := TN.m
  have k_narrowest := TN.F.kp
  have b_narrowest := TN.b
  have xf := XF.x
  have xcl := XF.cl
  have xk_FoldError := XF.up
  have xb_FoldError := XF.bF
  refine ⟨_, ((pss_cons (ps_tryE G_narrowest hr rfl m_narrowest k_narrowest b_narrowest (pa_cons (pv 0) (pa_cons (pv 1) pa_nil))
      (lands_as (i := 2) sc.nd rfl rfl (Or.inl rfl) rfl rfl rfl g_FoldError xk_FoldError xb_FoldError (fun _ _ hcx => (pss_cons (ps_set (i := 3) sc.nd rfl (Or.inl rfl) (pe_lst (pa_cons (pe_callB (call_isinX List.mem_cons_self hcx xf xcl) rfl m_isinstance boot_isinstance' (pa_cons (pv 2) (pa_cons (pe_glob (v := .ref _) rfl g_NoThing rfl) pa_nil))) (pa_cons (pe_callB (call_isinX List.mem_cons_self hcx xf xcl) rfl m_isinstance boot_isinstance' (pa_cons (pv 2) (pa_cons (pe_glob (v := .ref _) rfl g_NoHeight rfl) pa_nil))) pa_nil))))
          (pss_one (ps_ret (pe_and (pe_callB (call_isinX List.mem_cons_self hcx xf xcl) rfl m_isinstance boot_isinstance' (pa_cons (pv 2) (pa_cons (pe_bltn (v := .ty "ValueError") rfl m_ValueError boot_ValueError' rfl) pa_nil))) (pe_one (pe_cmpR op_eq (pe_bm PySem.F.plainAttrs_list PySem.F.slot_list_count PySem.F.type_list_count mt_count (pv 3) (pa_cons pe_bl pa_nil)) pe_int (nomark _))))))))))
    (pss_one (ps_ret pe_bl)))), ?_⟩
  refine ⟨_, rfl, _, rfl, t, v, most, rfl, R, hdp, hz, fun z => by omega, fun _ => ⟨hlog, hlen, fun e H1 s1 e2 oe hoe => ?_⟩⟩
  refine ⟨_, rfl, _, false, rfl, .inr ⟨_, rfl, XF.no⟩, _, rfl, _, true, rfl, .inr ⟨_, rfl, XF.yes⟩, by show 2 ≤ sizeLine; decide, fun p hp => ?_⟩
  refine ⟨_, rfl, _, true, rfl, .inl ⟨_, rfl, XF.val⟩, ?_⟩
  refine ⟨true, rfl, ?_⟩
  refine (if_pos rfl : (if true = true then _ else _) = _).mpr ?_
  refine ⟨_, rfl, .inl ⟨rfl, _, SqL.of upd_same⟩, p, false, true, true, rfl, rfl, upd_same, rfl, ?_⟩
  exact q _
end

/-! ### _law_at -/
def spAt (K : PySem.W.Frag) : Sp := fun vs H Q _ => ∃ (a : Addr) (ns : List Int) (k : Nat), vs = [.ref a, .int k] ∧ SqL K H a (ns.map V.int) ∧ Q (.int (ns.getD k 0)) H
section
variable {P : Program} {w : World} {K : PySem.W.Frag} {mg : Str → Option Value} {base : Heap}
theorem ok_at {n : Nat} {f : Addr} {fd : FuncData} (T : At K mg "_law_at" s__law_at ["_law_script", "_law_k"] f fd) (B : Bn mg) : FnOk P w K mg base CX0 (n + 1) f fd ["_law_script", "_law_k"] (spAt K) := by
  have sc := sc__law_at
  refine T.F.ok sc (fun vs H Q E h => ?_) (fun cdv A outer s H vs Q E hr h => ?_)
  · obtain ⟨a, ns, k, rfl, _⟩ := h; rfl
  obtain ⟨a, ns, k, rfl, hS, q⟩ := h
  have m_len := B.len
  refine ⟨_, ((pss_cons (ps_if (pt_cmpR op_lt (pv 1) (pe_callB call_len_seq rfl m_len PySem.boot_len (pa_cons (pv 0) pa_nil)) (nomark _))
      (pss_one (ps_ret (pe_ix ix_list (pv 0) (pv 1) (fun _ _ => rfl))))
      pss_nil)
    (pss_one (ps_ret pe_int)))), ?_⟩
  refine ⟨_, rfl, _, rfl, a, _, rfl, .inl hS, _, _, rfl, rfl, _, rfl, ?_⟩
  refine ite2 (fun c => ?_) (fun c => ?_)
  · have c' : (k : Int) < ((ns.map V.int).length : Nat) := of_decide_eq_true c
    rw [List.length_map] at c'
    have hk : k < ns.length := by omega
    refine ⟨_, rfl, _, rfl, a, _, _, _, rfl, rfl, hS, atI_nat (j := k) (v := .int (ns.getD k 0)) ?_, q⟩
    rw [List.getElem?_map, List.getElem?_eq_getElem hk, List.getD_eq_getElem?_getD, List.getElem?_eq_getElem hk]
    rfl
  · have c' : ¬ (k : Int) < ((ns.map V.int).length : Nat) := of_decide_eq_false (Bool.eq_false_iff.mpr c)
    rw [List.length_map] at c'
    have e : ns.getD k 0 = 0 := by
      rw [List.getD_eq_getElem?_getD, List.getElem?_eq_none (by omega)]
      rfl
    rw [e] at q
    exact q
end

/-! ### _law_whole -/
section
variable {P : Program} {w : World} {K : PySem.W.Frag} {mg : Str → Option Value} {base : Heap}
def spWhole : Sp := fun vs H Q _ => ∃ i : Int, vs = [.int i] ∧ Q (.bl true) H
theorem ok_whole {n : Nat} {f : Addr} {fd : FuncData} (TW : At K mg "_law_whole" s__law_whole ["_law_found"] f fd) (B : Bn mg) : FnOk P w K mg base CX0 (n + 1) f fd ["_law_found"] spWhole := by
  have sc := sc__law_whole
  refine TW.F.ok sc (fun vs H Q E h => ?_) (fun cdv A outer s H vs Q E hr h => ?_)
  · obtain ⟨i, rfl, _⟩ := h; rfl
  obtain ⟨i, rfl, q⟩ := h
  have m_isinstance := B.isinstance
  have m_int := B.int
  have m_bool := B.bool
  refine ⟨_, ((pss_one (ps_ret (pe_and (pe_callB call_isinst rfl m_isinstance boot_isinstance' (pa_cons (pv 0) (pa_cons (pe_bltn (v := .ty "int") rfl m_int boot_int' rfl) pa_nil))) (pe_one (pe_not (pe_callB call_isinst rfl m_isinstance boot_isinstance' (pa_cons (pv 0) (pa_cons (pe_bltn (v := .ty "bool") rfl m_bool boot_bool' rfl) pa_nil))))))))), ?_⟩
  refine ⟨_, rfl, _, _, _, _, rfl, .int i, kit_int_int K, _, rfl, ?_⟩
  refine iteT ?_
  exact ⟨_, rfl, _, _, _, _, rfl, .int i, kit_int_bool K, _, rfl, q⟩
end

/-! ### _law_word_by -/
def signs : Str := "abcdefghijklmnopqrstuvwxyz0123456789"
theorem signs_len : signs.cps.toList.length = 36 := by decide +kernel
def wSize (n : Int) : Int := if n % 17 = 5 then 42 else 1 + n / 10 % 7
def wSign (n : Int) (k : Nat) : Nat := signs.cps.toList.getD ((n + (0 + (k : Int)) * (1 + n / 70 % 5)) % 36).toNat 0
def wPart (n : Int) : Nat → Str
  | 0 => ""
  | k + 1 => wPart n k ++ ⟨#[wSign n k]⟩
def wordBy (n : Int) : Str := wPart n (wSize n).toNat
theorem wPart_len (n : Int) : ∀ k, (wPart n k).length = k
  | 0 => rfl
  | k + 1 => by
    show (wPart n k ++ ⟨#[wSign n k]⟩).length = k + 1
    rw [len_app, wPart_len n k]
    rfl
theorem wSize_le (n : Int) : 1 ≤ wSize n ∧ wSize n ≤ 42 := by
  unfold wSize
  split <;> omega
theorem wordBy_len (n : Int) : (wordBy n).length ≤ 42 := by
  have := wSize_le n
  rw [wordBy, wPart_len]
  omega
def spWord : Sp := fun vs H Q _ => ∃ n : Int, vs = [.int n] ∧ ∀ H', Same H H' → Q (.str (wordBy n)) H'
section
variable {P : Program} {w : World} {K : PySem.W.Frag} {mg : Str → Option Value} {base : Heap}
theorem ok_word {n : Nat} {f : Addr} {fd : FuncData} (T : At K mg "_law_word_by" s__law_word_by ["_law_salt"] f fd) (B : Bn mg) : FnOk P w K mg base CX0 (n + 1) f fd ["_law_salt"] spWord := by
  have sc := sc__law_word_by
  refine T.F.ok sc (fun vs H Q E h => ?_) (fun cdv A outer s H vs Q E hr h => ?_)
  · obtain ⟨m, rfl, _⟩ := h; rfl
  obtain ⟨m, rfl, q⟩ := h
  have m_int := B.int
  have m_range := B.range
  refine ⟨_, ((pss_cons (ps_set (i := 1) sc.nd rfl (Or.inl rfl) pe_str)
    (pss_cons (ps_set (i := 2) sc.nd rfl (Or.inl rfl) (pe_ix ix_list (pe_lst (pa_cons (pe_op op_add pe_int (pe_op op_mod (pe_op op_fdiv (pv 0) pe_int) pe_int)) (pa_cons pe_int pa_nil))) (pe_callTy call_int1 rfl m_int boot_int' (pa_cons (pe_cmpR op_eq (pe_op op_mod (pv 0) pe_int) pe_int (nomark _)) pa_nil)) (fun _ _ => rfl)))
    (pss_cons (ps_set (i := 3) sc.nd rfl (Or.inl rfl) pe_str)
    (pss_cons (ps_for PassesOwn.never rfl (pi_range1 rfl m_range (pa_cons (pv 2) pa_nil)) (pg_name (i := 4) sc.nd rfl (Or.inl rfl))
      (pss_one (ps_set (i := 3) sc.nd rfl (Or.inl rfl) (pe_op op_add_str (pv 3) (pe_ix ix_str (pv 1) (pe_op op_mod (pe_op op_add (pv 0) (pe_op op_mul (pv 4) (pe_op op_add pe_int (pe_op op_mod (pe_op op_fdiv (pv 0) pe_int) pe_int)))) pe_int) (fun _ _ => rfl))))))
    (pss_one (ps_ret (pv 3)))))))), ?_⟩
  -- the size
  refine ⟨_, rfl, _, _, rfl, rfl, ⟨by decide, by decide⟩, _, _, rfl, rfl, (by show (0 : Int) < 7; decide), _, _, rfl, rfl, (by show 2 ≤ sizeLine; decide), fun p hp => ?_⟩
  refine ⟨_, rfl, _, _, rfl, rfl, (by show (0 : Int) < 17; decide), rfl, .inr ⟨_, rfl, ?_⟩⟩
  refine ⟨p, _, _, .int (wSize m), rfl, rfl, .inl (.inl upd_same), ?_, ?_⟩
  · unfold wSize
    by_cases c : m % 17 = 5
    · rw [if_pos c, if_pos (decide_eq_true (show V.int (m % 17) = V.int 5 by rw [c]))]
      rfl
    · rw [if_neg c, if_neg (by intro z; exact c (V.int.inj (of_decide_eq_true z)))]
      rfl
  have hz := wSize_le m
  refine ⟨_, rfl, wSize m, rfl, by omega, by omega, ?_⟩
  refine for_range (fun i σ H' => H' = upd H p (.lst [.int (1 + m / 10 % 7), .int 42]) ∧ ∃ kv, σ = [some (.int m), some (.str signs), some (.int (wSize m)), some (.str (wPart m i)), kv]) ⟨rfl, none, rfl⟩ ?_ ?_
  · rintro i σ H' hi ⟨rfl, kv, rfl⟩
    have hi' : (i : Int) < 42 := by omega
    refine ⟨_, rfl, _, rfl, _, rfl, _, rfl, _, rfl, _, _, rfl, rfl, ⟨by decide, by decide⟩, _, _, rfl, rfl, (by show (0 : Int) < 5; decide), _, _, rfl, rfl, _, _, rfl, rfl, .inl ⟨by omega, by omega⟩, _, _, rfl, rfl, _, _, rfl, rfl, (by show (0 : Int) < 36; decide), ?_⟩
    refine ⟨signs, _, wSign m i, rfl, rfl, (by decide +kernel), ?_, _, _, rfl, rfl, ?_, ?_⟩
    · have h0 : 0 ≤ (m + (0 + (i : Int)) * (1 + m / 70 % 5)) % 36 := Int.emod_nonneg _ (by decide)
      have h1 : (m + (0 + (i : Int)) * (1 + m / 70 % 5)) % 36 < 36 := Int.emod_lt_of_pos _ (by decide)
      have e : (m + (0 + (i : Int)) * (1 + m / 70 % 5)) % 36 = ((((m + (0 + (i : Int)) * (1 + m / 70 % 5)) % 36).toNat : Nat) : Int) := by omega
      rw [e]
      refine atI_nat ?_
      have hk : ((m + (0 + (i : Int)) * (1 + m / 70 % 5)) % 36).toNat < signs.cps.toList.length := by rw [signs_len]; omega
      rw [List.getElem?_eq_getElem hk]
      show _ = some (signs.cps.toList.getD _ 0)
      rw [List.getD_eq_getElem?_getD, List.getElem?_eq_getElem hk]
      rfl
    · rw [wPart_len]
      show i + 1 ≤ sizeLine
      exact le_size (by omega)
    · exact ⟨rfl, _, rfl⟩
  · rintro σ H' ⟨rfl, kv, rfl⟩
    exact ⟨_, rfl, q _ (same_new hp _)⟩
end

theorem last_at {α : Type} (us : List α) (x : α) : (us ++ [x])[(us ++ [x]).length - 1]? = some x := by simp

/-! ### _law_tags, _law_step, _law_grown -/
section
open Rp
open Th (T)
variable {P : Program} {w : World} {K : PySem.W.Frag} {mg : Str → Option Value} {base : Heap}
def spTags : Sp := fun vs H Q _ => ∃ (t : T) (v : V), vs = [v] ∧ Rep H t v ∧ Q (.int (Th.tags t)) H
theorem ok_tags {n : Nat} {f : Addr} {fd : FuncData} (TT : At K mg "_law_tags" s__law_tags ["_law_thing"] f fd) (B : Bn mg) : FnOk P w K mg base CX0 (n + 1) f fd ["_law_thing"] spTags := by
  have sc := sc__law_tags
  refine TT.F.ok sc (fun vs H Q E h => ?_) (fun cdv A outer s H vs Q E hr h => ?_)
  · obtain ⟨t, v, rfl, _⟩ := h; rfl
  obtain ⟨t, v, rfl, R, q⟩ := h
  have m_isinstance := B.isinstance
  have m_tuple := B.tuple
  refine ⟨_, ((pss_cons (ps_set (i := 1) sc.nd rfl (Or.inl rfl) pe_int)
    (pss_cons (ps_set (i := 2) sc.nd rfl (Or.inl rfl) (pv 0))
    (pss_cons (ps_while PassesOwn.never (PW.pt (pw_and (pt_val (pe_callB call_isinst rfl m_isinstance boot_isinstance' (pa_cons (pv 2) (pa_cons (pe_bltn (v := .ty "tuple") rfl m_tuple boot_tuple' rfl) pa_nil)))) (pw_and1 (pt_cmpR op_eq (pe_ix ix_tup (pv 2) pe_int (fun _ _ => rfl)) pe_str (nomark _)))))
      (pss_cons (ps_set (i := 2) sc.nd rfl (Or.inl rfl) (pe_ix ix_tup (pv 2) pe_int (fun _ _ => rfl)))
      (pss_one (ps_set (i := 1) sc.nd rfl (Or.inl rfl) (pe_op op_add (pv 1) pe_int)))))
    (pss_one (ps_ret (pv 1))))))), ?_⟩
  refine ⟨_, rfl, ?_⟩
  refine ⟨fun m σ H' => H = H' ∧ ∃ (t' : T) (u : V) (d : Int), σ = [some v, some (.int d), some u] ∧ Rep H t' u ∧ d + (Th.tags t' : Int) = (Th.tags t : Int) ∧ m = Th.tags t', ⟨_, rfl, t, v, 0, rfl, R, by omega, rfl⟩, ?_⟩
  rintro m σ H' ⟨rfl, t', u, d, rfl, R', hd, rfl⟩
  have fin : Th.tags t' = 0 → Q (.int d) H := fun z => by
    have e : d = (Th.tags t : Int) := by omega
    rw [e]; exact q
  cases t' with
  | word x =>
    rw [Rep] at R'
    subst R'
    refine ⟨_, rfl, _, _, _, _, rfl, .str x, kit_str_tup K, _, rfl, ?_⟩
    refine iteF ?_
    refine iteF ?_
    exact ⟨_, rfl, fin rfl⟩
  | bundle hd' ps =>
    rw [Rep] at R'
    obtain ⟨a, l, us, rfl, h1, h2, h3⟩ := R'
    refine ⟨_, rfl, _, _, _, _, rfl, .tup h1, kit_tup_tup K, _, rfl, ?_⟩
    refine iteT ?_
    refine ⟨_, rfl, a, _, _, _, rfl, rfl, SqT.of h1, rfl, rfl, _, rfl, ?_⟩
    refine iteF ?_
    exact ⟨_, rfl, fin rfl⟩
  | run ws =>
    rw [Rep] at R'
    obtain ⟨a, l, rfl, h1, h2⟩ := R'
    refine ⟨_, rfl, _, _, _, _, rfl, .tup h1, kit_tup_tup K, _, rfl, ?_⟩
    refine iteT ?_
    refine ⟨_, rfl, a, _, _, _, rfl, rfl, SqT.of h1, rfl, rfl, _, rfl, ?_⟩
    refine iteF ?_
    exact ⟨_, rfl, fin rfl⟩
  | tag w' t1 =>
    rw [Rep] at R'
    obtain ⟨a, u1, rfl, h1, h2⟩ := R'
    rw [Th.tags] at hd
    refine ⟨_, rfl, _, _, _, _, rfl, .tup h1, kit_tup_tup K, _, rfl, ?_⟩
    refine iteT ?_
    refine ⟨_, rfl, a, _, _, _, rfl, rfl, SqT.of h1, rfl, rfl, _, rfl, ?_⟩
    refine iteT ?_
    refine ⟨fun σ' H' => H = H' ∧ σ' = [some v, some (.int (d + 1)), some u1], ?_, ?_⟩
    · rintro σ' H' ⟨rfl, rfl⟩
      exact ⟨Th.tags t1, by rw [Th.tags]; omega, rfl, t1, u1, d + 1, rfl, h2, by omega, rfl⟩
    · exact ⟨_, rfl, a, _, _, _, rfl, rfl, SqT.of h1, rfl, _, rfl, _, _, rfl, rfl, rfl, rfl⟩
/-! the frames in the heap, told from the innermost; G: what is closed and stays -/
def FrAt (G H : Hp) : List Addr → List (List T) → Prop
  | [], [] => True
  | a :: as, f :: fs => (∃ vs, H a = some (.lst vs) ∧ Reps G f vs) ∧ FrAt G H as fs
  | _, _ => False
theorem FrAt.len {G H : Hp} : ∀ {as : List Addr} {fs : List (List T)}, FrAt G H as fs → as.length = fs.length
  | [], [], _ => rfl
  | _ :: as, _ :: fs, h => congrArg (· + 1) (FrAt.len h.2)
  | [], _ :: _, h => h.elim
  | _ :: _, [], h => h.elim
theorem FrAt.mono {G G' H H' : Hp} (sg : Same G G') : ∀ {as : List Addr} {fs : List (List T)}, FrAt G H as fs → (∀ a ∈ as, ∀ o, H a = some o → H' a = some o) → FrAt G' H' as fs
  | [], [], _, _ => True.intro
  | a :: as, f :: fs, h, k => by
    obtain ⟨⟨vs, h1, h2⟩, h3⟩ := h
    exact ⟨⟨vs, k a List.mem_cons_self _ h1, Reps.mono sg f vs h2⟩, FrAt.mono sg h3 fun b hb => k b (List.mem_cons_of_mem _ hb)⟩
  | [], _ :: _, h, _ => h.elim
  | _ :: _, [], h, _ => h.elim
theorem FrAt.there {G H : Hp} : ∀ {as : List Addr} {fs : List (List T)} {a : Addr}, FrAt G H as fs → a ∈ as → ∃ vs, H a = some (.lst vs)
  | [], [], _, _, hm => by cases hm
  | b :: as, f :: fs, a, h, hm => by
    rcases List.mem_cons.mp hm with e | hm
    · obtain ⟨⟨vs, h1, _⟩, _⟩ := h
      exact ⟨vs, by rw [e]; exact h1⟩
    · exact FrAt.there h.2 hm
  | [], _ :: _, _, h, _ => h.elim
  | _ :: _, [], _, h, _ => h.elim
structure Fr (G H : Hp) (F : Addr) (as : List Addr) (fs : List (List T)) : Prop where
  same : Same G H
  gF : G F = none
  at_ : H F = some (.lst (as.reverse.map V.ref))
  fr : FrAt G H as fs
  nd : (F :: as).Nodup
  gn : ∀ a ∈ as, G a = none
def hide (H : Hp) (os : List Addr) : Hp := fun b => if b ∈ os then none else H b
theorem hide_in {H : Hp} {os : List Addr} {b : Addr} (h : b ∈ os) : hide H os b = none := by unfold hide; rw [if_pos h]
theorem hide_out {H : Hp} {os : List Addr} {b : Addr} (h : b ∉ os) : hide H os b = H b := by unfold hide; rw [if_neg h]
theorem Fr.open_ {G H : Hp} {F : Addr} {as : List Addr} {fs : List (List T)} (f : Fr G H F as fs) {b : Addr} {o : HO} (h : G b = some o) : b ∉ F :: as := fun hm => by
  rcases List.mem_cons.mp hm with e | hm
  · rw [e, f.gF] at h; cases h
  · rw [f.gn b hm] at h; cases h
theorem Fr.fresh {G H : Hp} {F : Addr} {as : List Addr} {fs : List (List T)} (f : Fr G H F as fs) {p : Addr} (h : H p = none) : p ∉ F :: as := fun hm => by
  rcases List.mem_cons.mp hm with e | hm
  · rw [e, f.at_] at h; cases h
  · obtain ⟨vs, q⟩ := f.fr.there hm
    rw [q] at h; cases h
/-- all that is not open is closed, once more -/
theorem Fr.shut {G H H1 : Hp} {F : Addr} {as os : List Addr} {fs : List (List T)} (f : Fr G H F as fs) (s : ∀ b o, b ∉ F :: as → H b = some o → H1 b = some o) (sub : ∀ b ∈ os, b ∈ F :: as) : Same G (hide H1 os) := fun b o h => by
  have hn := f.open_ h
  rw [hide_out (fun z => hn (sub b z))]
  exact s b o hn (f.same b o h)
/-- the innermost frame is changed -/
theorem Fr.top {G H H1 : Hp} {F a : Addr} {bs : List Addr} {top newtop : List T} {below : List (List T)} {newvs : List V} (f : Fr G H F (a :: bs) (top :: below)) (s : ∀ b o, b ≠ a → H b = some o → H1 b = some o) (hn : Reps (hide H1 (F :: a :: bs)) newtop newvs) :
    Same G (hide H1 (F :: a :: bs)) ∧ Fr (hide H1 (F :: a :: bs)) (upd H1 a (.lst newvs)) F (a :: bs) (newtop :: below) := by
  have sg : Same G (hide H1 (F :: a :: bs)) := f.shut (fun b o hb h => s b o (fun e => hb (by rw [e]; simp)) h) fun _ h => h
  have hFa : F ≠ a := fun e => (List.nodup_cons.mp f.nd).1 (by rw [e]; exact List.mem_cons_self)
  have nda := (List.nodup_cons.mp (List.nodup_cons.mp f.nd).2).1
  refine ⟨sg, fun b o h => ?_, hide_in List.mem_cons_self, ?_, ⟨⟨newvs, upd_same, hn⟩, ?_⟩, f.nd, fun b hb => hide_in (List.mem_cons_of_mem _ hb)⟩
  · have hb : b ∉ F :: a :: bs := fun z => by rw [hide_in z] at h; cases h
    rw [hide_out hb] at h
    rw [upd_ne (fun e => hb (by rw [e]; simp))]
    exact h
  · rw [upd_ne hFa]
    exact s _ _ hFa f.at_
  · refine f.fr.2.mono sg fun b hb o h => ?_
    have hba : b ≠ a := fun e => nda (by rw [← e]; exact hb)
    rw [upd_ne hba]
    exact s b o hba h
/-- a frame is begun -/
theorem Fr.begin {G H : Hp} {F p : Addr} {as : List Addr} {fs : List (List T)} (f : Fr G H F as fs) (hp : H p = none) : Fr G (upd (upd H p (.lst [])) F (.lst (as.reverse.map V.ref ++ [.ref p]))) F (p :: as) ([] :: fs) := by
  have hn := f.fresh hp
  have hFp : F ≠ p := fun e => hn (by rw [e]; exact List.mem_cons_self)
  have hGp : G p = none := f.same.free hp
  refine ⟨fun b o h => ?_, f.gF, ?_, ⟨⟨[], ?_, Reps.nil⟩, ?_⟩, ?_, ?_⟩
  · rw [upd_ne (fun e => by rw [e, f.gF] at h; cases h), upd_ne (fun e => by rw [e, hGp] at h; cases h)]
    exact f.same b o h
  · rw [upd_same, List.reverse_cons, List.map_append]
    rfl
  · rw [upd_ne (Ne.symm hFp), upd_same]
  · refine f.fr.mono (Same.refl G) fun b hb o h => ?_
    rw [upd_ne (fun e => (List.nodup_cons.mp f.nd).1 (by rw [← e]; exact hb)), upd_ne (fun e => hn (by rw [← e]; exact List.mem_cons_of_mem _ hb))]
    exact h
  · have := List.nodup_cons.mp f.nd
    refine List.nodup_cons.mpr ⟨fun z => ?_, List.nodup_cons.mpr ⟨fun z => hn (List.mem_cons_of_mem _ z), this.2⟩⟩
    rcases List.mem_cons.mp z with e | z
    · exact hFp e
    · exact this.1 z
  · intro b hb
    rcases List.mem_cons.mp hb with e | hb
    · rw [e]; exact hGp
    · exact f.gn b hb
/-- a frame is ended: its list is closed; H1 stands behind the pop and what was made then -/
theorem Fr.close {G H H1 : Hp} {F a b : Addr} {bs : List Addr} {top : List T} {fb : List T} {below : List (List T)} {o : HO} {newfb : List T} {newvs : List V} (f : Fr G H F (a :: b :: bs) (top :: fb :: below))
    (s : Same (upd H F (.lst ((b :: bs).reverse.map V.ref))) H1) (hn : Reps (hide H1 (F :: b :: bs)) newfb newvs) :
    Same G (hide H1 (F :: b :: bs)) ∧ Fr (hide H1 (F :: b :: bs)) (upd H1 b (.lst newvs)) F (b :: bs) (newfb :: below) := by
  have nd1 := List.nodup_cons.mp f.nd
  have nd2 := List.nodup_cons.mp nd1.2
  have nd3 := List.nodup_cons.mp nd2.2
  have hFb : F ≠ b := fun e => nd1.1 (by rw [e]; simp)
  have keep : ∀ c u, c ≠ F → H c = some u → H1 c = some u := fun c u hc h => s c u (by rw [upd_ne hc]; exact h)
  have sg : Same G (hide H1 (F :: b :: bs)) := fun c u h => by
    have hc := f.open_ h
    rw [hide_out (fun z => hc (by
      rcases List.mem_cons.mp z with e | z
      · rw [e]; exact List.mem_cons_self
      · exact List.mem_cons_of_mem _ (List.mem_cons_of_mem _ z)))]
    exact keep c u (fun e => hc (by rw [e]; exact List.mem_cons_self)) (f.same c u h)
  refine ⟨sg, fun c u h => ?_, hide_in List.mem_cons_self, ?_, ⟨⟨newvs, upd_same, hn⟩, ?_⟩, ?_, fun c hc => hide_in (List.mem_cons_of_mem _ hc)⟩
  · have hb : c ∉ F :: b :: bs := fun z => by rw [hide_in z] at h; cases h
    rw [hide_out hb] at h
    rw [upd_ne (fun e => hb (by rw [e]; simp))]
    exact h
  · rw [upd_ne hFb]
    exact s _ _ upd_same
  · refine f.fr.2.2.mono sg fun c hc u h => ?_
    rw [upd_ne (fun e => nd3.1 (by rw [← e]; exact hc))]
    exact keep c u (fun e => nd1.1 (by rw [← e]; exact List.mem_cons_of_mem _ (List.mem_cons_of_mem _ hc))) h
  · exact List.nodup_cons.mpr ⟨fun z => nd1.1 (List.mem_cons_of_mem _ z), nd2.2⟩
theorem ifN {a b : Int} {A B : Prop} (h : a ≠ b) (k : B) : if decide (V.int a = V.int b) = true then A else B := by
  rw [if_neg (by intro z; exact h (V.int.inj (of_decide_eq_true z)))]
  exact k
theorem rev_last (a : Addr) (bs : List Addr) : (a :: bs).reverse.map V.ref = bs.reverse.map V.ref ++ [.ref a] := by rw [List.reverse_cons, List.map_append]; rfl
def spStep : Sp := fun vs H Q _ => ∃ (F : Addr) (way salt : Int) (G : Hp) (as : List Addr) (fs : List (List T)) (n : Nat), vs = [.ref F, .int way, .int salt] ∧ Fr G H F as fs ∧ Th.Ok n fs ∧ n ≤ 1000 ∧
  ∀ (G' H' : Hp) (as' : List Addr), Same G G' → Fr G' H' F as' (Th.step wordBy fs way salt) → Q .non H'
theorem ok_step {n : Nat} {f g h : Addr} {fd gd hd : FuncData} (TS : At K mg "_law_step" s__law_step ["_law_frames", "_law_way", "_law_salt"] f fd) (TW : At K mg "_law_word_by" s__law_word_by ["_law_salt"] g gd) (TT : At K mg "_law_tags" s__law_tags ["_law_thing"] h hd) (B : Bn mg) :
    FnOk P w K mg base CX0 (n + 2) f fd ["_law_frames", "_law_way", "_law_salt"] spStep := by
  have sc := sc__law_step
  refine TS.F.ok sc (fun vs H Q E h => ?_) (fun cdv A outer s H vs Q E hr h => ?_)
  · obtain ⟨F, way, salt, G, as, fs, n, rfl, _⟩ := h; rfl
  obtain ⟨F, way, salt, G, as, fs, m, rfl, fr, ok, hm, q⟩ := h
  have m_len := B.len
  have m_range := B.range
  have hu := Nat.lt_of_succ_lt (hu_of hr)
  have G__law_word_by : FnOk P w K mg base CX0 (n + 1) g gd _ _ := ok_word TW B
  have G__law_tags : FnOk P w K mg base CX0 (n + 1) h hd _ _ := ok_tags TT B
  have m__law_word_by := TW.m
  have k__law_word_by := TW.F.kp
  have b__law_word_by := TW.b
  have m__law_tags := TT.m
  have k__law_tags := TT.F.kp
  have b__law_tags := TT.b
  refine ⟨_, ((pss_cons (ps_set (i := 3) sc.nd rfl (Or.inl rfl) (pe_ix ix_list (pv 0) (pe_un un_neg pe_int) (fun _ _ => rfl)))
    (pss_one (ps_if (PW.pt (pw_and (pt_cmpR op_eq (pv 1) pe_int (nomark _)) (pw_and1 (pt_cmpR op_lt (pe_callB call_len_seq rfl m_len PySem.boot_len (pa_cons (pv 0) pa_nil)) pe_int (nomark _)))))
      (pss_one (ps_expr (pe_bm PySem.F.plainAttrs_list PySem.F.slot_list_append PySem.F.type_list_append mt_append (pv 0) (pa_cons (pe_lst pa_nil) pa_nil))))
      (pss_one (ps_if (PW.pt (pw_and (pt_cmpR op_eq (pv 1) pe_int (nomark _)) (pw_and1 (pt_cmpR op_gt (pe_callB call_len_seq rfl m_len PySem.boot_len (pa_cons (pv 0) pa_nil)) pe_int (nomark _)))))
        (pss_cons (ps_expr (pe_bm0 PySem.F.plainAttrs_list PySem.F.slot_list_pop PySem.F.type_list_pop mt_pop (pv 0)))
        (pss_one (ps_expr (pe_bm PySem.F.plainAttrs_list PySem.F.slot_list_append PySem.F.type_list_append mt_append (pe_ix ix_list (pv 0) (pe_un un_neg pe_int) (fun _ _ => rfl)) (pa_cons (pe_tup (pa_cons pe_str (pa_cons (pe_call G__law_word_by hr rfl m__law_word_by k__law_word_by b__law_word_by .nil pass0 (pa_cons (pv 2) pa_nil)) (pa_cons (pv 3) pa_nil)))) pa_nil)))))
        (pss_one (ps_if (pt_cmpR op_eq (pv 1) pe_int (nomark _))
          (pss_one (ps_expr (pe_bm PySem.F.plainAttrs_list PySem.F.slot_list_append PySem.F.type_list_append mt_append (pv 3) (pa_cons (pe_tup (pa_cons pe_str (pa_cons (pe_comp rfl (pi_range1 rfl m_range (pa_cons (pe_op op_mod (pv 2) pe_int) pa_nil)) (CompOk.of (cl := [("_law_salt", s.heap.objs.size + 1)]) (fr := [("_law_salt", 2)]) rfl (by decide +kernel) rfl (by decide +kernel) (by decide +kernel) (fun _ _ h => h) (fun p hp e => ⟨_, by rw [(by decide +kernel : ∀ p ∈ _, p.2 = NameKind.free → p.1 = ("_law_salt" : Str)) p hp e]; rfl⟩) (fun p hp => by cases List.mem_singleton.mp hp; exact ⟨rfl, rfl, Or.inl rfl⟩) (by decide +kernel)) (fun _ _ _ => (pe_call G__law_word_by hr rfl m__law_word_by k__law_word_by b__law_word_by .nil pass0 (pa_cons (pe_op op_add (pv 1) (pe_op op_mul pe_int (pv 0))) pa_nil)))) pa_nil))) pa_nil))))
          (pss_one (ps_if (PW.pt (pw_and (pt_cmpR op_eq (pv 1) pe_int (nomark _)) (pw_and (pt_cmpR (op_neN hu) (pv 3) (pe_lst pa_nil) (nomark _)) (pw_and1 (pt_cmpR op_lt (pe_call G__law_tags hr rfl m__law_tags k__law_tags b__law_tags .nil pass0 (pa_cons (pe_ix ix_list (pv 3) (pe_un un_neg pe_int) (fun _ _ => rfl)) pa_nil)) pe_int (nomark _))))))
            (pss_cons (ps_set (i := 4) sc.nd rfl (Or.inl rfl) (pe_bm0 PySem.F.plainAttrs_list PySem.F.slot_list_pop PySem.F.type_list_pop mt_pop (pv 3)))
            (pss_one (ps_expr (pe_bm PySem.F.plainAttrs_list PySem.F.slot_list_append PySem.F.type_list_append mt_append (pv 3) (pa_cons (pe_tup (pa_cons pe_str (pa_cons (pe_call G__law_word_by hr rfl m__law_word_by k__law_word_by b__law_word_by .nil pass0 (pa_cons (pv 2) pa_nil)) (pa_cons (pv 4) pa_nil)))) pa_nil)))))
            (pss_one (ps_expr (pe_bm PySem.F.plainAttrs_list PySem.F.slot_list_append PySem.F.type_list_append mt_append (pv 3) (pa_cons (pe_call G__law_word_by hr rfl m__law_word_by k__law_word_by b__law_word_by .nil pass0 (pa_cons (pv 2) pa_nil)) pa_nil)))))))))))))), ?_⟩
  have hlen := fr.fr.len
  cases fs with
  | nil => exact absurd rfl ok.ne
  | cons top below =>
  cases as with
  | nil => simp at hlen
  | cons a bs =>
  have hlb : bs.length = below.length := by simpa using hlen
  obtain ⟨⟨vs, ha, hrep⟩, hbelow⟩ := id fr.fr
  have hat := fr.at_
  rw [rev_last] at hat
  have hvl : vs.length ≤ 400000 := by
    rw [← hrep.len]
    have h1 := Th.hefts_le top
    have h2 := ok.sz
    rw [Th.tot, List.map_cons, List.sum_cons] at h2
    omega
  have hol := ok.le
  rw [List.length_cons] at hol
  have hfl : (bs.reverse.map V.ref ++ [V.ref a]).length = below.length + 1 := by
    rw [List.length_append, List.length_map, List.length_reverse, hlb]
    rfl
  have hFa : F ≠ a := fun e => (List.nodup_cons.mp fr.nd).1 (by rw [e]; exact List.mem_cons_self)
  -- a plain word
  have wordEnd : Th.step wordBy (top :: below) way salt = (top ++ [.word (wordBy salt)]) :: below → ∀ H1, Same H H1 → Q .non (upd H1 a (.lst (vs ++ [.str (wordBy salt)]))) := by
    intro e H1 s1
    have sg : Same G (hide H1 (F :: a :: bs)) := fr.shut (fun b o _ h => s1 b o h) fun _ h => h
    have k := fr.top (H1 := H1) (newtop := top ++ [.word (wordBy salt)]) (newvs := vs ++ [.str (wordBy salt)]) (fun b o _ h => s1 b o h) (Reps.snoc (Reps.mono sg _ _ hrep) (by rw [Rep]))
    refine q _ _ (a :: bs) k.1 ?_
    rw [e]
    exact k.2
  have ha0 : atI (bs.reverse.map V.ref ++ [V.ref a]) (-1) = some (.ref a) := atI_last _ _
  refine ⟨_, rfl, _, rfl, F, _, _, .ref a, rfl, rfl, SqL.of hat, ha0, ?_⟩
  by_cases w0 : way = 0
  · subst w0
    refine ⟨_, rfl, rfl, _, rfl, ?_⟩
    refine iteT ?_
    refine ⟨_, rfl, F, _, rfl, .inl (SqL.of hat), _, _, rfl, rfl, _, rfl, ?_⟩
    refine ite2 (fun c => ?_) (fun c => ?_)
    · have c' : (((bs.reverse.map V.ref ++ [V.ref a]).length : Nat) : Int) < 9 := of_decide_eq_true c
      rw [hfl] at c'
      refine ⟨_, rfl, .inl ⟨rfl, _, SqL.of hat⟩, (by show 0 ≤ sizeLine; decide), fun p hp => ⟨F, _, _, rfl, rfl, same_new hp _ _ _ hat, lt_size (by rw [hfl]; omega), ?_⟩⟩
      have k := fr.begin hp
      rw [rev_last] at k
      refine q G _ (p :: a :: bs) (Same.refl G) ?_
      have e : Th.step wordBy (top :: below) 0 salt = [] :: top :: below := by unfold Th.step; dsimp only; rw [if_pos ⟨rfl, by omega⟩]
      rw [e]
      exact k
    · have c' : ¬ (((bs.reverse.map V.ref ++ [V.ref a]).length : Nat) : Int) < 9 := fun z => c (decide_eq_true z)
      rw [hfl] at c'
      refine ⟨_, rfl, rfl, _, rfl, ?_⟩
      refine iteF ?_
      refine iteF ?_
      refine ⟨_, rfl, rfl, _, rfl, ?_⟩
      refine iteF ?_
      refine ⟨_, rfl, rfl, _, rfl, ?_⟩
      refine iteF ?_
      refine iteF ?_
      refine ⟨_, rfl, .inl ⟨rfl, _, SqL.of ha⟩, _, rfl, salt, rfl, fun H1 s1 => ⟨a, _, _, rfl, rfl, s1 _ _ ha, lt_size (by omega), ?_⟩⟩
      refine wordEnd ?_ H1 s1
      unfold Th.step
      dsimp only
      rw [if_neg (fun z => c' (by omega)), if_neg (fun z => absurd z.1 (by decide)), if_neg (by decide), if_neg (by decide)]
  by_cases w1 : way = 1
  · subst w1
    refine ⟨_, rfl, rfl, _, rfl, ?_⟩
    refine iteF ?_
    refine iteF ?_
    refine ⟨_, rfl, rfl, _, rfl, ?_⟩
    refine iteT ?_
    refine ⟨_, rfl, F, _, rfl, .inl (SqL.of hat), _, _, rfl, rfl, _, rfl, ?_⟩
    refine ite2 (fun c => ?_) (fun c => ?_)
    · have c' : (1 : Int) < (((bs.reverse.map V.ref ++ [V.ref a]).length : Nat) : Int) := of_decide_eq_true c
      rw [hfl] at c'
      cases below with
      | nil => simp at c'
      | cons fb below =>
      cases bs with
      | nil => simp at hlb
      | cons b bs =>
      obtain ⟨⟨vb, hb, hrb⟩, _⟩ := id hbelow
      have nd1 := List.nodup_cons.mp fr.nd
      have nd2 := List.nodup_cons.mp nd1.2
      have hbF : b ≠ F := fun e => nd1.1 (by rw [← e]; simp)
      have hab : a ∉ F :: b :: bs := fun z => by
        rcases List.mem_cons.mp z with e | z
        · exact hFa e.symm
        · exact nd2.1 z
      have hvb : vb.length ≤ 400000 := by
        rw [← hrb.len]
        have h1 := Th.hefts_le fb
        have h2 := ok.sz
        rw [Th.tot, List.map_cons, List.sum_cons, List.map_cons, List.sum_cons] at h2
        omega
      refine ⟨_, rfl, .inl ⟨rfl, _, SqL.of hat⟩, F, _, .ref a, rfl, rfl, hat, last_at _ _, ?_⟩
      rw [List.dropLast_concat]
      have e1 : (upd H F (.lst ((b :: bs).reverse.map V.ref))) F = some (.lst (bs.reverse.map V.ref ++ [.ref b])) := by rw [upd_same, rev_last]
      have b1 : (upd H F (.lst ((b :: bs).reverse.map V.ref))) b = some (.lst vb) := by rw [upd_ne hbF]; exact hb
      have a1 : (upd H F (.lst ((b :: bs).reverse.map V.ref))) a = some (.lst vs) := by rw [upd_ne (Ne.symm hFa)]; exact ha
      refine ⟨_, rfl, _, rfl, F, _, _, .ref b, rfl, rfl, SqL.of e1, atI_last _ _, .inl ⟨rfl, _, SqL.of b1⟩, _, rfl, salt, rfl, fun H2 s2 => ⟨_, rfl, (by show 3 ≤ sizeLine; decide), fun p hp => ?_⟩⟩
      have s3 : Same (upd H F (.lst ((b :: bs).reverse.map V.ref))) (upd H2 p (.tup [.str "bundle", .str (wordBy salt), .ref a])) := s2.trans (same_new hp _)
      have hpn : p ∉ F :: b :: bs := fun z => by
        have hp1 := s2.free hp
        rcases List.mem_cons.mp z with e | z
        · rw [e, e1] at hp1; cases hp1
        · have := fr.fresh (p := p) (by
            rw [upd_ne (fun e => nd1.1 (by rw [← e]; exact List.mem_cons_of_mem _ z))] at hp1
            exact hp1)
          exact this (List.mem_cons_of_mem _ (List.mem_cons_of_mem _ z))
      refine ⟨b, vb, _, rfl, rfl, s3 _ _ b1, lt_size (by omega), ?_⟩
      have sg : Same G (hide (upd H2 p (.tup [.str "bundle", .str (wordBy salt), .ref a])) (F :: b :: bs)) := fun c u h => by
        have hc := fr.open_ h
        rw [hide_out (fun z => hc (by
          rcases List.mem_cons.mp z with e | z
          · rw [e]; exact List.mem_cons_self
          · exact List.mem_cons_of_mem _ (List.mem_cons_of_mem _ z)))]
        exact s3 c u (by rw [upd_ne (fun e => hc (by rw [e]; exact List.mem_cons_self))]; exact fr.same c u h)
      have k := fr.close (o := .lst []) s3 (newfb := fb ++ [.bundle (wordBy salt) top]) (newvs := vb ++ [.ref p]) (Reps.snoc (Reps.mono sg _ _ hrb) (by
        rw [Rep]
        refine ⟨p, a, vs, rfl, ?_, ?_, Reps.mono sg _ _ hrep⟩
        · rw [hide_out hpn, upd_same]
        · rw [hide_out hab]; exact s3 _ _ a1))
      refine q _ _ (b :: bs) k.1 ?_
      have e : Th.step wordBy (top :: fb :: below) 1 salt = (fb ++ [.bundle (wordBy salt) top]) :: below := by unfold Th.step; dsimp only; rw [if_neg (fun z => absurd z.1 (by decide)), if_pos ⟨rfl, by simp⟩]; rfl
      rw [e]
      exact k.2
    · have c' : ¬ (1 : Int) < (((bs.reverse.map V.ref ++ [V.ref a]).length : Nat) : Int) := fun z => c (decide_eq_true z)
      rw [hfl] at c'
      have hb0 : below = [] := List.length_eq_zero_iff.mp (by omega)
      refine ⟨_, rfl, rfl, _, rfl, ?_⟩
      refine iteF ?_
      refine ⟨_, rfl, rfl, _, rfl, ?_⟩
      refine iteF ?_
      refine iteF ?_
      refine ⟨_, rfl, .inl ⟨rfl, _, SqL.of ha⟩, _, rfl, salt, rfl, fun H1 s1 => ⟨a, _, _, rfl, rfl, s1 _ _ ha, lt_size (by omega), ?_⟩⟩
      refine wordEnd ?_ H1 s1
      unfold Th.step
      dsimp only
      rw [if_neg (fun z => absurd z.1 (by decide)), if_neg (fun z => z.2 hb0), if_neg (by decide), if_neg (by decide)]
  by_cases w2 : way = 2
  · subst w2
    refine ⟨_, rfl, rfl, _, rfl, ?_⟩
    refine iteF ?_
    refine iteF ?_
    refine ⟨_, rfl, rfl, _, rfl, ?_⟩
    refine iteF ?_
    refine iteF ?_
    refine ⟨_, rfl, rfl, _, rfl, ?_⟩
    refine iteT ?_
    refine ⟨_, rfl, .inl ⟨rfl, _, SqL.of ha⟩, _, rfl, _, _, rfl, rfl, (by show (0 : Int) < 9; decide), _, rfl, by omega, by omega, fun D hD => ?_⟩
    refine comp_range (fun k => V.str (wordBy (salt + 11 * (0 + (k : Int))))) hD (le_size (by omega)) ?_ ?_
    · intro i H' R hi s1 k
      exact ⟨_, rfl, _, rfl, _, _, rfl, rfl, .inl ⟨by decide, by decide⟩, _, _, rfl, rfl, _, rfl, k⟩
    · intro H1 s1 hD1
      refine ⟨(by show 2 ≤ sizeLine; decide), fun p hp => ?_⟩
      have s2 : Same H (upd H1 p (.tup [.str "run", .ref D])) := s1.trans (same_new hp _)
      refine ⟨a, vs, _, rfl, rfl, s2 _ _ ha, lt_size (by omega), ?_⟩
      have hpn := fr.fresh (s1.free hp)
      have hDn := fr.fresh hD
      have sg : Same G (hide (upd H1 p (.tup [.str "run", .ref D])) (F :: a :: bs)) := fr.shut (fun b o _ h => s2 b o h) fun _ h => h
      have k := fr.top (H1 := upd H1 p (.tup [.str "run", .ref D])) (newtop := top ++ [Th.runOf wordBy salt]) (newvs := vs ++ [.ref p]) (fun b o _ h => s2 b o h) (Reps.snoc (Reps.mono sg _ _ hrep) (by
        rw [Th.runOf, Rep]
        refine ⟨p, D, rfl, ?_, ?_⟩
        · rw [hide_out hpn, upd_same]
        · rw [hide_out hDn, same_new hp _ _ _ hD1, List.map_map]
          congr 2
          refine List.map_congr_left fun i _ => ?_
          show V.str (wordBy (salt + 11 * (0 + (i : Int)))) = V.str (wordBy (salt + 11 * (i : Int)))
          rw [Int.zero_add]))
      refine q _ _ (a :: bs) k.1 ?_
      have e : Th.step wordBy (top :: below) 2 salt = (top ++ [Th.runOf wordBy salt]) :: below := by unfold Th.step; dsimp only; rw [if_neg (fun z => absurd z.1 (by decide)), if_neg (fun z => absurd z.1 (by decide)), if_pos rfl]
      rw [e]
      exact k.2
  by_cases w3 : way = 3
  · subst w3
    refine ⟨_, rfl, rfl, _, rfl, ?_⟩
    refine iteF ?_
    refine iteF ?_
    refine ⟨_, rfl, rfl, _, rfl, ?_⟩
    refine iteF ?_
    refine iteF ?_
    refine ⟨_, rfl, rfl, _, rfl, ?_⟩
    refine iteF ?_
    refine ⟨_, rfl, rfl, _, rfl, ?_⟩
    refine iteT ?_
    refine ⟨_, rfl, (by show 0 ≤ sizeLine; decide), fun e he => ?_⟩
    have s1 : Same H (upd H e (.lst [])) := same_new he _
    have a1 := s1 _ _ ha
    refine ⟨a, e, vs, rfl, rfl, SqL.of a1, SqL.of upd_same, _, rfl, ?_⟩
    generalize upd H e (.lst []) = H1 at s1 a1
    show if (!vs.isEmpty) = true then _ else _
    have es : Th.step wordBy (top :: below) 3 salt = (Th.tagTop wordBy salt top).getD (top ++ [.word (wordBy salt)]) :: below := by
      unfold Th.step
      dsimp only
      rw [if_neg (fun z => absurd z.1 (by decide)), if_neg (fun z => absurd z.1 (by decide)), if_neg (by decide), if_pos rfl]
    cases el : top.getLast? with
    | none =>
      have ht : top = [] := List.getLast?_eq_none_iff.mp el
      have hv : vs = [] := List.length_eq_zero_iff.mp (by rw [← hrep.len, ht]; rfl)
      rw [if_neg (by rw [hv]; decide)]
      refine iteF ?_
      refine ⟨_, rfl, .inl ⟨rfl, _, SqL.of a1⟩, _, rfl, salt, rfl, fun H2 s2 => ⟨a, _, _, rfl, rfl, s2 _ _ a1, lt_size (by omega), ?_⟩⟩
      refine wordEnd ?_ H2 (s1.trans s2)
      rw [es, Th.tagTop, el]
      rfl
    | some t =>
      have ht := Th.last_split el
      rw [ht] at hrep
      obtain ⟨us, v, rfl, hus, hv⟩ := hrep.last
      rw [if_pos (by simp)]
      refine ⟨_, rfl, _, rfl, a, _, _, v, rfl, rfl, SqL.of a1, atI_last _ _, t, v, rfl, Rep.mono (fr.same.trans s1) _ _ hv, _, _, rfl, rfl, _, rfl, ?_⟩
      refine ite2 (fun c => ?_) (fun c => ?_)
      · have c' : (Th.tags t : Int) < 4 := of_decide_eq_true c
        refine ⟨_, rfl, .inl ⟨rfl, _, SqL.of a1⟩, a, _, v, rfl, rfl, a1, last_at _ _, ?_⟩
        rw [List.dropLast_concat]
        refine ⟨_, rfl, .inl ⟨rfl, _, SqL.of upd_same⟩, _, rfl, salt, rfl, fun H2 s2 => ⟨_, rfl, (by show 3 ≤ sizeLine; decide), fun p hp => ?_⟩⟩
        have a2 := s2 _ _ upd_same
        have s3 : ∀ b o, b ≠ a → H b = some o → (upd H2 p (.tup [.str "tag", .str (wordBy salt), v])) b = some o := fun b o hb h => by
          have h2 := s2 b o (by rw [upd_ne hb]; exact s1 b o h)
          exact same_new hp _ _ _ h2
        have hul : us.length ≤ 400000 := by rw [List.length_append] at hvl; omega
        refine ⟨a, us, _, rfl, rfl, same_new hp _ _ _ a2, lt_size (by omega), ?_⟩
        have hpn : p ∉ F :: a :: bs := by
          have hpa : p ≠ a := fun e => by rw [e, a2] at hp; cases hp
          have hp1 := s2.free hp
          rw [upd_ne hpa] at hp1
          exact fr.fresh (s1.free hp1)
        have sg : Same G (hide (upd H2 p (.tup [.str "tag", .str (wordBy salt), v])) (F :: a :: bs)) := fr.shut (fun b o hb h => s3 b o (fun e => hb (by rw [e]; simp)) h) fun _ h => h
        have k := fr.top (H1 := upd H2 p (.tup [.str "tag", .str (wordBy salt), v])) (newtop := top.dropLast ++ [.tag (wordBy salt) t]) (newvs := us ++ [.ref p]) s3 (Reps.snoc (Reps.mono sg _ _ hus) (by
          rw [Rep]
          refine ⟨p, v, rfl, ?_, Rep.mono sg _ _ hv⟩
          rw [hide_out hpn, upd_same]))
        refine q _ _ (a :: bs) k.1 ?_
        rw [es, Th.tagTop, el]
        dsimp only
        rw [if_pos (by omega)]
        exact k.2
      · have c' : ¬ (Th.tags t : Int) < 4 := fun z => c (decide_eq_true z)
        refine ⟨_, rfl, .inl ⟨rfl, _, SqL.of a1⟩, _, rfl, salt, rfl, fun H2 s2 => ⟨a, _, _, rfl, rfl, s2 _ _ a1, lt_size (by omega), ?_⟩⟩
        refine wordEnd ?_ H2 (s1.trans s2)
        rw [es, Th.tagTop, el]
        dsimp only
        rw [if_neg (by omega)]
        rfl
  · refine ⟨_, rfl, rfl, _, rfl, ?_⟩
    refine ifN w0 ?_
    refine iteF ?_
    refine ⟨_, rfl, rfl, _, rfl, ?_⟩
    refine ifN w1 ?_
    refine iteF ?_
    refine ⟨_, rfl, rfl, _, rfl, ?_⟩
    refine ifN w2 ?_
    refine ⟨_, rfl, rfl, _, rfl, ?_⟩
    refine ifN w3 ?_
    refine iteF ?_
    refine ⟨_, rfl, .inl ⟨rfl, _, SqL.of ha⟩, _, rfl, salt, rfl, fun H1 s1 => ⟨a, _, _, rfl, rfl, s1 _ _ ha, lt_size (by omega), ?_⟩⟩
    refine wordEnd ?_ H1 s1
    unfold Th.step
    dsimp only
    rw [if_neg (fun z => w0 z.1), if_neg (fun z => w1 z.1), if_neg w2, if_neg w3]
theorem fr_start {H : Hp} {p F : Addr} (hp : H p = none) (hF : (upd H p (.lst [])) F = none) : Fr H (upd (upd H p (.lst [])) F (.lst [.ref p])) F [p] [[]] := by
  have hFp : F ≠ p := fun e => by rw [e, upd_same] at hF; cases hF
  have hHF : H F = none := by rw [upd_ne hFp] at hF; exact hF
  refine ⟨same_upd (same_new hp _) hHF _, hHF, upd_same, ⟨⟨[], ?_, Reps.nil⟩, True.intro⟩, ?_, ?_⟩
  · rw [upd_ne (Ne.symm hFp), upd_same]
  · simp [hFp]
  · intro a ha
    have e : a = p := by simpa using ha
    rw [e]; exact hp
def spGrown (K : PySem.W.Frag) : Sp := fun vs H Q _ => ∃ (c : Addr) (cells : List Int), vs = [.ref c] ∧ SqL K H c (cells.map V.int) ∧ cells.length ≤ 63 ∧ ∀ (v : V) (H' : Hp), Same H H' → Rep H' (Th.grown wordBy cells) v → Q v H'
theorem ok_grown {n : Nat} {f g h k : Addr} {fd gd hd kd : FuncData} (TG : At K mg "_law_grown" s__law_grown ["_law_cells"] f fd) (TS : At K mg "_law_step" s__law_step ["_law_frames", "_law_way", "_law_salt"] g gd) (TW : At K mg "_law_word_by" s__law_word_by ["_law_salt"] h hd) (TT : At K mg "_law_tags" s__law_tags ["_law_thing"] k kd) (B : Bn mg) :
    FnOk P w K mg base CX0 (n + 3) f fd ["_law_cells"] (spGrown K) := by
  have sc := sc__law_grown
  refine TG.F.ok sc (fun vs H Q E h => ?_) (fun cdv A outer s H vs Q E hr h => ?_)
  · obtain ⟨c, cells, rfl, _⟩ := h; rfl
  obtain ⟨c, cells, rfl, hS, h63, q⟩ := h
  have m_len := B.len
  have m_range := B.range
  have G__law_step : FnOk P w K mg base CX0 (n + 2) g gd _ _ := ok_step TS TW TT B
  have m__law_step := TS.m
  have k__law_step := TS.F.kp
  have b__law_step := TS.b
  have okg := Th.ok_grow wordBy wordBy_len cells
  refine ⟨_, ((pss_cons (ps_set (i := 1) sc.nd rfl (Or.inl rfl) (pe_lst (pa_cons (pe_lst pa_nil) pa_nil)))
    (pss_cons (ps_for PassesOwn.never rfl (pi_range1 rfl m_range (pa_cons (pe_callB call_len_seq rfl m_len PySem.boot_len (pa_cons (pv 0) pa_nil)) pa_nil)) (pg_name (i := 2) sc.nd rfl (Or.inl rfl))
      (pss_one (ps_expr (pe_call G__law_step hr rfl m__law_step k__law_step b__law_step .nil pass0 (pa_cons (pv 1) (pa_cons (pe_op op_mod (pe_ix ix_list (pv 0) (pv 2) (fun _ _ => rfl)) pe_int) (pa_cons (pe_op op_add (pe_op op_fdiv (pe_ix ix_list (pv 0) (pv 2) (fun _ _ => rfl)) pe_int) (pe_op op_mul pe_int (pv 2))) pa_nil)))))))
    (pss_cons (ps_while PassesOwn.never (pt_cmpR op_gt (pe_callB call_len_seq rfl m_len PySem.boot_len (pa_cons (pv 1) pa_nil)) pe_int (nomark _))
      (pss_one (ps_expr (pe_call G__law_step hr rfl m__law_step k__law_step b__law_step .nil pass0 (pa_cons (pv 1) (pa_cons pe_int (pa_cons (pe_callB call_len_seq rfl m_len PySem.boot_len (pa_cons (pv 1) pa_nil)) pa_nil)))))))
    (pss_cons (ps_if (pt_cmpR op_eq (pe_callB call_len_seq rfl m_len PySem.boot_len (pa_cons (pe_ix ix_list (pv 1) pe_int (fun _ _ => rfl)) pa_nil)) pe_int (nomark _))
      (pss_one (ps_ret (pe_ix ix_list (pe_ix ix_list (pv 1) pe_int (fun _ _ => rfl)) pe_int (fun _ _ => rfl))))
      pss_nil)
    (pss_one (ps_ret (pe_tup (pa_cons pe_str (pa_cons pe_str (pa_cons (pe_ix ix_list (pv 1) pe_int (fun _ _ => rfl)) pa_nil))))))))))), ?_⟩
  refine ⟨(by show 0 ≤ sizeLine; decide), fun p hp => ⟨(by show 1 ≤ sizeLine; decide), fun F hF => ?_⟩⟩
  have fr0 := fr_start hp hF
  refine ⟨_, rfl, c, _, rfl, .inl (fr0.same.seq hS), _, rfl, by rw [List.length_map]; omega, by rw [List.length_map]; omega, ?_⟩
  have el : (((cells.map V.int).length : Nat) : Int).toNat = cells.length := by rw [List.length_map]; omega
  rw [el]
  refine for_range (fun i σ H' => ∃ (G : Hp) (as : List Addr) (kv : Option V), σ = [some (.ref c), some (.ref F), kv] ∧ Same H G ∧ Fr G H' F as (Th.grow wordBy cells i)) ⟨H, [p], none, rfl, Same.refl H, fr0⟩ ?_ ?_
  · rintro i σ H1 hi ⟨G, as, kv, rfl, sG, fr⟩
    have hc1 := (sG.trans fr.same).seq hS
    have hx : atI (cells.map V.int) (0 + (i : Int)) = some (.int (cells.getD i 0)) := by
      rw [Int.zero_add]
      exact atI_nat (by rw [List.getElem?_map, List.getElem?_eq_getElem hi, List.getD_eq_getElem?_getD, List.getElem?_eq_getElem hi]; rfl)
    refine ⟨_, rfl, _, rfl, _, rfl, c, _, _, _, rfl, rfl, hc1, hx, _, _, rfl, rfl, (by show (0 : Int) < 7; decide), _, rfl, _, rfl, c, _, _, _, rfl, rfl, hc1, hx, _, _, rfl, rfl, ⟨by decide, by decide⟩, _, rfl, _, _, rfl, rfl, .inl ⟨by decide, by decide⟩, _, _, rfl, rfl, F, cells.getD i 0 % 7, cells.getD i 0 / 7 + 3 * (0 + (i : Int)), G, as, _, i, rfl, fr, okg i, by omega, fun G' H2 as' sg fr' => ?_⟩
    rw [Int.zero_add] at fr'
    exact ⟨G', as', _, rfl, sG.trans sg, fr'⟩
  · rintro σ H1 ⟨G, as, kv, rfl, sG, fr⟩
    have ol := (okg cells.length).le
    have one := (okg cells.length).ne
    have hpos : 0 < (Th.grow wordBy cells cells.length).length := List.length_pos_iff.mpr one
    refine ⟨fun m σ H' => ∃ (G : Hp) (as : List Addr) (fs : List (List T)) (kv : Option V) (j : Nat), σ = [some (.ref c), some (.ref F), kv] ∧ Same H G ∧ Fr G H' F as fs ∧ fs.length = m + 1 ∧ Th.thingOf (Th.close wordBy m fs) = Th.grown wordBy cells ∧ Th.Ok j fs ∧ j + m ≤ 100,
      ⟨(Th.grow wordBy cells cells.length).length - 1, G, as, _, kv, cells.length, rfl, sG, fr, by omega, rfl, okg _, by omega⟩, ?_⟩
    rintro m σ H2 ⟨G2, as2, fs, kv2, j, rfl, sG2, fr2, hfl, heq, okj, hj⟩
    have hal := fr2.fr.len
    refine ⟨_, rfl, F, _, rfl, .inl (SqL.of fr2.at_), _, _, rfl, rfl, _, rfl, ?_⟩
    have hll : (as2.reverse.map V.ref).length = m + 1 := by rw [List.length_map, List.length_reverse, hal, hfl]
    refine ite2 (fun cc => ?_) (fun cc => ?_)
    · have c' : (1 : Int) < (((as2.reverse.map V.ref).length : Nat) : Int) := of_decide_eq_true cc
      rw [hll] at c'
      obtain ⟨m', rfl⟩ : ∃ m', m = m' + 1 := ⟨m - 1, by omega⟩
      refine ⟨fun σ' H' => ∃ (G : Hp) (as : List Addr) (kv : Option V), σ' = [some (.ref c), some (.ref F), kv] ∧ Same H G ∧ Fr G H' F as (Th.step wordBy fs 1 ((m' : Int) + 2)), ?_, ?_⟩
      · rintro σ' H' ⟨G3, as3, kv3, rfl, sG3, fr3⟩
        exact ⟨m', by omega, G3, as3, _, kv3, j + 1, rfl, sG3, fr3, Th.step_close_len wordBy hfl, heq, Th.ok_step wordBy wordBy_len okj _ _, by omega⟩
      · refine ⟨_, rfl, _, rfl, F, _, rfl, .inl (SqL.of fr2.at_), F, 1, _, G2, as2, fs, j, rfl, fr2, okj, by omega, fun G3 H3 as3 sg fr3 => ?_⟩
        have e : (((as2.reverse.map V.ref).length : Nat) : Int) = (m' : Int) + 2 := by rw [hll]; omega
        rw [e] at fr3
        exact ⟨G3, as3, _, rfl, sG2.trans sg, fr3⟩
    · have c' : ¬ (1 : Int) < (((as2.reverse.map V.ref).length : Nat) : Int) := fun z => cc (decide_eq_true z)
      rw [hll] at c'
      have hm0 : m = 0 := by omega
      subst hm0
      match fs, as2, hfl, hal, fr2, heq with
      | [f0], [a], _, _, fr2, heq =>
        obtain ⟨⟨vs, ha, hrep⟩, _⟩ := id fr2.fr
        have hat : H2 F = some (.lst [.ref a]) := fr2.at_
        have heq' : Th.thingOf [f0] = Th.grown wordBy cells := heq
        have sH := sG2.trans fr2.same
        refine ⟨_, rfl, F, _, _, .ref a, rfl, rfl, SqL.of hat, rfl, a, _, rfl, .inl (SqL.of ha), rfl, _, rfl, ?_⟩
        refine ite2 (fun c1 => ?_) (fun c1 => ?_)
        · have c1' : ((vs.length : Nat) : Int) = 1 := V.int.inj (of_decide_eq_true c1)
          have hl1 : vs.length = 1 := by omega
          match vs, hl1, ha, hrep with
          | [v], _, ha, hrep =>
            have hf := hrep.len
            match f0, hf, hrep, heq' with
            | [t], _, hrep, heq' =>
              rw [Reps] at hrep
              obtain ⟨v', r, e, hv, _⟩ := hrep
              cases e
              refine ⟨_, rfl, F, _, _, .ref a, rfl, rfl, SqL.of hat, rfl, a, _, _, v, rfl, rfl, SqL.of ha, rfl, q v H2 sH ?_⟩
              rw [← heq']
              exact Rep.mono fr2.same _ _ hv
        · have c1' : ¬ vs.length = 1 := fun z => c1 (decide_eq_true (congrArg V.int (by rw [z]; rfl)))
          refine ⟨_, rfl, F, _, _, .ref a, rfl, rfl, SqL.of hat, rfl, (by show 3 ≤ sizeLine; decide), fun p' hp' => ?_⟩
          have s3 : Same H2 (upd H2 p' (.tup [.str "bundle", .str "top", .ref a])) := same_new hp' _
          refine q (.ref p') _ (sH.trans s3) ?_
          have hf := hrep.len
          have e : Th.thingOf [f0] = .bundle "top" f0 := by
            match f0, hf with
            | [], _ => rfl
            | [t], hf => exact absurd hf.symm c1'
            | _ :: _ :: _, _ => rfl
          rw [← heq', e, Rep]
          exact ⟨p', a, vs, rfl, upd_same, s3 _ _ ha, Reps.mono (fr2.same.trans s3) _ _ hrep⟩
end

/-! ### _law_flat_line -/
section
open Rp
open Th (T)
variable {P : Program} {w : World} {K : PySem.W.Frag} {mg : Str → Option Value} {base : Heap}
def spLine : Sp := fun vs H Q _ => ∃ (t : T) (v : V), vs = [v] ∧ Rep H t v ∧ Th.size t ≤ 1000000 ∧ ∀ H', Same H H' → Q (.str (Th.flat t)) H'
theorem ok_line {n : Nat} {f : Addr} {fd : FuncData} (TL : At K mg "_law_flat_line" s__law_flat_line ["_law_thing"] f fd) (B : Bn mg) : FnOk P w K mg base CX0 (n + 1) f fd ["_law_thing"] spLine := by
  have sc := sc__law_flat_line
  refine TL.F.ok sc (fun vs H Q E h => ?_) (fun cdv A outer s H vs Q E hr h => ?_)
  · obtain ⟨t, v, rfl, _⟩ := h; rfl
  obtain ⟨t, v, rfl, R, hz, q⟩ := h
  have m_isinstance := B.isinstance
  have m_str := B.str
  have m_len := B.len
  have m_range := B.range
  have hu := Nat.lt_of_succ_lt (hu_of hr)
  refine ⟨_, ((pss_cons (ps_set (i := 1) sc.nd rfl (Or.inl rfl) pe_str)
    (pss_cons (ps_set (i := 2) sc.nd rfl (Or.inl rfl) (pe_lst (pa_cons (pv 0) pa_nil)))
    (pss_cons (ps_while PassesOwn.never (pt_cmpR (op_neN hu) (pv 2) (pe_lst pa_nil) (nomark _))
      (pss_cons (ps_set (i := 3) sc.nd rfl (Or.inl rfl) (pe_bm0 PySem.F.plainAttrs_list PySem.F.slot_list_pop PySem.F.type_list_pop mt_pop (pv 2)))
      (pss_one (ps_if (pt_val (pe_callB call_isinst rfl m_isinstance boot_isinstance' (pa_cons (pv 3) (pa_cons (pe_bltn (v := .ty "str") rfl m_str boot_str' rfl) pa_nil))))
        (pss_one (ps_set (i := 1) sc.nd rfl (Or.inl rfl) (pe_op op_add_str (pv 1) (pv 3))))
        (pss_one (ps_if (pt_cmpR op_eq (pe_ix ix_tup (pv 3) pe_int (fun _ _ => rfl)) pe_str (nomark _))
          (pss_cons (ps_expr (pe_bm PySem.F.plainAttrs_list PySem.F.slot_list_append PySem.F.type_list_append mt_append (pv 2) (pa_cons (pe_ix ix_tup (pv 3) pe_int (fun _ _ => rfl)) pa_nil)))
          (pss_one (ps_expr (pe_bm PySem.F.plainAttrs_list PySem.F.slot_list_append PySem.F.type_list_append mt_append (pv 2) (pa_cons (pe_op op_add_str (pe_ix ix_tup (pv 3) pe_int (fun _ _ => rfl)) pe_str) pa_nil)))))
          (pss_one (ps_if (pt_cmpR op_eq (pe_ix ix_tup (pv 3) pe_int (fun _ _ => rfl)) pe_str (nomark _))
            (pss_one (ps_set (i := 1) sc.nd rfl (Or.inl rfl) (pe_op op_add_str (pe_op op_add_str (pe_op op_add_str (pv 1) pe_str) (pe_bm PySem.F.plainAttrs_str PySem.F.slot_str_join PySem.F.type_str_join mt_join pe_str (pa_cons (pe_ix ix_tup (pv 3) pe_int (fun _ _ => rfl)) pa_nil))) pe_str)))
            (pss_cons (ps_expr (pe_bm PySem.F.plainAttrs_list PySem.F.slot_list_append PySem.F.type_list_append mt_append (pv 2) (pa_cons pe_str pa_nil)))
            (pss_cons (ps_for PassesOwn.never rfl (pi_range3 rfl m_range (pa_cons (pe_op op_sub (pe_callB call_len_seq rfl m_len PySem.boot_len (pa_cons (pe_ix ix_tup (pv 3) pe_int (fun _ _ => rfl)) pa_nil)) pe_int) (pa_cons (pe_un un_neg pe_int) (pa_cons (pe_un un_neg pe_int) pa_nil)))) (pg_name (i := 4) sc.nd rfl (Or.inl rfl))
              (pss_cons (ps_expr (pe_bm PySem.F.plainAttrs_list PySem.F.slot_list_append PySem.F.type_list_append mt_append (pv 2) (pa_cons (pe_ix ix_list (pe_ix ix_tup (pv 3) pe_int (fun _ _ => rfl)) (pv 4) (fun _ _ => rfl)) pa_nil)))
              (pss_one (ps_if (pt_cmpR op_gt (pv 4) pe_int (nomark _))
                (pss_one (ps_expr (pe_bm PySem.F.plainAttrs_list PySem.F.slot_list_append PySem.F.type_list_append mt_append (pv 2) (pa_cons pe_str pa_nil))))
                pss_nil))))
            (pss_one (ps_expr (pe_bm PySem.F.plainAttrs_list PySem.F.slot_list_append PySem.F.type_list_append mt_append (pv 2) (pa_cons (pe_op op_add_str (pe_ix ix_tup (pv 3) pe_int (fun _ _ => rfl)) pe_str) pa_nil))))))))))))))
    (pss_one (ps_ret (pv 1))))))), ?_⟩
  refine ⟨_, rfl, (by show 1 ≤ sizeLine; decide), fun D hD => ?_⟩
  have hfl := Th.flat_le t
  have hhl := Th.heft_le t
  refine ⟨fun m σ H' => ∃ (line : Str) (todo : List T) (vs : List V) (ov kv : Option V), σ = [some v, some (.str line), some (.ref D), ov, kv] ∧ Same H H' ∧ H' D = some (.lst vs) ∧ Reps H todo vs ∧ line ++ Th.cat todo.reverse = Th.flat t ∧ m = Th.hefts todo ∧ m ≤ Th.heft t,
    ⟨Th.hefts [t], "", [t], [v], none, none, rfl, same_new hD _, upd_same, Reps.cons R Reps.nil, ?_, rfl, by rw [Th.hefts, Th.hefts]; omega⟩, ?_⟩
  · rw [Th.nil_app, List.reverse_singleton, Th.cat, Th.cat, Th.app_nil]
  rintro m σ H1 ⟨line, todo, vs, ov, kv, rfl, s1, hD1', hrep, hcat, rfl, hm⟩
  refine ⟨_, rfl, (by show 0 ≤ sizeLine; decide), fun e he => ?_⟩
  have s2 : Same H (upd H1 e (.lst [])) := s1.trans (same_new he _)
  have hD1 := same_new he (.lst []) _ _ hD1'
  refine ⟨D, e, vs, rfl, rfl, SqL.of hD1, SqL.of upd_same, _, rfl, ?_⟩
  generalize upd H1 e (.lst []) = H2 at s2 hD1
  show if (!vs.isEmpty) = true then _ else _
  by_cases hx : todo = []
  · subst hx
    rw [Reps] at hrep
    subst hrep
    refine iteF ?_
    have e : line = Th.flat t := by rw [List.reverse_nil, Th.cat, Th.app_nil] at hcat; exact hcat
    refine ⟨_, rfl, ?_⟩
    rw [e]
    exact q _ s2
  obtain ⟨rest, one, rfl⟩ := Fm.split_last todo hx
  obtain ⟨us, u, rfl, hus, hu1⟩ := hrep.last
  rw [if_pos (by simp)]
  have hhr : Th.hefts (rest ++ [one]) = Th.hefts rest + Th.heft one := by rw [Th.hefts_app, Th.hefts, Th.hefts]; omega
  have hcat' : line ++ (Th.flat one ++ Th.cat rest.reverse) = Th.flat t := by
    rw [List.reverse_append, List.reverse_singleton, List.singleton_append, Th.cat] at hcat
    exact hcat
  have hlen : line.length + ((Th.flat one).length + (Th.cat rest.reverse).length) = (Th.flat t).length := by rw [← Th.app_len, ← Th.app_len, hcat']
  have hrl : us.length ≤ 1000000 := by
    have h1 := Th.len_hefts rest
    have h2 := hus.len
    omega
  -- what is wanted behind a turn
  refine ⟨fun σ' H' => ∃ (line : Str) (todo : List T) (vs : List V) (ov kv : Option V), σ' = [some v, some (.str line), some (.ref D), ov, kv] ∧ Same H H' ∧ H' D = some (.lst vs) ∧ Reps H todo vs ∧ line ++ Th.cat todo.reverse = Th.flat t ∧ Th.hefts todo < Th.hefts (rest ++ [one]), ?_, ?_⟩
  · rintro σ' H' ⟨line', todo', vs', ov', kv', rfl, a1, a2, a3, a4, a5⟩
    exact ⟨Th.hefts todo', a5, line', todo', vs', ov', kv', rfl, a1, a2, a3, a4, rfl, by omega⟩
  refine ⟨_, rfl, .inl ⟨rfl, _, SqL.of hD1⟩, D, _, u, rfl, rfl, hD1, last_at us u, ?_⟩
  rw [List.dropLast_concat]
  have s3 : Same H (upd H2 D (.lst us)) := same_upd s2 hD _
  have hD3 : (upd H2 D (.lst us)) D = some (.lst us) := upd_same
  generalize upd H2 D (.lst us) = H3 at s3 hD3
  cases one with
  | word x =>
    rw [Rep] at hu1
    subst hu1
    rw [Th.flat] at hcat' hlen
    refine ⟨_, rfl, _, _, _, _, rfl, .str x, kit_str_str K, _, rfl, ?_⟩
    refine iteT ?_
    refine ⟨_, rfl, _, rfl, _, _, rfl, rfl, le_size (by omega), ?_⟩
    exact ⟨line ++ x, rest, us, _, _, rfl, s3, hD3, hus, by rw [Th.app_assoc]; exact hcat', by rw [hhr, Th.heft]; omega⟩
  | tag w' t' =>
    rw [Rep] at hu1
    obtain ⟨a, x, rfl, h1, h2⟩ := hu1
    have h1' := s3 _ _ h1
    rw [Th.flat] at hcat' hlen
    have e2 : (": " : Str).length = 2 := by decide
    rw [Th.app_len, Th.app_len] at hlen
    refine ⟨_, rfl, _, _, _, _, rfl, .tup h1', kit_tup_str K, _, rfl, ?_⟩
    refine iteF ?_
    refine ⟨_, rfl, a, _, _, _, rfl, rfl, SqT.of h1', rfl, rfl, _, rfl, ?_⟩
    refine iteT ?_
    refine ⟨_, rfl, .inl ⟨rfl, _, SqL.of hD3⟩, _, rfl, a, _, _, _, rfl, rfl, SqT.of h1', rfl, D, _, _, rfl, rfl, hD3, lt_size (by omega), ?_⟩
    have s4 : Same H (upd H3 D (.lst (us ++ [x]))) := same_upd s3 hD _
    have hD4 : (upd H3 D (.lst (us ++ [x]))) D = some (.lst (us ++ [x])) := upd_same
    generalize upd H3 D (.lst (us ++ [x])) = H4 at s4 hD4
    have h1'' := s4 _ _ h1
    refine ⟨_, rfl, .inl ⟨rfl, _, SqL.of hD4⟩, _, rfl, a, _, _, _, rfl, rfl, SqT.of h1'', rfl, _, _, rfl, rfl, le_size (by omega), D, _, _, rfl, rfl, hD4, lt_size (by simp; omega), ?_⟩
    refine ⟨line, rest ++ [t'] ++ [.word (w' ++ ": ")], us ++ [x] ++ [.str (w' ++ ": ")], _, _, rfl, same_upd s4 hD _, upd_same, Reps.snoc (Reps.snoc hus h2) (by rw [Rep]), ?_, ?_⟩
    · rw [List.reverse_append, List.reverse_append, List.reverse_singleton, List.reverse_singleton, List.singleton_append, List.singleton_append, Th.cat, Th.cat, Th.flat, ← hcat', Th.app_assoc (w' ++ ": ")]
    · rw [hhr]
      simp only [Th.hefts_app, Th.hefts, Th.heft]
      omega
  | run ws =>
    rw [Rep] at hu1
    obtain ⟨a, l, rfl, h1, h2⟩ := hu1
    have h1' := s3 _ _ h1
    have h2' := s3 _ _ h2
    rw [Th.flat] at hcat' hlen
    have e1 : ("[" : Str).length = 1 := by decide
    have e2 : ("]" : Str).length = 1 := by decide
    rw [Th.app_len, Th.app_len] at hlen
    refine ⟨_, rfl, _, _, _, _, rfl, .tup h1', kit_tup_str K, _, rfl, ?_⟩
    refine iteF ?_
    refine ⟨_, rfl, a, _, _, _, rfl, rfl, SqT.of h1', rfl, rfl, _, rfl, ?_⟩
    refine iteF ?_
    refine ⟨_, rfl, a, _, _, _, rfl, rfl, SqT.of h1', rfl, rfl, _, rfl, ?_⟩
    refine iteT ?_
    refine ⟨_, rfl, _, _, rfl, rfl, le_size (by omega), rfl, _, rfl, a, _, _, _, rfl, rfl, SqT.of h1', rfl, _, l, ws, rfl, rfl, SqL.of h2', ?_, _, _, rfl, rfl, ?_, _, _, rfl, rfl, ?_, ?_⟩
    · rw [map_len]
      have e3 : (" " : Str).length = 1 := by decide
      rw [e3]
      cases ws with
      | nil => simp
      | cons y ws =>
        have := Th.join_len_eq " " (y :: ws) (by simp)
        rw [e3] at this
        omega
    · rw [Th.app_len]
      exact le_size (by omega)
    · rw [Th.app_len, Th.app_len]
      exact le_size (by omega)
    · refine ⟨line ++ "[" ++ Str.join " " ws ++ "]", rest, us, _, _, rfl, s3, hD3, hus, ?_, by rw [hhr, Th.heft]; omega⟩
      rw [← hcat']
      simp only [Th.app_assoc]
  | bundle hd' ps =>
    rw [Rep] at hu1
    obtain ⟨a, l, ws, rfl, h1, h2, h3⟩ := hu1
    have h1' := s3 _ _ h1
    have hpl := h3.len
    rw [Th.flat] at hcat' hlen
    have e1 : ("(" : Str).length = 1 := by decide
    have e2 : (")" : Str).length = 1 := by decide
    rw [Th.app_len, Th.app_len, Th.app_len] at hlen
    have hps : ps.length ≤ 1000000 := by
      rw [hhr, Th.heft] at hm
      omega
    refine ⟨_, rfl, _, _, _, _, rfl, .tup h1', kit_tup_str K, _, rfl, ?_⟩
    refine iteF ?_
    refine ⟨_, rfl, a, _, _, _, rfl, rfl, SqT.of h1', rfl, rfl, _, rfl, ?_⟩
    refine iteF ?_
    refine ⟨_, rfl, a, _, _, _, rfl, rfl, SqT.of h1', rfl, rfl, _, rfl, ?_⟩
    refine iteF ?_
    refine ⟨_, rfl, .inl ⟨rfl, _, SqL.of hD3⟩, D, _, _, rfl, rfl, hD3, lt_size (by omega), ?_⟩
    have s4 : Same H (upd H3 D (.lst (us ++ [.str ")"]))) := same_upd s3 hD _
    have hD4 : (upd H3 D (.lst (us ++ [.str ")"]))) D = some (.lst (us ++ [.str ")"])) := upd_same
    generalize upd H3 D (.lst (us ++ [.str ")"])) = H4 at s4 hD4
    refine ⟨_, rfl, a, _, _, _, rfl, rfl, SqT.of (s4 _ _ h1), rfl, l, _, rfl, .inl (SqL.of (s4 _ _ h2)), _, _, rfl, rfl, _, rfl, _, rfl, (((ws.length : Nat) : Int) - 1), -1, rfl, ⟨by omega, by omega, by omega, by omega⟩, ?_⟩
    have en : ((((ws.length : Nat) : Int) - 1) - (-1)).toNat = ws.length := by omega
    rw [en]
    refine for_rangeD (fun i σ H' => ∃ kv, σ = [some v, some (.str line), some (.ref D), some (.ref a), kv] ∧ Same H H' ∧ ∃ pvs, H' D = some (.lst (us ++ [.str ")"] ++ pvs)) ∧ Reps H (Th.pushed ps i) pvs) ⟨_, rfl, s4, [], by rw [List.append_nil]; exact hD4, Reps.nil⟩ ?_ ?_
    · rintro i σ H5 hi ⟨kv5, rfl, s5, pvs, hD5, hpv⟩
      have hj : ps.length - 1 - i < ws.length := by omega
      have hxj : ws[ps.length - 1 - i]? = some ws[ps.length - 1 - i] := List.getElem?_eq_getElem hj
      obtain ⟨tj, htj, hrj⟩ := h3.get hxj
      generalize ws[ps.length - 1 - i] = xj at hxj hrj
      have hgd : ps.getD (ps.length - 1 - i) (.word "") = tj := by rw [List.getD_eq_getElem?_getD, htj]; rfl
      have ek : (((ws.length : Nat) : Int) - 1 - (i : Int)) = ((ps.length - 1 - i : Nat) : Int) := by omega
      have hat : atI ws (((ws.length : Nat) : Int) - 1 - (i : Int)) = some xj := by rw [ek]; exact atI_nat hxj
      have hpvl : pvs.length ≤ 2 * i := by
        rw [← hpv.len]
        exact Th.pushed_len ps i
      have hl5 : (us ++ [V.str ")"] ++ pvs).length ≤ 4000000 := by
        rw [List.length_append, List.length_append, List.length_singleton]
        omega
      refine ⟨_, rfl, .inl ⟨rfl, _, SqL.of hD5⟩, _, rfl, a, _, _, _, rfl, rfl, SqT.of (s5 _ _ h1), rfl, _, rfl, l, _, _, xj, rfl, rfl, SqL.of (s5 _ _ h2), hat, D, _, _, rfl, rfl, hD5, lt_size (by omega), ?_⟩
      have s6 : Same H (upd H5 D (.lst (us ++ [.str ")"] ++ pvs ++ [xj]))) := same_upd s5 hD _
      have hD6 : (upd H5 D (.lst (us ++ [.str ")"] ++ pvs ++ [xj]))) D = some (.lst (us ++ [.str ")"] ++ pvs ++ [xj])) := upd_same
      generalize upd H5 D (.lst (us ++ [.str ")"] ++ pvs ++ [xj])) = H6 at s6 hD6
      refine ⟨_, rfl, _, _, rfl, rfl, _, rfl, ?_⟩
      refine ite2 (fun c => ?_) (fun c => ?_)
      · have c' : (0 : Int) < (((ws.length : Nat) : Int) - 1 - (i : Int)) := of_decide_eq_true c
        refine ⟨_, rfl, .inl ⟨rfl, _, SqL.of hD6⟩, D, _, _, rfl, rfl, hD6, lt_size (by rw [List.length_append, List.length_singleton]; omega), ?_⟩
        refine ⟨_, rfl, same_upd s6 hD _, pvs ++ [xj, .str ", "], by rw [upd_same]; simp, ?_⟩
        rw [Th.pushed, if_pos (by omega), hgd]
        exact Reps.app (Reps.cons hrj (Reps.cons (by rw [Rep]) Reps.nil)) hpv
      · have c' : ¬ (0 : Int) < (((ws.length : Nat) : Int) - 1 - (i : Int)) := fun z => c (decide_eq_true z)
        refine ⟨_, rfl, s6, pvs ++ [xj], by rw [hD6]; simp, ?_⟩
        rw [Th.pushed, if_neg (by omega), hgd]
        exact Reps.snoc hpv hrj
    · rintro σ H5 ⟨kv5, rfl, s5, pvs, hD5, hpv⟩
      rw [← hpl] at hpv
      have hpvl : pvs.length ≤ 2 * ps.length := by
        rw [← hpv.len]
        exact Th.pushed_len ps _
      have hl5 : (us ++ [V.str ")"] ++ pvs).length ≤ 4000000 := by
        rw [List.length_append, List.length_append, List.length_singleton]
        omega
      refine ⟨_, rfl, .inl ⟨rfl, _, SqL.of hD5⟩, _, rfl, a, _, _, _, rfl, rfl, SqT.of (s5 _ _ h1), rfl, _, _, rfl, rfl, le_size (by omega), D, _, _, rfl, rfl, hD5, lt_size (by omega), ?_⟩
      refine ⟨line, rest ++ [.word ")"] ++ Th.pushed ps ps.length ++ [.word (hd' ++ "(")], us ++ [.str ")"] ++ pvs ++ [.str (hd' ++ "(")], _, _, rfl, same_upd s5 hD _, upd_same, Reps.snoc (Reps.app hpv (Reps.snoc hus (by rw [Rep]))) (by rw [Rep]), ?_, ?_⟩
      · rw [List.reverse_append, List.reverse_append, List.reverse_append, Th.pushed_all, List.reverse_singleton, List.reverse_singleton, List.singleton_append, List.singleton_append, Th.cat, Th.cat_app, Th.cat_between, Th.cat, Th.flat, Th.flat, ← hcat']
        simp only [Th.app_assoc]
      · have hb := Th.hefts_between ps
        rw [← Th.pushed_all ps, Th.hefts_rev] at hb
        rw [hhr]
        simp only [Th.hefts_app, Th.hefts, Th.heft]
        omega
end

/-! ### _law_unbroken, _law_word_rows, _law_longest -/
section
open Rp
open Th (T)
variable {P : Program} {w : World} {K : PySem.W.Frag} {mg : Str → Option Value} {base : Heap}
def solid : T → Bool
  | .word _ => true
  | .run ws => ws.isEmpty
  | .bundle _ ps => ps.isEmpty
  | .tag _ _ => false
def isTag : T → Bool
  | .tag _ _ => true
  | _ => false
def unb (t : T) (wide W cell : Int) : Bool := solid t || decide (cell % 16 = 1) || (decide (wide ≤ W) && !decide (cell % 4 = 3))
def spUnb : Sp := fun vs H Q _ => ∃ (t : T) (v : V) (wide W cell : Int), vs = [v, .int wide, .int W, .int cell] ∧ Rep H t v ∧ isTag t = false ∧ Q (.bl (unb t wide W cell)) H
theorem dec_int (a b : Int) : decide (V.int a = V.int b) = decide (a = b) := by
  by_cases h : a = b
  · rw [h, decide_eq_true rfl, decide_eq_true rfl]
  · rw [decide_eq_false h, decide_eq_false (fun z => h (V.int.inj z))]
theorem ok_unb {n : Nat} {f : Addr} {fd : FuncData} (TU : At K mg "_law_unbroken" s__law_unbroken ["_law_one", "_law_wide", "_law_width", "_law_cell"] f fd) (B : Bn mg) : FnOk P w K mg base CX0 (n + 1) f fd ["_law_one", "_law_wide", "_law_width", "_law_cell"] spUnb := by
  have sc := sc__law_unbroken
  refine TU.F.ok sc (fun vs H Q E h => ?_) (fun cdv A outer s H vs Q E hr h => ?_)
  · obtain ⟨t, v, wide, W, cell, rfl, _⟩ := h; rfl
  obtain ⟨t, v, wide, W, cell, rfl, R, ht, q⟩ := h
  have m_isinstance := B.isinstance
  have m_str := B.str
  have m_len := B.len
  -- the last two statements
  have rest : ∃ tr, PSs (cxOf CX0 P w K mg base ["_law_one", "_law_wide", "_law_width", "_law_cell"] "_law_unbroken" (defScope s__law_unbroken) f cdv A outer s H E).nox (List.drop 1 (defBody s__law_unbroken)) tr ∧ (solid t = false → tr { nx := fun _ H' => Q .non H', rt := Q } [some v, some (.int wide), some (.int W), some (.int cell)] H) := by
    refine ⟨_, ((pss_cons (ps_if (pt_cmpR op_eq (pe_op op_mod (pv 3) pe_int) pe_int (nomark _))
      (pss_one (ps_ret pe_bl))
      pss_nil)
    (pss_one (ps_ret (pe_and (pe_cmpR op_le (pv 1) (pv 2) (nomark _)) (pe_one (pe_cmpR op_ne (pe_op op_mod (pv 3) pe_int) pe_int (nomark _)))))))), fun hs => ?_⟩
    refine ⟨_, rfl, _, _, rfl, rfl, (by show (0 : Int) < 16; decide), rfl, _, rfl, ?_⟩
    refine ite2 (fun c => ?_) (fun c => ?_)
    · have c' : cell % 16 = 1 := V.int.inj (of_decide_eq_true c)
      have e : unb t wide W cell = true := by rw [unb, hs, decide_eq_true c']; rfl
      rw [e] at q
      exact q
    · have c' : ¬ cell % 16 = 1 := fun z => c (decide_eq_true (congrArg V.int z))
      have e : unb t wide W cell = (decide (wide ≤ W) && !decide (cell % 4 = 3)) := by rw [unb, hs, decide_eq_false c']; rfl
      refine ⟨_, rfl, _, rfl, _, _, rfl, rfl, _, rfl, ?_⟩
      refine ite2 (fun c2 => ?_) (fun c2 => ?_)
      · have c2' : wide ≤ W := of_decide_eq_true c2
        refine ⟨_, rfl, _, _, rfl, rfl, (by show (0 : Int) < 4; decide), rfl, ?_⟩
        rw [e, decide_eq_true c2', Bool.true_and, ← dec_int] at q
        exact q
      · have c2' : ¬ wide ≤ W := fun z => c2 (decide_eq_true z)
        rw [e, decide_eq_false c2', Bool.false_and] at q
        exact q
  obtain ⟨tr, hr1, hr2⟩ := rest
  refine ⟨_, ((pss_cons (ps_if (PW.pt (pw_or (pt_val (pe_callB call_isinst rfl m_isinstance boot_isinstance' (pa_cons (pv 0) (pa_cons (pe_bltn (v := .ty "str") rfl m_str boot_str' rfl) pa_nil)))) (pw_or1 (pt_cmpR op_eq (pe_callB call_len_seq rfl m_len PySem.boot_len (pa_cons (pe_ix ix_tup (pv 0) (pe_un un_neg pe_int) (fun _ _ => rfl)) pa_nil)) pe_int (nomark _)))))
      (pss_one (ps_ret pe_bl))
      pss_nil)
    hr1)), ?_⟩
  have yes : solid t = true → Q (.bl true) H := fun e => by
    have e' : unb t wide W cell = true := by rw [unb, e]; rfl
    rw [e'] at q
    exact q
  cases t with
  | word x =>
    rw [Rep] at R
    subst R
    refine ⟨_, rfl, _, _, _, _, rfl, .str x, kit_str_str K, _, rfl, ?_⟩
    refine iteT ?_
    refine iteT ?_
    exact yes rfl
  | tag w' t => cases ht
  | run ws =>
    rw [Rep] at R
    obtain ⟨a, l, rfl, h1, h2⟩ := R
    refine ⟨_, rfl, _, _, _, _, rfl, .tup h1, kit_tup_str K, _, rfl, ?_⟩
    refine iteF ?_
    refine ⟨_, rfl, _, rfl, a, _, _, _, rfl, rfl, SqT.of h1, rfl, l, _, rfl, .inl (SqL.of h2), rfl, _, rfl, ?_⟩
    refine ite2 (fun c => ?_) (fun c => ?_)
    · have c' : (((ws.map V.str).length : Nat) : Int) = 0 := V.int.inj (of_decide_eq_true c)
      rw [List.length_map] at c'
      exact yes (by rw [solid, List.isEmpty_iff]; exact List.length_eq_zero_iff.mp (by omega))
    · have c' : ¬ (((ws.map V.str).length : Nat) : Int) = 0 := fun z => c (decide_eq_true (congrArg V.int z))
      rw [List.length_map] at c'
      refine hr2 ?_
      rw [solid, List.isEmpty_eq_false_iff]
      intro e
      rw [e] at c'
      exact c' rfl
  | bundle hd' ps =>
    rw [Rep] at R
    obtain ⟨a, l, us, rfl, h1, h2, h3⟩ := R
    have hl := h3.len
    refine ⟨_, rfl, _, _, _, _, rfl, .tup h1, kit_tup_str K, _, rfl, ?_⟩
    refine iteF ?_
    refine ⟨_, rfl, _, rfl, a, _, _, _, rfl, rfl, SqT.of h1, rfl, l, _, rfl, .inl (SqL.of h2), rfl, _, rfl, ?_⟩
    refine ite2 (fun c => ?_) (fun c => ?_)
    · have c' : ((us.length : Nat) : Int) = 0 := V.int.inj (of_decide_eq_true c)
      exact yes (by rw [solid, List.isEmpty_iff]; exact List.length_eq_zero_iff.mp (by omega))
    · have c' : ¬ ((us.length : Nat) : Int) = 0 := fun z => c (decide_eq_true (congrArg V.int z))
      refine hr2 ?_
      rw [solid, List.isEmpty_eq_false_iff]
      intro e
      rw [e] at hl
      exact c' (by rw [← hl]; rfl)
theorem join_snoc : ∀ (g : List Str) (x : Str), g ≠ [] → Str.join " " (g ++ [x]) = Str.join " " g ++ " " ++ x
  | [], _, h => absurd rfl h
  | [y], x, _ => rfl
  | y :: z :: g, x, _ => by
    show y ++ " " ++ Str.join " " (z :: g ++ [x]) = y ++ " " ++ Str.join " " (z :: g) ++ " " ++ x
    rw [join_snoc (z :: g) x (by simp)]
    simp only [Th.app_assoc]
def spWordRows (K : PySem.W.Frag) : Sp := fun vs H Q _ => ∃ (a : Addr) (ws : List Str) (room cell : Int), vs = [.ref a, .int room, .int cell] ∧ SqL K H a (ws.map V.str) ∧ ws ≠ [] ∧ ws.length ≤ 1000000 ∧ (Str.join " " ws).length ≤ 1000000 ∧
  ∀ (r : Addr) (H' : Hp) (gs : List (List Str)), H r = none → Same H H' → H' r = some (.lst ((gs.map (Str.join " ")).map V.str)) → gs.flatten = ws → (∀ g ∈ gs, g ≠ []) → (cell = 0 → gs = Fm.filledM Ly.sz ws room) → (cell = 3 → gs = ws.map fun x => [x]) → gs.length ≤ ws.length → Q (.ref r) H'
theorem take_snoc' {α : Type} {xs : List α} {i : Nat} {y : α} (h : xs[i]? = some y) : xs.take (i + 1) = xs.take i ++ [y] := by
  rw [List.take_add_one, h]
  rfl
theorem ok_wordrows {n : Nat} {f : Addr} {fd : FuncData} (TU : At K mg "_law_word_rows" s__law_word_rows ["_law_words", "_law_room", "_law_cell"] f fd) (B : Bn mg) : FnOk P w K mg base CX0 (n + 1) f fd ["_law_words", "_law_room", "_law_cell"] (spWordRows K) := by
  have sc := sc__law_word_rows
  refine TU.F.ok sc (fun vs H Q E h => ?_) (fun cdv A outer s H vs Q E hr h => ?_)
  · obtain ⟨a, ws, room, cell, rfl, _⟩ := h; rfl
  obtain ⟨a, ws, room, cell, rfl, hS, hne, hwl, hwj, q⟩ := h
  have m_len := B.len
  have m_range := B.range
  obtain ⟨w0, ws', rfl⟩ : ∃ w0 ws', ws = w0 :: ws' := by
    cases ws with
    | nil => exact absurd rfl hne
    | cons x r => exact ⟨x, r, rfl⟩
  refine ⟨_, ((pss_cons (ps_set (i := 3) sc.nd rfl (Or.inl rfl) (pe_lst pa_nil))
    (pss_cons (ps_set (i := 4) sc.nd rfl (Or.inl rfl) (pe_ix ix_list (pv 0) pe_int (fun _ _ => rfl)))
    (pss_cons (ps_for PassesOwn.never rfl (pi_range2 rfl m_range (pa_cons pe_int (pa_cons (pe_callB call_len_seq rfl m_len PySem.boot_len (pa_cons (pv 0) pa_nil)) pa_nil))) (pg_name (i := 5) sc.nd rfl (Or.inl rfl))
      (pss_cons (ps_set (i := 6) sc.nd rfl (Or.inl rfl) (pe_and (pe_cmpR op_eq (pe_op op_mod (pv 2) pe_int) pe_int (nomark _)) (pe_one (pe_cmpR op_eq (pe_op op_mod (pe_op op_fdiv (pv 2) pe_int) (pe_op op_add (pv 5) pe_int)) pe_int (nomark _)))))
      (pss_one (ps_if (PW.pt (pw_or (pt_val (pv 6)) (pw_or1 (pt_cmpR op_gt (pe_op op_add (pe_op op_add (pe_callB call_len_str rfl m_len PySem.boot_len (pa_cons (pv 4) pa_nil)) pe_int) (pe_callB call_len_str rfl m_len PySem.boot_len (pa_cons (pe_ix ix_list (pv 0) (pv 5) (fun _ _ => rfl)) pa_nil))) (pv 1) (nomark _)))))
        (pss_cons (ps_expr (pe_bm PySem.F.plainAttrs_list PySem.F.slot_list_append PySem.F.type_list_append mt_append (pv 3) (pa_cons (pv 4) pa_nil)))
        (pss_one (ps_set (i := 4) sc.nd rfl (Or.inl rfl) (pe_ix ix_list (pv 0) (pv 5) (fun _ _ => rfl)))))
        (pss_one (ps_set (i := 4) sc.nd rfl (Or.inl rfl) (pe_op op_add_str (pe_op op_add_str (pv 4) pe_str) (pe_ix ix_list (pv 0) (pv 5) (fun _ _ => rfl)))))))))
    (pss_cons (ps_expr (pe_bm PySem.F.plainAttrs_list PySem.F.slot_list_append PySem.F.type_list_append mt_append (pv 3) (pa_cons (pv 4) pa_nil)))
    (pss_one (ps_ret (pv 3)))))))), ?_⟩
  refine ⟨(by show 0 ≤ sizeLine; decide), fun r hr0 => ?_⟩
  have s0 : Same H (upd H r (.lst [])) := same_new hr0 _
  have e0 : (upd H r (.lst [])) r = some (.lst []) := upd_same
  generalize upd H r (.lst []) = H0 at s0 e0
  have hS0 := s0.seq hS
  refine ⟨_, rfl, a, _, _, .str w0, rfl, rfl, hS0, (show atI _ ((0 : Nat) : Int) = _ from atI_nat rfl), ?_⟩
  refine ⟨_, rfl, a, _, rfl, .inl hS0, 1, (((w0 :: ws').map V.str).length : Int), rfl, ⟨by omega, by omega, by omega, by rw [List.length_map]; omega⟩, ?_⟩
  have el : ((((w0 :: ws').map V.str).length : Int) - 1).toNat = ws'.length := by rw [List.length_map, List.length_cons]; omega
  rw [el]
  have hjw : ∀ g : List Str, (∃ p s, p ++ g ++ s = w0 :: ws') → Fm.jl Ly.sz g ≤ 1000000 := by
    rintro g ⟨p, s, e⟩
    have h1 := jl_take g s
    have h2 := jl_drop p (g ++ s)
    rw [← List.append_assoc, e] at h2
    have h3 := join_jl (w0 :: ws')
    omega
  refine for_range (fun i σ H' => ∃ (done : List (List Str)) (cur : List Str) (kv ev : Option V), σ = [some (.ref a), some (.int room), some (.int cell), some (.ref r), some (.str (Str.join " " cur)), kv, ev] ∧ Same H H' ∧ H' r = some (.lst ((done.map (Str.join " ")).map V.str)) ∧ cur ≠ [] ∧
      (done ++ [cur]).flatten = (w0 :: ws').take (i + 1) ∧ (∀ g ∈ done, g ≠ []) ∧ (cell = 0 → Fm.run Ly.sz room ((w0 :: ws').take (i + 1)) = (done ++ [cur], (Fm.jl Ly.sz cur : Int))) ∧ (cell = 3 → done ++ [cur] = ((w0 :: ws').take (i + 1)).map fun x => [x]) ∧ done.length ≤ i)
    ⟨[], [w0], none, none, rfl, s0, e0, by simp, by simp, by simp, fun _ => ?_, fun _ => by simp, Nat.le_refl _⟩ ?_ ?_
  · show Fm.run Ly.sz room [w0] = _
    unfold Fm.run
    rw [List.foldl_cons, List.foldl_nil, Fm.turn, if_neg (fun z => z.1 rfl)]
    rfl
  · rintro i σ H1 hi ⟨done, cur, kv, ev, rfl, s1, hr1, hcur, hfl, hdn, hc0, hc3, hdl⟩
    have hS1 := s1.seq hS
    have hlt : i + 1 < (w0 :: ws').length := by rw [List.length_cons]; omega
    have hy : (w0 :: ws')[i + 1]? = some ((w0 :: ws')[i + 1]) := List.getElem?_eq_getElem hlt
    generalize (w0 :: ws')[i + 1] = y at hy
    have ht := take_snoc' hy
    have hat : atI ((w0 :: ws').map V.str) (1 + (i : Int)) = some (.str y) := by
      rw [show (1 + (i : Int)) = ((i + 1 : Nat) : Int) by omega]
      exact atI_nat (by rw [List.getElem?_map, hy]; rfl)
    have hsplit : ∃ s, (done ++ [cur]).flatten ++ [y] ++ s = w0 :: ws' := ⟨(w0 :: ws').drop (i + 1 + 1), by rw [hfl, ← ht, List.take_append_drop]⟩
    obtain ⟨suf, hsuf⟩ := hsplit
    rw [List.flatten_append, List.flatten_singleton] at hsuf
    have hcl : Fm.jl Ly.sz (cur ++ [y]) ≤ 1000000 := hjw _ ⟨done.flatten, suf, by rw [← List.append_assoc]; exact hsuf⟩
    have hcl' := hcl
    rw [Fm.jl_snoc Ly.sz cur y hcur] at hcl'
    have hyl : y.length ≤ 1000000 := by have : Ly.sz y = y.length := rfl; omega
    have hjc := join_jl cur
    -- a row ends, or the word goes on
    have brk : ∀ ev' : Option V, (cell = 0 → room < (Fm.jl Ly.sz cur : Int) + 1 + (y.length : Int)) →
        ∃ (done' : List (List Str)) (cur' : List Str) (kv ev : Option V), [some (V.ref a), some (.int room), some (.int cell), some (.ref r), some (.str y), some (.int (1 + (i : Int))), ev'] = [some (.ref a), some (.int room), some (.int cell), some (.ref r), some (.str (Str.join " " cur')), kv, ev] ∧
          Same H (upd H1 r (.lst ((done.map (Str.join " ")).map V.str ++ [.str (Str.join " " cur)]))) ∧ (upd H1 r (.lst ((done.map (Str.join " ")).map V.str ++ [.str (Str.join " " cur)]))) r = some (.lst ((done'.map (Str.join " ")).map V.str)) ∧ cur' ≠ [] ∧
          (done' ++ [cur']).flatten = (w0 :: ws').take (i + 1 + 1) ∧ (∀ g ∈ done', g ≠ []) ∧ (cell = 0 → Fm.run Ly.sz room ((w0 :: ws').take (i + 1 + 1)) = (done' ++ [cur'], (Fm.jl Ly.sz cur' : Int))) ∧ (cell = 3 → done' ++ [cur'] = ((w0 :: ws').take (i + 1 + 1)).map fun x => [x]) ∧ done'.length ≤ i + 1 := by
      intro ev' hb
      refine ⟨done ++ [cur], [y], _, _, rfl, same_upd s1 hr0 _, by rw [upd_same]; simp, by simp, ?_, ?_, ?_, ?_, by simp; omega⟩
      · rw [List.flatten_append, hfl, ht]; simp
      · intro g hg
        rcases List.mem_append.mp hg with h | h
        · exact hdn g h
        · have e : g = cur := by simpa using h
          rw [e]; exact hcur
      · intro z
        rw [ht, Fm.run_snoc, hc0 z, Fm.turn, if_neg (fun c => by have := hb z; have := c.2; have : Ly.sz y = y.length := rfl; omega)]
        rfl
      · intro z
        rw [ht, hc3 z, List.map_append]
        rfl
    have app : ∀ ev' : Option V, cell ≠ 3 → (cell = 0 → (Fm.jl Ly.sz cur : Int) + 1 + (y.length : Int) ≤ room) →
        ∃ (done' : List (List Str)) (cur' : List Str) (kv ev : Option V), [some (V.ref a), some (.int room), some (.int cell), some (.ref r), some (.str (Str.join " " cur ++ " " ++ y)), some (.int (1 + (i : Int))), ev'] = [some (.ref a), some (.int room), some (.int cell), some (.ref r), some (.str (Str.join " " cur')), kv, ev] ∧
          Same H H1 ∧ H1 r = some (.lst ((done'.map (Str.join " ")).map V.str)) ∧ cur' ≠ [] ∧
          (done' ++ [cur']).flatten = (w0 :: ws').take (i + 1 + 1) ∧ (∀ g ∈ done', g ≠ []) ∧ (cell = 0 → Fm.run Ly.sz room ((w0 :: ws').take (i + 1 + 1)) = (done' ++ [cur'], (Fm.jl Ly.sz cur' : Int))) ∧ (cell = 3 → done' ++ [cur'] = ((w0 :: ws').take (i + 1 + 1)).map fun x => [x]) ∧ done'.length ≤ i + 1 := by
      intro ev' h3 hb
      refine ⟨done, cur ++ [y], some (.int (1 + (i : Int))), ev', by rw [join_snoc cur y hcur], s1, hr1, by simp, ?_, hdn, ?_, fun z => absurd z h3, by omega⟩
      · rw [ht, ← hfl, List.flatten_append, List.flatten_append]; simp
      · intro z
        rw [ht, Fm.run_snoc, hc0 z, Fm.turn, if_pos ⟨by simp, by have := hb z; have : Ly.sz y = y.length := rfl; omega⟩, Fm.onLast_snoc, Fm.jl_snoc Ly.sz cur y hcur]
        congr 1
    -- the two ways of early
    refine ⟨_, rfl, _, _, rfl, rfl, (by show (0 : Int) < 4; decide), rfl, _, rfl, ?_⟩
    refine ite2 (fun ce => ?_) (fun ce => ?_)
    · have ce' : cell % 4 = 3 := V.int.inj (of_decide_eq_true ce)
      refine ⟨_, rfl, _, _, rfl, rfl, ⟨by decide, by decide⟩, _, rfl, _, _, rfl, rfl, _, _, rfl, rfl, (by show (0 : Int) < 1 + (i : Int) + 2; omega), rfl, ?_⟩
      refine ⟨_, rfl, _, rfl, ?_⟩
      refine ite2 (fun c1 => ?_) (fun c1 => ?_)
      · refine ⟨_, rfl, .inl ⟨rfl, _, SqL.of hr1⟩, _, rfl, r, _, _, rfl, rfl, hr1, lt_size (by simp; omega), ?_⟩
        refine ⟨_, rfl, _, rfl, a, _, _, .str y, rfl, rfl, (same_upd s1 hr0 _).seq hS, hat, ?_⟩
        exact brk _ (fun z => by rw [z] at ce'; omega)
      · have c1' : ¬ cell / 4 % (1 + (i : Int) + 2) = 0 := fun z => c1 (decide_eq_true (congrArg V.int z))
        have n3 : cell ≠ 3 := fun z => c1' (by rw [z]; exact Int.zero_emod _)
        refine ⟨_, rfl, _, rfl, le_size (by omega), _, _, rfl, rfl, _, rfl, _, rfl, a, _, _, .str y, rfl, rfl, hS1, hat, y, rfl, le_size (by omega), _, _, rfl, rfl, _, rfl, _, _, rfl, rfl, _, rfl, ?_⟩
        refine ite2 (fun c2 => ?_) (fun c2 => ?_)
        · refine ⟨_, rfl, .inl ⟨rfl, _, SqL.of hr1⟩, _, rfl, r, _, _, rfl, rfl, hr1, lt_size (by simp; omega), ?_⟩
          refine ⟨_, rfl, _, rfl, a, _, _, .str y, rfl, rfl, (same_upd s1 hr0 _).seq hS, hat, ?_⟩
          exact brk _ (fun z => by rw [z] at ce'; omega)
        · refine ⟨_, rfl, _, _, rfl, rfl, le_size (by show _ + 1 ≤ _; omega), _, rfl, _, rfl, a, _, _, .str y, rfl, rfl, hS1, hat, _, _, rfl, rfl, le_size (by rw [len_app]; show _ + 1 + _ ≤ _; omega), ?_⟩
          exact app _ n3 (fun z => by rw [z] at ce'; omega)
    · have ce' : ¬ cell % 4 = 3 := fun z => ce (decide_eq_true (congrArg V.int z))
      have n3 : cell ≠ 3 := fun z => ce' (by rw [z]; rfl)
      refine ⟨_, rfl, _, rfl, ?_⟩
      refine iteF ?_
      refine ⟨_, rfl, _, rfl, le_size (by omega), _, _, rfl, rfl, _, rfl, _, rfl, a, _, _, .str y, rfl, rfl, hS1, hat, y, rfl, le_size (by omega), _, _, rfl, rfl, _, rfl, _, _, rfl, rfl, _, rfl, ?_⟩
      refine ite2 (fun c2 => ?_) (fun c2 => ?_)
      · have c2' : room < ((Str.join " " cur).length : Int) + 1 + (y.length : Int) := of_decide_eq_true c2
        refine ⟨_, rfl, .inl ⟨rfl, _, SqL.of hr1⟩, _, rfl, r, _, _, rfl, rfl, hr1, lt_size (by simp; omega), ?_⟩
        refine ⟨_, rfl, _, rfl, a, _, _, .str y, rfl, rfl, (same_upd s1 hr0 _).seq hS, hat, ?_⟩
        exact brk _ (fun _ => by rw [hjc] at c2'; exact c2')
      · have c2' : ¬ room < ((Str.join " " cur).length : Int) + 1 + (y.length : Int) := fun z => c2 (decide_eq_true z)
        refine ⟨_, rfl, _, _, rfl, rfl, le_size (by show _ + 1 ≤ _; omega), _, rfl, _, rfl, a, _, _, .str y, rfl, rfl, hS1, hat, _, _, rfl, rfl, le_size (by rw [len_app]; show _ + 1 + _ ≤ _; omega), ?_⟩
        exact app _ n3 (fun _ => by rw [hjc] at c2'; omega)
  · rintro σ H1 ⟨done, cur, kv, ev, rfl, s1, hr1, hcur, hfl, hdn, hc0, hc3, hdl⟩
    refine ⟨_, rfl, .inl ⟨rfl, _, SqL.of hr1⟩, _, rfl, r, _, _, rfl, rfl, hr1, lt_size (by simp at hwl ⊢; omega), ?_⟩
    have ea : (w0 :: ws').take (ws'.length + 1) = w0 :: ws' := List.take_of_length_le (by simp)
    rw [ea] at hfl hc0 hc3
    refine ⟨_, rfl, q r _ (done ++ [cur]) hr0 (same_upd s1 hr0 _) (by rw [upd_same]; simp) hfl ?_ (fun z => ?_) hc3 (by simp; omega)⟩
    · intro g hg
      rcases List.mem_append.mp hg with h | h
      · exact hdn g h
      · have e : g = cur := by simpa using h
        rw [e]; exact hcur
    · rw [Fm.filledM, hc0 z]
end

/-! ### _law_other_rows -/
section
open Rp
open Th (T)
variable {P : Program} {w : World} {K : PySem.W.Frag} {mg : Str → Option Value} {base : Heap}
def ItemAt (H H' : Hp) (v : V) (x : Ly.It) : Prop := ∃ (p : Addr) (u : V), v = .ref p ∧ H' p = some (.tup [u, .int (x.i : Int), .str x.lead, .str x.tail]) ∧ Rep H x.t u
def ItemsAt (H H' : Hp) : List V → List Ly.It → Prop
  | [], [] => True
  | v :: vs, x :: xs => ItemAt H H' v x ∧ ItemsAt H H' vs xs
  | _, _ => False
/-- tuples stay -/
def TK (H H' : Hp) : Prop := ∀ b xs, H b = some (.tup xs) → H' b = some (.tup xs)
theorem TK.of {H H' : Hp} (s : Same H H') : TK H H' := fun b xs h => s b _ h
theorem TK.trans {H H1 H2 : Hp} (a : TK H H1) (b : TK H1 H2) : TK H H2 := fun c xs h => b c xs (a c xs h)
theorem TK.lst {H : Hp} {p : Addr} {xs : List V} (h : H p = some (.lst xs)) (o : HO) : TK H (upd H p o) := fun b ys q => by
  rw [upd_ne (fun e => by rw [e, h] at q; cases q)]
  exact q
theorem ItemsAt.mono {H H1 H2 : Hp} (k : TK H1 H2) : ∀ {vs : List V} {xs : List Ly.It}, ItemsAt H H1 vs xs → ItemsAt H H2 vs xs
  | [], [], _ => True.intro
  | _ :: _, _ :: _, ⟨⟨p, u, e, h1, h2⟩, t⟩ => ⟨⟨p, u, e, k p _ h1, h2⟩, ItemsAt.mono k t⟩
  | [], _ :: _, h => h.elim
  | _ :: _, [], h => h.elim
theorem ItemsAt.len {H H1 : Hp} : ∀ {vs : List V} {xs : List Ly.It}, ItemsAt H H1 vs xs → vs.length = xs.length
  | [], [], _ => rfl
  | _ :: _, _ :: _, h => congrArg (· + 1) (ItemsAt.len h.2)
  | [], _ :: _, h => h.elim
  | _ :: _, [], h => h.elim
theorem ItemsAt.snoc {H H1 : Hp} {v : V} {x : Ly.It} (h : ItemAt H H1 v x) : ∀ {vs : List V} {xs : List Ly.It}, ItemsAt H H1 vs xs → ItemsAt H H1 (vs ++ [v]) (xs ++ [x])
  | [], [], _ => ⟨h, True.intro⟩
  | _ :: _, _ :: _, q => ⟨q.1, ItemsAt.snoc h q.2⟩
  | [], _ :: _, q => q.elim
  | _ :: _, [], q => q.elim
theorem ItemsAt.last {H H1 : Hp} {x : Ly.It} : ∀ {vs : List V} {xs : List Ly.It}, ItemsAt H H1 vs (xs ++ [x]) → ∃ us v, vs = us ++ [v] ∧ ItemsAt H H1 us xs ∧ ItemAt H H1 v x
  | [], [], h => h.elim
  | [v], [], h => ⟨[], v, rfl, True.intro, h.1⟩
  | _ :: _ :: _, [], h => h.2.elim
  | [], _ :: _, h => h.elim
  | v :: vs, y :: xs, h => by
    obtain ⟨us, u, e, h1, h2⟩ := ItemsAt.last h.2
    exact ⟨v :: us, u, by rw [e]; rfl, ⟨h.1, h1⟩, h2⟩
def spOther (K : PySem.W.Frag) : Sp := fun vs H Q _ => ∃ (t : T) (v : V) (W : Int) (c : Addr) (cs : List Int), vs = [v, .int W, .ref c] ∧ Rep H t v ∧ SqL K H c (cs.map V.int) ∧ cs ≠ [] ∧ Th.size t ≤ 900000 ∧
  ∀ (r : Addr) (H' : Hp) (rows : List Str), H r = none → Same H H' → H' r = some (.lst (rows.map V.str)) → Ly.Any t 0 "" "" rows → (cs = [0] → rows = Ly.lay W t 0 "" "") → (cs = [3] → rows = Ly.full t 0 "" "") → rows.length ≤ Th.size t → Q (.ref r) H'
theorem rule_unb {t : T} {wide W : Int} (h : isTag t = false) : unb t wide W 0 = (solid t || decide (wide ≤ W)) := by
  rw [unb]
  have e1 : decide ((0 : Int) % 16 = 1) = false := by decide
  have e2 : decide ((0 : Int) % 4 = 3) = false := by decide
  rw [e1, e2]
  simp
theorem full_unb {t : T} {wide W : Int} : unb t wide W 3 = solid t := by
  rw [unb]
  have e1 : decide ((3 : Int) % 16 = 1) = false := by decide
  have e2 : decide ((3 : Int) % 4 = 3) = true := by decide
  rw [e1, e2]
  simp
/-- a thing that is not broken: its one row, whatever the choice -/
theorem lay_flat {W : Int} {t : T} {i : Nat} {lead tail : Str} (ht : isTag t = false) (h : (solid t || decide (((Ly.flatRow t i lead tail).length : Int) ≤ W)) = true) : Ly.lay W t i lead tail = [Ly.flatRow t i lead tail] := by
  cases t with
  | word x => rw [Ly.lay]
  | tag w t => cases ht
  | run ws =>
    rw [Ly.lay, if_pos]
    rw [Bool.or_eq_true] at h
    exact h.imp (fun z => List.isEmpty_iff.mp z) of_decide_eq_true
  | bundle h' ps =>
    rw [Ly.lay, if_pos]
    rw [Bool.or_eq_true] at h
    exact h.imp (fun z => List.isEmpty_iff.mp z) of_decide_eq_true
theorem full_flat {t : T} {i : Nat} {lead tail : Str} (ht : isTag t = false) (h : solid t = true) : Ly.full t i lead tail = [Ly.flatRow t i lead tail] := by
  cases t with
  | word x => rw [Ly.full]
  | tag w t => cases ht
  | run ws => rw [Ly.full, if_pos (List.isEmpty_iff.mp h)]
  | bundle h' ps => rw [Ly.full, if_pos (List.isEmpty_iff.mp h)]
theorem any_flat {t : T} {i : Nat} {lead tail : Str} (ht : isTag t = false) : Ly.Any t i lead tail [Ly.flatRow t i lead tail] := by
  cases t with
  | word x => exact .word
  | tag w t => cases ht
  | run ws => exact .flatR
  | bundle h' ps => exact .flatB
theorem ok_other {n : Nat} {f g h k : Addr} {fd gd hd kd : FuncData} (TO : At K mg "_law_other_rows" s__law_other_rows ["_law_thing", "_law_width", "_law_cells"] f fd) (TL : At K mg "_law_flat_line" s__law_flat_line ["_law_thing"] g gd)
    (TU : At K mg "_law_unbroken" s__law_unbroken ["_law_one", "_law_wide", "_law_width", "_law_cell"] h hd) (TW : At K mg "_law_word_rows" s__law_word_rows ["_law_words", "_law_room", "_law_cell"] k kd) (B : Bn mg) :
    FnOk P w K mg base CX0 (n + 2) f fd ["_law_thing", "_law_width", "_law_cells"] (spOther K) := by
  have sc := sc__law_other_rows
  refine TO.F.ok sc (fun vs H Q E h => ?_) (fun cdv A outer s H vs Q E hr h => ?_)
  · obtain ⟨t, v, W, c, cs, rfl, _⟩ := h; rfl
  obtain ⟨t, v, W, c, cs, rfl, R, hC, hcs, hsz, q⟩ := h
  have m_len := B.len
  have m_range := B.range
  have m_isinstance := B.isinstance
  have m_tuple := B.tuple
  have m_int := B.int
  have hu := Nat.lt_of_succ_lt (hu_of hr)
  have G__law_flat_line : FnOk P w K mg base CX0 (n + 1) g gd _ _ := ok_line TL B
  have G__law_unbroken : FnOk P w K mg base CX0 (n + 1) h hd _ _ := ok_unb TU B
  have G__law_word_rows : FnOk P w K mg base CX0 (n + 1) k kd _ _ := ok_wordrows TW B
  have m__law_flat_line := TL.m
  have k__law_flat_line := TL.F.kp
  have b__law_flat_line := TL.b
  have m__law_unbroken := TU.m
  have k__law_unbroken := TU.F.kp
  have b__law_unbroken := TU.b
  have m__law_word_rows := TW.m
  have k__law_word_rows := TW.F.kp
  have b__law_word_rows := TW.b
  have hfl := Th.flat_le t
  have hwt := Ly.wt_le t
  have hcap := Ly.cap_le t
  have e0 : ("" : Str).length = 0 := by decide
  refine ⟨_, ((pss_cons (ps_set (i := 3) sc.nd rfl (Or.inl rfl) (pe_lst pa_nil))
    (pss_cons (ps_set (i := 4) sc.nd rfl (Or.inl rfl) pe_int)
    (pss_cons (ps_set (i := 5) sc.nd rfl (Or.inl rfl) (pe_lst (pa_cons (pe_tup (pa_cons (pv 0) (pa_cons pe_int (pa_cons pe_str (pa_cons pe_str pa_nil))))) pa_nil)))
    (pss_cons (ps_while PassesOwn.never (pt_cmpR (op_neN hu) (pv 5) (pe_lst pa_nil) (nomark _))
      (pss_cons (ps_asg (pe_bm0 PySem.F.plainAttrs_list PySem.F.slot_list_pop PySem.F.type_list_pop mt_pop (pv 5)) (pg_tup rfl (pgs_cons (pg_name (i := 6) sc.nd rfl (Or.inl rfl)) (pgs_cons (pg_name (i := 7) sc.nd rfl (Or.inl rfl)) (pgs_cons (pg_name (i := 8) sc.nd rfl (Or.inl rfl)) (pgs_cons (pg_name (i := 9) sc.nd rfl (Or.inl rfl)) pgs_nil))))))
      (pss_cons (ps_set (i := 10) sc.nd rfl (Or.inl rfl) (pe_ix ix_list (pv 2) (pe_op op_mod (pv 4) (pe_callB call_len_seq rfl m_len PySem.boot_len (pa_cons (pv 2) pa_nil))) (fun _ _ => rfl)))
      (pss_cons (ps_set (i := 11) sc.nd rfl (Or.inl rfl) (pe_op op_add_str (pe_op op_blank pe_str (pv 7)) (pv 8)))
      (pss_cons (ps_set (i := 12) sc.nd rfl (Or.inl rfl) (pe_op op_add_str (pe_op op_add_str (pv 11) (pe_call G__law_flat_line hr rfl m__law_flat_line k__law_flat_line b__law_flat_line .nil pass0 (pa_cons (pv 6) pa_nil))) (pv 9)))
      (pss_cons (ps_if (PW.pt (pw_and (pt_val (pe_callB call_isinst rfl m_isinstance boot_isinstance' (pa_cons (pv 6) (pa_cons (pe_bltn (v := .ty "tuple") rfl m_tuple boot_tuple' rfl) pa_nil)))) (pw_and1 (pt_cmpR op_eq (pe_ix ix_tup (pv 6) pe_int (fun _ _ => rfl)) pe_str (nomark _)))))
        (pss_one (ps_expr (pe_bm PySem.F.plainAttrs_list PySem.F.slot_list_append PySem.F.type_list_append mt_append (pv 5) (pa_cons (pe_tup (pa_cons (pe_ix ix_tup (pv 6) pe_int (fun _ _ => rfl)) (pa_cons (pv 7) (pa_cons (pe_op op_add_str (pe_op op_add_str (pv 8) (pe_ix ix_tup (pv 6) pe_int (fun _ _ => rfl))) pe_str) (pa_cons (pv 9) pa_nil))))) pa_nil))))
        (pss_one (ps_if (pt_val (pe_call G__law_unbroken hr rfl m__law_unbroken k__law_unbroken b__law_unbroken .nil pass0 (pa_cons (pv 6) (pa_cons (pe_callB call_len_str rfl m_len PySem.boot_len (pa_cons (pv 12) pa_nil)) (pa_cons (pv 1) (pa_cons (pv 10) pa_nil))))))
          (pss_one (ps_expr (pe_bm PySem.F.plainAttrs_list PySem.F.slot_list_append PySem.F.type_list_append mt_append (pv 3) (pa_cons (pv 12) pa_nil))))
          (pss_one (ps_if (pt_cmpR op_eq (pe_ix ix_tup (pv 6) pe_int (fun _ _ => rfl)) pe_str (nomark _))
            (pss_cons (ps_expr (pe_bm PySem.F.plainAttrs_list PySem.F.slot_list_append PySem.F.type_list_append mt_append (pv 3) (pa_cons (pe_op op_add_str (pv 11) pe_str) pa_nil)))
            (pss_cons (ps_for PassesOwn.never rfl (pi_list (pe_call G__law_word_rows hr rfl m__law_word_rows k__law_word_rows b__law_word_rows .nil pass0 (pa_cons (pe_ix ix_tup (pv 6) pe_int (fun _ _ => rfl)) (pa_cons (pe_op op_sub (pe_op op_sub (pv 1) (pv 7)) pe_int) (pa_cons (pv 10) pa_nil))))) (pg_name (i := 13) sc.nd rfl (Or.inl rfl))
              (pss_one (ps_expr (pe_bm PySem.F.plainAttrs_list PySem.F.slot_list_append PySem.F.type_list_append mt_append (pv 3) (pa_cons (pe_op op_add_str (pe_op op_add_str (pe_op op_blank pe_str (pv 7)) pe_str) (pv 13)) pa_nil)))))
            (pss_one (ps_expr (pe_bm PySem.F.plainAttrs_list PySem.F.slot_list_append PySem.F.type_list_append mt_append (pv 3) (pa_cons (pe_op op_add_str (pe_op op_add_str (pe_op op_blank pe_str (pv 7)) pe_str) (pv 9)) pa_nil))))))
            (pss_cons (ps_expr (pe_bm PySem.F.plainAttrs_list PySem.F.slot_list_append PySem.F.type_list_append mt_append (pv 3) (pa_cons (pe_op op_add_str (pe_op op_add_str (pv 11) (pe_ix ix_tup (pv 6) pe_int (fun _ _ => rfl))) pe_str) pa_nil)))
            (pss_cons (ps_expr (pe_bm PySem.F.plainAttrs_list PySem.F.slot_list_append PySem.F.type_list_append mt_append (pv 5) (pa_cons (pe_tup (pa_cons (pe_op op_add_str (pe_op op_add_str (pe_op op_blank pe_str (pv 7)) pe_str) (pv 9)) (pa_cons pe_int (pa_cons pe_str (pa_cons pe_str pa_nil))))) pa_nil)))
            (pss_one (ps_for PassesOwn.never rfl (pi_range3 rfl m_range (pa_cons (pe_op op_sub (pe_callB call_len_seq rfl m_len PySem.boot_len (pa_cons (pe_ix ix_tup (pv 6) pe_int (fun _ _ => rfl)) pa_nil)) pe_int) (pa_cons (pe_un un_neg pe_int) (pa_cons (pe_un un_neg pe_int) pa_nil)))) (pg_name (i := 14) sc.nd rfl (Or.inl rfl))
              (pss_cons (ps_set (i := 15) sc.nd rfl (Or.inl rfl) (pe_ix ix_list (pe_lst (pa_cons pe_str (pa_cons pe_str pa_nil))) (pe_callTy call_int1 rfl m_int boot_int' (pa_cons (pe_cmpR op_eq (pe_op op_add (pv 14) pe_int) (pe_callB call_len_seq rfl m_len PySem.boot_len (pa_cons (pe_ix ix_tup (pv 6) pe_int (fun _ _ => rfl)) pa_nil)) (nomark _)) pa_nil)) (fun _ _ => rfl)))
              (pss_one (ps_expr (pe_bm PySem.F.plainAttrs_list PySem.F.slot_list_append PySem.F.type_list_append mt_append (pv 5) (pa_cons (pe_tup (pa_cons (pe_ix ix_list (pe_ix ix_tup (pv 6) pe_int (fun _ _ => rfl)) (pv 14) (fun _ _ => rfl)) (pa_cons (pe_op op_add (pv 7) pe_int) (pa_cons pe_str (pa_cons (pv 15) pa_nil))))) pa_nil))))))))))))))
      (pss_one (ps_set (i := 4) sc.nd rfl (Or.inl rfl) (pe_op op_add (pv 4) pe_int)))))))))
    (pss_one (ps_ret (pv 3)))))))), ?_⟩
  refine ⟨(by show 0 ≤ sizeLine; decide), fun r hr0 => ?_⟩
  refine ⟨_, rfl, (by show 4 ≤ sizeLine; decide), fun p0 hp0 => ⟨(by show 1 ≤ sizeLine; decide), fun D hD => ?_⟩⟩
  have s0 : Same H (upd H r (.lst [])) := same_new hr0 _
  have hHp0 : H p0 = none := s0.free hp0
  have s1 := s0.trans (same_new hp0 (.tup [v, .int 0, .str "", .str ""]))
  have hHD : H D = none := s1.free hD
  have hrD : r ≠ D := fun e => by
    have : (upd (upd H r (.lst [])) p0 (.tup [v, .int 0, .str "", .str ""])) r = some (.lst []) := same_new hp0 _ _ _ upd_same
    rw [← e, this] at hD; cases hD
  refine ⟨fun m σ H' => ∃ (done : List Str) (todo : List Ly.It) (vs : List V) (seen : Int) (z6 z7 z8 z9 z10 z11 z12 z13 z14 z15 : Option V), σ = [some v, some (.int W), some (.ref c), some (.ref r), some (.int seen), some (.ref D), z6, z7, z8, z9, z10, z11, z12, z13, z14, z15] ∧ Same H H' ∧
      H' r = some (.lst (done.map V.str)) ∧ H' D = some (.lst vs) ∧ ItemsAt H H' vs todo ∧ (∀ more, Ly.AnyI todo.reverse more → Ly.Any t 0 "" "" (done ++ more)) ∧ (cs = [0] → done ++ Ly.layI W todo.reverse = Ly.lay W t 0 "" "") ∧ (cs = [3] → done ++ Ly.fullI todo.reverse = Ly.full t 0 "" "") ∧
      (∀ x ∈ todo, (Ly.flatRow x.t x.i x.lead x.tail).length ≤ (Th.flat t).length ∧ Th.size x.t ≤ 1000000) ∧ done.length + Ly.capI todo ≤ Ly.cap t ∧ m = Ly.wtI todo ∧ m ≤ Ly.wt t,
    ⟨_, [], [⟨t, 0, "", ""⟩], [.ref p0], 0, none, none, none, none, none, none, none, none, none, none, rfl, same_upd s1 hHD _, ?_, upd_same, ?_, ?_, ?_, ?_, ?_, ?_, rfl, ?_⟩, ?_⟩
  · rw [upd_ne hrD]
    exact same_new hp0 _ _ _ upd_same
  · refine ⟨⟨p0, v, rfl, ?_, R⟩, True.intro⟩
    exact same_new hD _ _ _ upd_same
  · intro more hm
    cases hm with
    | cons h1 h2 =>
      cases h2
      rw [List.append_nil]
      exact h1
  · intro _
    show [] ++ (Ly.lay W t 0 "" "" ++ []) = _
    rw [List.append_nil, List.nil_append]
  · intro _
    show [] ++ (Ly.full t 0 "" "" ++ []) = _
    rw [List.append_nil, List.nil_append]
  · intro x hx
    have e : x = ⟨t, 0, "", ""⟩ := by simpa using hx
    subst e
    rw [Ly.flatRow_len, e0]
    exact ⟨by dsimp only; omega, by dsimp only; omega⟩
  · rw [Ly.capI, Ly.capI]; simp
  · rw [Ly.wtI, Ly.wtI]; dsimp only; omega
  rintro m σ H1 ⟨done, todo, vs, seen, z6, z7, z8, z9, z10, z11, z12, z13, z14, z15, rfl, s2, hr1, hD1, hit, hany, hrule, hfull, hlen, hcapI, rfl, hm⟩
  refine ⟨_, rfl, (by show 0 ≤ sizeLine; decide), fun e he => ?_⟩
  have se := same_new he (.lst [])
  have s3 := s2.trans se
  have hr3 := se _ _ hr1
  have hD3 := se _ _ hD1
  have hit3 := hit.mono (TK.of se)
  refine ⟨D, e, vs, rfl, rfl, SqL.of hD3, SqL.of upd_same, _, rfl, ?_⟩
  generalize upd H1 e (.lst []) = H2 at se s3 hr3 hD3 hit3
  show if (!vs.isEmpty) = true then _ else _
  by_cases hx : todo = []
  · subst hx
    have hv : vs = [] := List.length_eq_zero_iff.mp hit.len
    subst hv
    refine iteF ?_
    have ha := hany [] .nil
    rw [List.append_nil] at ha
    refine ⟨_, rfl, q r H2 done hr0 s3 hr3 ha (fun z => ?_) (fun z => ?_) ?_⟩
    · have := hrule z
      rw [List.reverse_nil, Ly.layI, List.append_nil] at this
      exact this
    · have := hfull z
      rw [List.reverse_nil, Ly.fullI, List.append_nil] at this
      exact this
    · rw [Ly.capI] at hcapI
      omega
  obtain ⟨rest, one, rfl⟩ := Fm.split_last todo hx
  obtain ⟨us, u, rfl, hus, hone⟩ := hit3.last
  rw [if_pos (by simp)]
  obtain ⟨p, u1, rfl, hp, hu1⟩ := hone
  obtain ⟨t1, i1, lead, tail⟩ := one
  dsimp only at hp hu1
  obtain ⟨hl1, hs1⟩ := hlen ⟨t1, i1, lead, tail⟩ (by simp)
  dsimp only at hl1 hs1
  have hl1' := hl1
  rw [Ly.flatRow_len] at hl1'
  have hwr : Ly.wtI (rest ++ [⟨t1, i1, lead, tail⟩]) = Ly.wtI rest + Ly.wt t1 := by rw [Ly.wtI_app, Ly.wtI, Ly.wtI]; dsimp only; omega
  have hcr : Ly.capI (rest ++ [⟨t1, i1, lead, tail⟩]) = Ly.capI rest + Ly.cap t1 := by rw [Ly.capI_app, Ly.capI, Ly.capI]; dsimp only; omega
  rw [hcr] at hcapI
  have hrl := Ly.len_wtI rest
  have hul := hus.len
  rw [List.reverse_append, List.reverse_singleton, List.singleton_append] at hany hrule hfull
  refine ⟨fun σ' H' => ∃ m', m' < Ly.wtI (rest ++ [⟨t1, i1, lead, tail⟩]) ∧ ∃ (done : List Str) (todo : List Ly.It) (vs : List V) (seen : Int) (z6 z7 z8 z9 z10 z11 z12 z13 z14 z15 : Option V), σ' = [some v, some (.int W), some (.ref c), some (.ref r), some (.int seen), some (.ref D), z6, z7, z8, z9, z10, z11, z12, z13, z14, z15] ∧ Same H H' ∧
      H' r = some (.lst (done.map V.str)) ∧ H' D = some (.lst vs) ∧ ItemsAt H H' vs todo ∧ (∀ more, Ly.AnyI todo.reverse more → Ly.Any t 0 "" "" (done ++ more)) ∧ (cs = [0] → done ++ Ly.layI W todo.reverse = Ly.lay W t 0 "" "") ∧ (cs = [3] → done ++ Ly.fullI todo.reverse = Ly.full t 0 "" "") ∧
      (∀ x ∈ todo, (Ly.flatRow x.t x.i x.lead x.tail).length ≤ (Th.flat t).length ∧ Th.size x.t ≤ 1000000) ∧ done.length + Ly.capI todo ≤ Ly.cap t ∧ m' = Ly.wtI todo ∧ m' ≤ Ly.wt t, fun _ _ z => z, ?_⟩
  have hpD : p ≠ D := fun z => by rw [z, hD3] at hp; cases hp
  have hp4' : (upd H2 D (.lst (us ++ [V.ref p]).dropLast)) p = some (.tup [u1, .int (i1 : Int), .str lead, .str tail]) := by rw [upd_ne hpD]; exact hp
  refine ⟨_, rfl, .inl ⟨rfl, _, SqL.of hD3⟩, D, _, .ref p, rfl, rfl, hD3, last_at us _, p, _, rfl, SqT.of hp4', rfl, _, _, rfl, _, _, rfl, _, _, rfl, _, _, rfl, rfl, ?_⟩
  rw [List.dropLast_concat]
  have s4 : Same H (upd H2 D (.lst us)) := same_upd s3 hHD _
  have hr4 : (upd H2 D (.lst us)) r = some (.lst (done.map V.str)) := by rw [upd_ne hrD]; exact hr3
  have hD4 : (upd H2 D (.lst us)) D = some (.lst us) := upd_same
  have hus4 := hus.mono (TK.lst hD3 (.lst us))
  generalize upd H2 D (.lst us) = H4 at s4 hr4 hD4 hus4
  have hC4 := s4.seq hC
  -- the cell
  have hcl : (0 : Int) < ((cs.map V.int).length : Nat) := by
    rw [List.length_map]
    have := List.length_pos_iff.mpr hcs
    omega
  obtain ⟨cell, hcell, hc0, hc3⟩ : ∃ cell : Int, atI (cs.map V.int) (seen % ((cs.map V.int).length : Nat)) = some (.int cell) ∧ (cs = [0] → cell = 0) ∧ (cs = [3] → cell = 3) := by
    have n0 := Int.emod_nonneg seen (show (((cs.map V.int).length : Nat) : Int) ≠ 0 by omega)
    have n1 := Int.emod_lt_of_pos seen hcl
    generalize seen % (((cs.map V.int).length : Nat) : Int) = j at n0 n1
    rw [List.length_map] at n1
    have hj : j.toNat < cs.length := by omega
    refine ⟨cs[j.toNat], ?_, ?_, ?_⟩
    · have ej : ((j.toNat : Nat) : Int) = j := by omega
      have h1 : atI (cs.map V.int) ((j.toNat : Nat) : Int) = some (.int cs[j.toNat]) := atI_nat (by rw [List.getElem?_map, List.getElem?_eq_getElem hj]; rfl)
      rw [ej] at h1
      exact h1
    · intro z
      subst z
      have : j.toNat = 0 := by simp at hj; omega
      simp [this]
    · intro z
      subst z
      have : j.toNat = 0 := by simp at hj; omega
      simp [this]
  refine ⟨_, rfl, _, rfl, _, rfl, c, _, rfl, .inl hC4, _, _, rfl, rfl, hcl, c, _, _, _, rfl, rfl, hC4, hcell, ?_⟩
  refine ⟨_, rfl, i1, rfl, rfl, by omega, _, rfl, _, _, rfl, rfl, le_size (by rw [Ly.pad_len]; omega), ?_⟩
  have eb : (" " : Str) = " " := rfl
  refine ⟨_, rfl, _, rfl, t1, u1, rfl, Rep.mono s4 _ _ hu1, hs1, fun H5 s5 => ⟨_, _, rfl, rfl, le_size (by rw [len_app, Ly.pad_len]; omega), _, rfl, _, _, rfl, rfl, le_size (by rw [len_app, len_app, Ly.pad_len]; omega), ?_⟩⟩
  have s45 := s4.trans s5
  have hr5 := s5 _ _ hr4
  have hD5 := s5 _ _ hD4
  have hus5 := hus4.mono (TK.of s5)
  have hu5 := Rep.mono s45 _ _ hu1
  -- what is wanted at a turn's end
  have fin : ∀ (done' : List Str) (todo' : List Ly.It) (vs' : List V) (H' : Hp) (y6 y7 y8 y9 y10 y11 y12 y13 y14 y15 : Option V), Same H H' → H' r = some (.lst (done'.map V.str)) → H' D = some (.lst vs') → ItemsAt H H' vs' todo' →
      (∀ more, Ly.AnyI todo'.reverse more → Ly.Any t 0 "" "" (done' ++ more)) → (cs = [0] → done' ++ Ly.layI W todo'.reverse = Ly.lay W t 0 "" "") → (cs = [3] → done' ++ Ly.fullI todo'.reverse = Ly.full t 0 "" "") →
      (∀ x ∈ todo', (Ly.flatRow x.t x.i x.lead x.tail).length ≤ (Th.flat t).length ∧ Th.size x.t ≤ 1000000) → done'.length + Ly.capI todo' ≤ Ly.cap t → Ly.wtI todo' < Ly.wtI (rest ++ [⟨t1, i1, lead, tail⟩]) →
      ∃ m', m' < Ly.wtI (rest ++ [⟨t1, i1, lead, tail⟩]) ∧ ∃ (done : List Str) (todo : List Ly.It) (vs : List V) (seen' : Int) (z6 z7 z8 z9 z10 z11 z12 z13 z14 z15 : Option V), [some v, some (V.int W), some (.ref c), some (.ref r), some (.int (seen + 1)), some (.ref D), y6, y7, y8, y9, y10, y11, y12, y13, y14, y15] = [some v, some (.int W), some (.ref c), some (.ref r), some (.int seen'), some (.ref D), z6, z7, z8, z9, z10, z11, z12, z13, z14, z15] ∧ Same H H' ∧
      H' r = some (.lst (done.map V.str)) ∧ H' D = some (.lst vs) ∧ ItemsAt H H' vs todo ∧ (∀ more, Ly.AnyI todo.reverse more → Ly.Any t 0 "" "" (done ++ more)) ∧ (cs = [0] → done ++ Ly.layI W todo.reverse = Ly.lay W t 0 "" "") ∧ (cs = [3] → done ++ Ly.fullI todo.reverse = Ly.full t 0 "" "") ∧
      (∀ x ∈ todo, (Ly.flatRow x.t x.i x.lead x.tail).length ≤ (Th.flat t).length ∧ Th.size x.t ≤ 1000000) ∧ done.length + Ly.capI todo ≤ Ly.cap t ∧ m' = Ly.wtI todo ∧ m' ≤ Ly.wt t := by
    intro done' todo' vs' H' y6 y7 y8 y9 y10 y11 y12 y13 y14 y15 a1 a2 a3 a4 a5 a6 a7 a8 a9 a10
    exact ⟨Ly.wtI todo', a10, done', todo', vs', seen + 1, _, _, _, _, _, _, _, _, _, _, rfl, a1, a2, a3, a4, a5, a6, a7, a8, a9, rfl, by omega⟩
  have hlenr : ∀ x ∈ rest, (Ly.flatRow x.t x.i x.lead x.tail).length ≤ (Th.flat t).length ∧ Th.size x.t ≤ 1000000 := fun x hx => hlen x (List.mem_append_left _ hx)
  -- one row, flat
  have flat1 : isTag t1 = false → unb t1 ((Ly.flatRow t1 i1 lead tail).length : Int) W cell = true → ∀ (y6 y7 y8 y9 y10 y11 y12 y13 y14 y15 : Option V) (H' : Hp), H' = upd H5 r (.lst (done.map V.str ++ [.str (Ly.flatRow t1 i1 lead tail)])) → _ :=
    fun ht hub y6 y7 y8 y9 y10 y11 y12 y13 y14 y15 H' e => fin (done ++ [Ly.flatRow t1 i1 lead tail]) rest us H' y6 y7 y8 y9 y10 y11 y12 y13 y14 y15 (by rw [e]; exact same_upd s45 hr0 _) (by rw [e, upd_same, List.map_append]; rfl) (by rw [e, upd_ne (Ne.symm hrD)]; exact hD5) (by rw [e]; exact hus5.mono (TK.lst hr5 _))
      (fun more hm' => by rw [List.append_assoc]; exact hany _ (.cons (any_flat ht) hm'))
      (fun z => by
        have h1 := hrule z
        rw [Ly.layI] at h1
        dsimp only at h1
        rw [hc0 z, rule_unb ht] at hub
        rw [lay_flat ht hub] at h1
        rw [List.append_assoc]
        exact h1)
      (fun z => by
        have h1 := hfull z
        rw [Ly.fullI] at h1
        dsimp only at h1
        rw [hc3 z, full_unb] at hub
        rw [full_flat ht hub] at h1
        rw [List.append_assoc]
        exact h1)
      hlenr (by rw [List.length_append, List.length_singleton]; have := Ly.cap_pos t1; omega) (by rw [hwr]; have := Ly.wt_pos t1; omega)
  have hdl : done.length ≤ 900000 := by omega
  cases t1 with
  | word x =>
    rw [Rep] at hu5
    subst hu5
    refine ⟨_, rfl, _, _, _, _, rfl, .str x, kit_str_tup K, _, rfl, ?_⟩
    refine iteF ?_
    refine iteF ?_
    refine ⟨_, rfl, _, rfl, _, rfl, le_size (by rw [len_app, len_app, len_app, Ly.pad_len]; omega), _, rfl, _, rfl, .word x, _, _, W, cell, rfl, (by rw [Rep]), rfl, _, rfl, ?_⟩
    have hub : unb (.word x) ((Ly.flatRow (.word x) i1 lead tail).length : Int) W cell = true := rfl
    refine iteT ?_
    refine ⟨_, rfl, .inl ⟨rfl, _, SqL.of hr5⟩, _, rfl, r, _, _, rfl, rfl, hr5, lt_size (by simp; omega), ?_⟩
    exact ⟨_, rfl, _, _, rfl, rfl, flat1 rfl hub _ _ _ _ _ _ _ _ _ _ _ rfl⟩
  | tag w' t' =>
    rw [Rep] at hu1
    obtain ⟨a, x, rfl, h1, h2⟩ := hu1
    have h15 := s45 _ _ h1
    have e2 : (": " : Str).length = 2 := by decide
    rw [Th.flat, Th.app_len, Th.app_len, e2] at hl1'
    refine ⟨_, rfl, _, _, _, _, rfl, .tup h15, kit_tup_tup K, _, rfl, ?_⟩
    refine iteT ?_
    refine ⟨_, rfl, a, _, _, _, rfl, rfl, SqT.of h15, rfl, rfl, _, rfl, ?_⟩
    refine iteT ?_
    refine ⟨_, rfl, .inl ⟨rfl, _, SqL.of hD5⟩, _, rfl, a, _, _, _, rfl, rfl, SqT.of h15, rfl, _, rfl, _, rfl, _, rfl, a, _, _, _, rfl, rfl, SqT.of h15, rfl, _, _, rfl, rfl, le_size (by omega), _, _, rfl, rfl, le_size (by rw [len_app, e2]; omega), _, rfl, (by show 4 ≤ sizeLine; decide), fun p' hp' => ?_⟩
    have sp := same_new hp' (.tup [x, .int (i1 : Int), .str (lead ++ w' ++ ": "), .str tail])
    have hDp := sp _ _ hD5
    have hp'D : p' ≠ D := fun z => by rw [z, hD5] at hp'; cases hp'
    refine ⟨D, us, _, rfl, rfl, hDp, lt_size (by omega), ?_⟩
    refine ⟨_, rfl, _, _, rfl, rfl, fin done (rest ++ [⟨t', i1, lead ++ w' ++ ": ", tail⟩]) (us ++ [.ref p']) _ _ _ _ _ _ _ _ _ _ _ (same_upd (s45.trans sp) hHD _) (by rw [upd_ne hrD]; exact sp _ _ hr5) upd_same
      (ItemsAt.snoc ⟨p', x, rfl, by rw [upd_ne hp'D, upd_same], h2⟩ (hus5.mono (TK.trans (TK.of sp) (TK.lst hDp _)))) ?_ ?_ ?_ ?_ ?_ ?_⟩
    · intro more hm'
      rw [List.reverse_append, List.reverse_singleton, List.singleton_append] at hm'
      cases hm' with
      | cons b1 b2 => exact hany _ (.cons (.tag b1) b2)
    · intro z
      have q1 := hrule z
      rw [Ly.layI] at q1
      dsimp only at q1
      rw [Ly.lay] at q1
      rw [List.reverse_append, List.reverse_singleton, List.singleton_append, Ly.layI]
      exact q1
    · intro z
      have q1 := hfull z
      rw [Ly.fullI] at q1
      dsimp only at q1
      rw [Ly.full] at q1
      rw [List.reverse_append, List.reverse_singleton, List.singleton_append, Ly.fullI]
      exact q1
    · intro y hy
      rcases List.mem_append.mp hy with hy | hy
      · exact hlenr y hy
      · have e : y = ⟨t', i1, lead ++ w' ++ ": ", tail⟩ := by simpa using hy
        subst e
        rw [Th.size] at hs1
        rw [Ly.flatRow_len]
        dsimp only
        rw [Th.app_len, Th.app_len, e2]
        exact ⟨by omega, by omega⟩
    · rw [Ly.capI_app, Ly.capI, Ly.capI]
      rw [Ly.cap] at hcapI
      dsimp only
      omega
    · rw [hwr, Ly.wtI_app, Ly.wtI, Ly.wtI, Ly.wt]
      dsimp only
      omega
  | run ws =>
    have hu5' := hu5
    rw [Rep] at hu1
    obtain ⟨a, l, rfl, h1, h2⟩ := hu1
    have h15 := s45 _ _ h1
    have e1 : ("[" : Str).length = 1 := by decide
    have e2 : ("]" : Str).length = 1 := by decide
    have e3 : ("  " : Str).length = 2 := by decide
    refine ⟨_, rfl, _, _, _, _, rfl, .tup h15, kit_tup_tup K, _, rfl, ?_⟩
    refine iteT ?_
    refine ⟨_, rfl, a, _, _, _, rfl, rfl, SqT.of h15, rfl, rfl, _, rfl, ?_⟩
    refine iteF ?_
    refine ⟨_, rfl, _, rfl, _, rfl, le_size (by rw [len_app, len_app, len_app, Ly.pad_len]; omega), _, rfl, _, rfl, .run ws, _, _, W, cell, rfl, hu5', rfl, _, rfl, ?_⟩
    refine ite2 (fun hub => ?_) (fun hub => ?_)
    · refine ⟨_, rfl, .inl ⟨rfl, _, SqL.of hr5⟩, _, rfl, r, _, _, rfl, rfl, hr5, lt_size (by simp; omega), ?_⟩
      exact ⟨_, rfl, _, _, rfl, rfl, flat1 rfl hub _ _ _ _ _ _ _ _ _ _ _ rfl⟩
    have hub' : ¬ unb (.run ws) ((Ly.flatRow (.run ws) i1 lead tail).length : Int) W cell = true := hub
    have hne : ws ≠ [] := fun z => hub' (by subst z; rfl)
    rw [Th.flat, Th.app_len, Th.app_len, e1, e2] at hl1'
    rw [Ly.cap] at hcapI
    have hws : ws.length ≤ 1000000 := by omega
    refine ⟨_, rfl, a, _, _, _, rfl, rfl, SqT.of h15, rfl, rfl, _, rfl, ?_⟩
    refine iteT ?_
    refine ⟨_, rfl, .inl ⟨rfl, _, SqL.of hr5⟩, _, rfl, _, _, rfl, rfl, le_size (by rw [len_app, Ly.pad_len, e1]; omega), r, _, _, rfl, rfl, hr5, lt_size (by simp; omega), ?_⟩
    have s6 : Same H (upd H5 r (.lst (done.map V.str ++ [.str (Ly.pad i1 ++ lead ++ "[")]))) := same_upd s45 hr0 _
    have hr6 : (upd H5 r (.lst (done.map V.str ++ [.str (Ly.pad i1 ++ lead ++ "[")]))) r = some (.lst ((done ++ [Ly.pad i1 ++ lead ++ "["]).map V.str)) := by rw [upd_same, List.map_append]; rfl
    have hD6 : (upd H5 r (.lst (done.map V.str ++ [.str (Ly.pad i1 ++ lead ++ "[")]))) D = some (.lst us) := by rw [upd_ne (Ne.symm hrD)]; exact hD5
    have hus6 := hus5.mono (TK.lst hr5 (.lst (done.map V.str ++ [.str (Ly.pad i1 ++ lead ++ "[")])))
    generalize upd H5 r (.lst (done.map V.str ++ [.str (Ly.pad i1 ++ lead ++ "[")])) = H6 at s6 hr6 hD6 hus6
    have h16 := s6 _ _ h1
    have h26 := s6 _ _ h2
    refine ⟨_, rfl, a, _, _, _, rfl, rfl, SqT.of h16, rfl, _, rfl, _, rfl, _, _, rfl, rfl, _, _, rfl, rfl, _, rfl, l, ws, Ly.room W i1, cell, rfl, SqL.of h26, hne, hws, by omega, fun r2 H7 gs hr2n s7 hr2 g1 g2 g3 g4 g5 => ?_⟩
    have hr7 := s7 _ _ hr6
    have hD7 := s7 _ _ hD6
    have hus7 := hus6.mono (TK.of s7)
    have s67 := s6.trans s7
    have hrr : r2 ≠ r := fun z => by rw [z, hr6] at hr2n; cases hr2n
    have hgl : ∀ g' ∈ gs, Fm.jl Ly.sz g' ≤ (Str.join " " ws).length := fun g' hg' => by
      rw [join_jl, ← g1]
      have key : ∀ (gs : List (List Str)), g' ∈ gs → Fm.jl Ly.sz g' ≤ Fm.jl Ly.sz gs.flatten := by
        intro gs
        induction gs with
        | nil => intro z; cases z
        | cons b gs ih =>
          intro z
          rw [List.flatten_cons]
          rcases List.mem_cons.mp z with e | z
          · rw [e]; exact jl_take _ _
          · exact Nat.le_trans (ih z) (jl_drop _ _)
      exact key gs hg'
    refine ⟨r2, rfl, ⟨_, SqL.of hr2⟩, for_list (K := K) (a := r2) (xs := (gs.map (Str.join " ")).map V.str) (fun j σ H' => (∀ b o, b ≠ r → H7 b = some o → H' b = some o) ∧ Same H H' ∧ H' r = some (.lst ((done ++ [Ly.pad i1 ++ lead ++ "["] ++ (gs.take j).map (Ly.wordRow i1)).map V.str)) ∧ ∃ y13 y14 y15, σ = [some v, some (.int W), some (.ref c), some (.ref r), some (.int seen), some (.ref D), some (.ref a), some (.int (i1 : Int)), some (.str lead), some (.str tail), some (.int cell), some (.str (Ly.pad i1 ++ lead)), some (.str (Ly.pad i1 ++ lead ++ Th.flat (.run ws) ++ tail)), y13, y14, y15]) ⟨fun _ _ _ z => z, s67, by rw [hr7]; simp, _, _, _, rfl⟩ ?_ ?_ ?_⟩
    · rintro j σ H8 _ ⟨k8, _⟩
      exact SqL.of (k8 _ _ hrr hr2)
    · rintro j x σ H8 hx ⟨k8, s8, hr8, y13, y14, y15, rfl⟩
      rw [List.map_map, List.getElem?_map] at hx
      obtain ⟨gj, hgj, rfl⟩ : ∃ gj, gs[j]? = some gj ∧ x = V.str (Str.join " " gj) := by
        cases e : gs[j]? with
        | none => rw [e] at hx; cases hx
        | some gj => rw [e] at hx; exact ⟨gj, rfl, (Option.some.inj hx).symm⟩
      have hj1 := hgl gj (List.mem_of_getElem? hgj)
      have hj2 := join_jl gj
      have hjl : j < gs.length := (List.getElem?_eq_some_iff.mp hgj).1
      refine ⟨_, rfl, .inl ⟨rfl, _, SqL.of hr8⟩, _, rfl, i1, rfl, rfl, by omega, _, _, rfl, rfl, le_size (by rw [Ly.pad_len, e3]; omega), _, rfl, _, _, rfl, rfl, le_size (by rw [len_app, Ly.pad_len, e3]; omega), r, _, _, rfl, rfl, hr8, lt_size (by simp; omega), ?_⟩
      refine ⟨fun b o hb z => by rw [upd_ne hb]; exact k8 b o hb z, same_upd s8 hr0 _, ?_, _, _, _, rfl⟩
      rw [upd_same, take_snoc' hgj]
      simp [Ly.wordRow]
    · rintro σ H8 ⟨k8, s8, hr8, y13, y14, y15, rfl⟩
      have eg : (gs.take ((gs.map (Str.join " ")).map V.str).length) = gs := by rw [List.length_map, List.length_map, List.take_length]
      rw [eg] at hr8
      refine ⟨_, rfl, .inl ⟨rfl, _, SqL.of hr8⟩, _, rfl, i1, rfl, rfl, by omega, _, _, rfl, rfl, le_size (by rw [Ly.pad_len, e2]; omega), _, rfl, _, _, rfl, rfl, le_size (by rw [len_app, Ly.pad_len, e2]; omega), r, _, _, rfl, rfl, hr8, lt_size (by simp; omega), ?_⟩
      have hD8 := k8 _ _ (Ne.symm hrD) hD7
      have hus8 : ItemsAt H H8 us rest := hus7.mono (fun b xs z => k8 b _ (fun e => by rw [e, hr7] at z; cases z) z)
      refine ⟨_, rfl, _, _, rfl, rfl, fin (done ++ ((Ly.pad i1 ++ lead ++ "[") :: (gs.map (Ly.wordRow i1) ++ [Ly.pad i1 ++ "]" ++ tail]))) rest us _ _ _ _ _ _ _ _ _ _ _ (same_upd s8 hr0 _) (by rw [upd_same]; simp) (by rw [upd_ne (Ne.symm hrD)]; exact hD8) (hus8.mono (TK.lst hr8 _)) ?_ ?_ ?_ hlenr ?_ ?_⟩
      · intro more hm'
        rw [List.append_assoc]
        exact hany _ (.cons (.run hne g1 g2) hm')
      · intro z
        have q1 := hrule z
        rw [Ly.layI] at q1
        dsimp only at q1
        have ht : isTag (T.run ws) = false := rfl
        rw [hc0 z, rule_unb ht] at hub'
        rw [Ly.lay, if_neg (fun y => hub' (by
          rw [Bool.or_eq_true]
          exact y.imp (fun e => List.isEmpty_iff.mpr e) decide_eq_true)), ← g3 (hc0 z)] at q1
        rw [List.append_assoc]
        exact q1
      · intro z
        have q1 := hfull z
        rw [Ly.fullI] at q1
        dsimp only at q1
        rw [Ly.full, if_neg hne] at q1
        rw [g4 (hc3 z), List.map_map, List.append_assoc]
        exact q1
      · simp only [List.length_append, List.length_cons, List.length_map, List.length_nil]
        omega
      · rw [hwr, Ly.wt]
        omega
  | bundle hd' ps =>
    have hu5' := hu5
    rw [Rep] at hu1
    obtain ⟨a, l, ws, rfl, h1, h2, h3⟩ := hu1
    have h15 := s45 _ _ h1
    have hpl := h3.len
    have e1 : ("(" : Str).length = 1 := by decide
    have e2 : (")" : Str).length = 1 := by decide
    refine ⟨_, rfl, _, _, _, _, rfl, .tup h15, kit_tup_tup K, _, rfl, ?_⟩
    refine iteT ?_
    refine ⟨_, rfl, a, _, _, _, rfl, rfl, SqT.of h15, rfl, rfl, _, rfl, ?_⟩
    refine iteF ?_
    refine ⟨_, rfl, _, rfl, _, rfl, le_size (by rw [len_app, len_app, len_app, Ly.pad_len]; omega), _, rfl, _, rfl, .bundle hd' ps, _, _, W, cell, rfl, hu5', rfl, _, rfl, ?_⟩
    refine ite2 (fun hub => ?_) (fun hub => ?_)
    · refine ⟨_, rfl, .inl ⟨rfl, _, SqL.of hr5⟩, _, rfl, r, _, _, rfl, rfl, hr5, lt_size (by simp; omega), ?_⟩
      exact ⟨_, rfl, _, _, rfl, rfl, flat1 rfl hub _ _ _ _ _ _ _ _ _ _ _ rfl⟩
    have hub' : ¬ unb (.bundle hd' ps) ((Ly.flatRow (.bundle hd' ps) i1 lead tail).length : Int) W cell = true := hub
    have hne : ps ≠ [] := fun z => hub' (by subst z; rfl)
    rw [Th.flat, Th.app_len, Th.app_len, Th.app_len, e1, e2] at hl1'
    rw [Ly.cap] at hcapI
    rw [Th.size] at hs1
    have hwm : Ly.wtI rest + (Ly.wts ps + 2) ≤ Ly.wt t := by rw [hwr, Ly.wt] at hm; exact hm
    have hpn : ps.length ≤ 900000 := by
      have h9 := Ly.len_wtI (Ly.partsI ps 0)
      rw [Ly.partsI_len, Ly.wtI_parts] at h9
      omega
    refine ⟨_, rfl, a, _, _, _, rfl, rfl, SqT.of h15, rfl, rfl, _, rfl, ?_⟩
    refine iteF ?_
    refine ⟨_, rfl, .inl ⟨rfl, _, SqL.of hr5⟩, _, rfl, _, rfl, a, _, _, _, rfl, rfl, SqT.of h15, rfl, _, _, rfl, rfl, le_size (by rw [len_app, Ly.pad_len]; omega), _, _, rfl, rfl, le_size (by rw [len_app, len_app, Ly.pad_len, e1]; omega), r, _, _, rfl, rfl, hr5, lt_size (by simp; omega), ?_⟩
    have s6 : Same H (upd H5 r (.lst (done.map V.str ++ [.str (Ly.pad i1 ++ lead ++ hd' ++ "(")]))) := same_upd s45 hr0 _
    have hr6 : (upd H5 r (.lst (done.map V.str ++ [.str (Ly.pad i1 ++ lead ++ hd' ++ "(")]))) r = some (.lst ((done ++ [Ly.pad i1 ++ lead ++ hd' ++ "("]).map V.str)) := by rw [upd_same, List.map_append]; rfl
    have hD6 : (upd H5 r (.lst (done.map V.str ++ [.str (Ly.pad i1 ++ lead ++ hd' ++ "(")]))) D = some (.lst us) := by rw [upd_ne (Ne.symm hrD)]; exact hD5
    have hus6 := hus5.mono (TK.lst hr5 (.lst (done.map V.str ++ [.str (Ly.pad i1 ++ lead ++ hd' ++ "(")])))
    generalize upd H5 r (.lst (done.map V.str ++ [.str (Ly.pad i1 ++ lead ++ hd' ++ "(")])) = H6 at s6 hr6 hD6 hus6
    refine ⟨_, rfl, .inl ⟨rfl, _, SqL.of hD6⟩, _, rfl, i1, rfl, rfl, by omega, _, _, rfl, rfl, le_size (by rw [Ly.pad_len, e2]; omega), _, rfl, _, _, rfl, rfl, le_size (by rw [len_app, Ly.pad_len, e2]; omega), (by show 4 ≤ sizeLine; decide), fun pl hpl' => ?_⟩
    have sl := same_new hpl' (.tup [.str (Ly.pad i1 ++ ")" ++ tail), .int 0, .str "", .str ""])
    have hDl := sl _ _ hD6
    have hplD : pl ≠ D := fun z => by rw [z, hD6] at hpl'; cases hpl'
    refine ⟨D, us, _, rfl, rfl, hDl, lt_size (by omega), ?_⟩
    have s7 := same_upd (s6.trans sl) hHD (.lst (us ++ [.ref pl]))
    have hr7 : (upd (upd H6 pl (.tup [.str (Ly.pad i1 ++ ")" ++ tail), .int 0, .str "", .str ""])) D (.lst (us ++ [.ref pl]))) r = some (.lst ((done ++ [Ly.pad i1 ++ lead ++ hd' ++ "("]).map V.str)) := by rw [upd_ne hrD]; exact sl _ _ hr6
    have hD7 : (upd (upd H6 pl (.tup [.str (Ly.pad i1 ++ ")" ++ tail), .int 0, .str "", .str ""])) D (.lst (us ++ [.ref pl]))) D = some (.lst (us ++ [.ref pl])) := upd_same
    have hus7 : ItemsAt H (upd (upd H6 pl (.tup [.str (Ly.pad i1 ++ ")" ++ tail), .int 0, .str "", .str ""])) D (.lst (us ++ [.ref pl]))) (us ++ [.ref pl]) (rest ++ [Ly.lastI (Ly.pad i1 ++ ")" ++ tail)]) :=
      ItemsAt.snoc ⟨pl, _, rfl, by rw [upd_ne hplD, upd_same]; rfl, by rw [Ly.lastI, Rep]⟩ (hus6.mono (TK.trans (TK.of sl) (TK.lst hDl _)))
    generalize upd (upd H6 pl (.tup [.str (Ly.pad i1 ++ ")" ++ tail), .int 0, .str "", .str ""])) D (.lst (us ++ [.ref pl])) = H7 at s7 hr7 hD7 hus7
    refine ⟨_, rfl, a, _, _, _, rfl, rfl, SqT.of (s7 _ _ h1), rfl, l, _, rfl, .inl (SqL.of (s7 _ _ h2)), _, _, rfl, rfl, _, rfl, _, rfl, (((ws.length : Nat) : Int) - 1), -1, rfl, ⟨by omega, by omega, by omega, by omega⟩, ?_⟩
    have en : ((((ws.length : Nat) : Int) - 1) - (-1)).toNat = ws.length := by omega
    rw [en]
    refine for_rangeD (fun j σ H' => Same H H' ∧ H' r = some (.lst ((done ++ [Ly.pad i1 ++ lead ++ hd' ++ "("]).map V.str)) ∧ (∃ pvs, H' D = some (.lst (us ++ [.ref pl] ++ pvs)) ∧ ItemsAt H H' (us ++ [.ref pl] ++ pvs) (rest ++ [Ly.lastI (Ly.pad i1 ++ ")" ++ tail)] ++ ((Ly.partsI ps (i1 + 2)).drop (ps.length - j)).reverse) ∧ pvs.length ≤ j) ∧
        ∃ y14 y15, σ = [some v, some (.int W), some (.ref c), some (.ref r), some (.int seen), some (.ref D), some (.ref a), some (.int (i1 : Int)), some (.str lead), some (.str tail), some (.int cell), some (.str (Ly.pad i1 ++ lead)), some (.str (Ly.pad i1 ++ lead ++ Th.flat (.bundle hd' ps) ++ tail)), z13, y14, y15])
      ⟨s7, hr7, ⟨[], by rw [List.append_nil]; exact hD7, ?_, Nat.le_refl _⟩, _, _, rfl⟩ ?_ ?_
    · rw [Nat.sub_zero, ← Ly.partsI_len ps (i1 + 2), List.drop_length, List.reverse_nil, List.append_nil, List.append_nil]
      exact hus7
    · rintro j σ H8 hj ⟨s8, hr8, ⟨pvs, hD8, hus8, hpv⟩, y14, y15, rfl⟩
      have hjn : ps.length - 1 - j < ws.length := by omega
      have hxj : ws[ps.length - 1 - j]? = some ws[ps.length - 1 - j] := List.getElem?_eq_getElem hjn
      obtain ⟨tj, htj, hrj⟩ := h3.get hxj
      generalize ws[ps.length - 1 - j] = xj at hxj hrj
      have ek : (((ws.length : Nat) : Int) - 1 - (j : Int)) = ((ps.length - 1 - j : Nat) : Int) := by omega
      have hat : atI ws (((ws.length : Nat) : Int) - 1 - (j : Int)) = some xj := by rw [ek]; exact atI_nat hxj
      have hit' := Ly.partsI_get ps (i1 + 2) (ps.length - 1 - j) tj htj
      refine ⟨(by show 2 ≤ sizeLine; decide), fun b hb => ?_⟩
      have sb := same_new hb (.lst [.str ",", .str ""])
      have s9 := s8.trans sb
      refine ⟨_, rfl, _, _, rfl, rfl, _, rfl, a, _, _, _, rfl, rfl, SqT.of (s9 _ _ h1), rfl, l, _, rfl, .inl (SqL.of (s9 _ _ h2)), rfl, .inr ⟨_, rfl, b, _, _, .str (if ps.length - 1 - j + 1 = ps.length then "" else ","), rfl, rfl, .inl (.inl upd_same), ?_, ?_⟩⟩
      · by_cases cc : ps.length - 1 - j + 1 = ps.length
        · rw [if_pos cc, if_pos (decide_eq_true (show V.int (((ws.length : Nat) : Int) - 1 - (j : Int) + 1) = V.int ((ws.length : Nat) : Int) from congrArg V.int (by omega)))]
          rfl
        · rw [if_neg cc, if_neg (fun z => cc (by
            have z' : (((ws.length : Nat) : Int) - 1 - (j : Int) + 1) = ((ws.length : Nat) : Int) := V.int.inj (of_decide_eq_true z)
            omega))]
          rfl
      have hr9 := sb _ _ hr8
      have hD9 := sb _ _ hD8
      have hus9 := hus8.mono (TK.of sb)
      generalize upd H8 b (.lst [.str ",", .str ""]) = H9 at sb s9 hr9 hD9 hus9
      refine ⟨_, rfl, .inl ⟨rfl, _, SqL.of hD9⟩, _, rfl, a, _, _, _, rfl, rfl, SqT.of (s9 _ _ h1), rfl, _, rfl, l, _, _, xj, rfl, rfl, SqL.of (s9 _ _ h2), hat, _, rfl, _, _, rfl, rfl, _, rfl, (by show 4 ≤ sizeLine; decide), fun pj hpj => ?_⟩
      have sj := same_new hpj (.tup [xj, .int ((i1 : Int) + 2), .str "", .str (if ps.length - 1 - j + 1 = ps.length then "" else ",")])
      have hDj := sj _ _ hD9
      have hpjD : pj ≠ D := fun z => by rw [z, hD9] at hpj; cases hpj
      refine ⟨D, _, _, rfl, rfl, hDj, lt_size (by simp; omega), ?_⟩
      refine ⟨same_upd (s9.trans sj) hHD _, by rw [upd_ne hrD]; exact sj _ _ hr9, ⟨pvs ++ [.ref pj], by rw [upd_same, List.append_assoc], ?_, by simp; omega⟩, _, _, rfl⟩
      have ed : ((Ly.partsI ps (i1 + 2)).drop (ps.length - (j + 1))).reverse = ((Ly.partsI ps (i1 + 2)).drop (ps.length - j)).reverse ++ [⟨tj, i1 + 2, "", if ps.length - 1 - j + 1 = ps.length then "" else ","⟩] := by
        have hlt : ps.length - 1 - j < (Ly.partsI ps (i1 + 2)).length := by rw [Ly.partsI_len]; omega
        rw [show ps.length - (j + 1) = ps.length - 1 - j by omega, List.drop_eq_getElem_cons hlt, (List.getElem?_eq_some_iff.mp hit').2, List.reverse_cons, show ps.length - 1 - j + 1 = ps.length - j by omega]
      rw [ed, ← List.append_assoc, ← List.append_assoc]
      exact ItemsAt.snoc ⟨pj, xj, rfl, by rw [upd_ne hpjD, upd_same]; rfl, hrj⟩ (hus9.mono (TK.trans (TK.of sj) (TK.lst hDj _)))
    · rintro σ H8 ⟨s8, hr8, ⟨pvs, hD8, hus8, hpv⟩, y14, y15, rfl⟩
      rw [← hpl, Nat.sub_self, List.drop_zero] at hus8
      refine ⟨_, rfl, _, _, rfl, rfl, fin (done ++ [Ly.pad i1 ++ lead ++ hd' ++ "("]) (rest ++ [Ly.lastI (Ly.pad i1 ++ ")" ++ tail)] ++ (Ly.partsI ps (i1 + 2)).reverse) (us ++ [.ref pl] ++ pvs) H8 _ _ _ _ _ _ _ _ _ _ s8 hr8 hD8 hus8 ?_ ?_ ?_ ?_ ?_ ?_⟩
      · intro more hm'
        rw [List.reverse_append, List.reverse_reverse, List.reverse_append, List.reverse_singleton, List.singleton_append] at hm'
        obtain ⟨rows', more', rfl, q1, q2⟩ := Ly.anyI_parts ps (i1 + 2) hm'
        cases q2 with
        | @cons _ _ rl more'' b1 b2 =>
          have e := Ly.any_word b1
          dsimp only [Ly.lastI] at e
          rw [Ly.last_row] at e
          have := hany _ (.cons (.bundle (h := hd') (lead := lead) (tail := tail) hne q1) b2)
          rw [e]
          simpa using this
      · intro z
        have q1 := hrule z
        rw [Ly.layI] at q1
        dsimp only at q1
        have ht : isTag (T.bundle hd' ps) = false := rfl
        rw [hc0 z, rule_unb ht] at hub'
        rw [Ly.lay, if_neg (fun y => hub' (by
          rw [Bool.or_eq_true]
          exact y.imp (fun e => List.isEmpty_iff.mpr e) decide_eq_true))] at q1
        rw [List.reverse_append, List.reverse_reverse, List.reverse_append, List.reverse_singleton, List.singleton_append, Ly.layI_app, Ly.layI_parts, Ly.layI]
        dsimp only [Ly.lastI]
        rw [Ly.lay, Ly.last_row]
        simpa using q1
      · intro z
        have q1 := hfull z
        rw [Ly.fullI] at q1
        dsimp only at q1
        rw [Ly.full, if_neg hne] at q1
        rw [List.reverse_append, List.reverse_reverse, List.reverse_append, List.reverse_singleton, List.singleton_append, Ly.fullI_app, Ly.fullI_parts, Ly.fullI]
        dsimp only [Ly.lastI]
        rw [Ly.full, Ly.last_row]
        simpa using q1
      · intro y hy
        rcases List.mem_append.mp hy with hy | hy
        · rcases List.mem_append.mp hy with hy | hy
          · exact hlenr y hy
          · have e : y = Ly.lastI (Ly.pad i1 ++ ")" ++ tail) := by simpa using hy
            subst e
            dsimp only [Ly.lastI]
            rw [Ly.last_row, Th.size, len_app, len_app, Ly.pad_len, e2]
            exact ⟨by omega, by omega⟩
        · have hy' := List.mem_reverse.mp hy
          have p1 := Ly.parts_flat ps (i1 + 2) y hy'
          have p2 := Ly.parts_size ps (i1 + 2) y hy'
          exact ⟨by omega, by omega⟩
      · have ec : Ly.capI (Ly.partsI ps (i1 + 2)).reverse = Ly.caps ps := by
          have rev : ∀ l : List Ly.It, Ly.capI l.reverse = Ly.capI l := by
            intro l
            induction l with
            | nil => rfl
            | cons x l ih => rw [List.reverse_cons, Ly.capI_app, ih, Ly.capI, Ly.capI, Ly.capI]; omega
          rw [rev, Ly.capI_parts]
        rw [Ly.capI_app, Ly.capI_app, ec, Ly.capI, Ly.capI, List.length_append, List.length_singleton]
        dsimp only [Ly.lastI]
        rw [Ly.cap]
        omega
      · have ec : Ly.wtI (Ly.partsI ps (i1 + 2)).reverse = Ly.wts ps := by
          have rev : ∀ l : List Ly.It, Ly.wtI l.reverse = Ly.wtI l := by
            intro l
            induction l with
            | nil => rfl
            | cons x l ih => rw [List.reverse_cons, Ly.wtI_app, ih, Ly.wtI, Ly.wtI, Ly.wtI]; omega
          rw [rev, Ly.wtI_parts]
        rw [hwr, Ly.wtI_app, Ly.wtI_app, ec, Ly.wtI, Ly.wtI, Ly.wt]
        dsimp only [Ly.lastI]
        rw [Ly.wt]
        omega
end

/-! ### _law_longest -/
section
variable {P : Program} {w : World} {K : PySem.W.Frag} {mg : Str → Option Value} {base : Heap}
def spLongest (K : PySem.W.Frag) : Sp := fun vs H Q _ => ∃ (a : Addr) (rows : List Str), vs = [.ref a] ∧ SqL K H a (rows.map V.str) ∧ rows ≠ [] ∧ rows.length ≤ 1000000 ∧ (∀ x ∈ rows, x.length ≤ 10000000) ∧ ∀ H', Same H H' → Q (.int (Ly.longest rows)) H'
theorem ok_longest {n : Nat} {f : Addr} {fd : FuncData} (T : At K mg "_law_longest" s__law_longest ["_law_rows"] f fd) (B : Bn mg) : FnOk P w K mg base CX0 (n + 1) f fd ["_law_rows"] (spLongest K) := by
  have sc := sc__law_longest
  refine T.F.ok sc (fun vs H Q E h => ?_) (fun cdv A outer s H vs Q E hr h => ?_)
  · obtain ⟨a, rows, rfl, _⟩ := h; rfl
  obtain ⟨a, rows, rfl, hS, hne, hl, hz, q⟩ := h
  have m_len := B.len
  have m_max := B.max
  refine ⟨_, ((pss_one (ps_ret (pe_callB (call_max_list rfl) rfl m_max boot_max' (pa_cons (pe_comp rfl (pi_list (pv 0)) (CompOk.none (by decide +kernel) (by decide +kernel) rfl (by decide +kernel) (by decide +kernel)) (fun _ _ _ => (pe_callB call_len_str rfl m_len PySem.boot_len (pa_cons (pv 0) pa_nil)))) pa_nil))))), ?_⟩
  refine ⟨_, rfl, a, rfl, ⟨_, hS⟩, fun D hD => ?_⟩
  refine comp_list (fun i => V.int ((rows.getD i "").length : Int)) hS hD (by rw [List.length_map]; exact le_size (by omega)) ?_ ?_
  · intro i x H' R hx _ k
    rw [List.getElem?_map] at hx
    cases e : rows[i]? with
    | none => rw [e] at hx; cases hx
    | some y =>
      rw [e] at hx
      have ex : V.str y = x := Option.some.inj hx
      subst ex
      have := k H' (Same.refl H')
      rw [List.getD_eq_getElem?_getD, e] at this
      exact ⟨_, rfl, y, rfl, le_size (by have := hz y (List.mem_of_getElem? e); omega), this⟩
  · intro H' s1 hD'
    have em : (List.range (rows.map V.str).length).map (fun i => V.int ((rows.getD i "").length : Int)) = (rows.map fun x => (x.length : Int)).map V.int := by
      rw [List.length_map, List.map_map]
      exact range_map rows _ _ fun i x e => by rw [List.getD_eq_getElem?_getD, e]; rfl
    rw [em] at hD'
    refine ⟨D, rows.map fun x => (x.length : Int), rfl, SqL.of hD', by simpa using hne, fun M hM hall => ?_⟩
    have e : M = (Ly.longest rows : Int) := Ly.longest_is (by
      obtain ⟨x, hx, e⟩ := List.mem_map.mp hM
      exact ⟨x, hx, e.symm⟩) fun x hx => hall _ (List.mem_map.mpr ⟨x, hx, rfl⟩)
    rw [e]
    exact q H' s1
end

/-! ### slices, items -/
theorem cut_all {xs : List V} (h : xs.length ≤ 500) : cutV xs none (some 500) = xs := by
  unfold cutV
  have e : HT.sIx xs.length xs.length (some 500) = xs.length := by
    have := HT.sIx_nat xs.length xs.length 500
    rw [show ((500 : Nat) : Int) = 500 from rfl] at this
    rw [this]
    omega
  show (xs.drop (HT.sIx xs.length 0 none)).take (HT.sIx xs.length xs.length (some 500) - HT.sIx xs.length 0 none) = xs
  rw [e, HT.sIx_none]
  simp
/-! ### _law_mixed -/
def mixAt (ns : List Int) (k : Nat) : Int := (ns.getD k 0 + 7919 * (0 + (k : Int))) * 48271 % 1000003
def mixM (ns : List Int) : List Int := (List.range ns.length).map (mixAt ns)
def spMixed (K : PySem.W.Frag) : Sp := fun vs H Q _ => ∃ (a : Addr) (ns : List Int), vs = [.ref a] ∧ SqL K H a (ns.map V.int) ∧ ns.length ≤ 1000 ∧ ∀ (p : Addr) (H' : Hp), Same H H' → H' p = some (.lst ((mixM ns).map V.int)) → Q (.ref p) H'
section
variable {P : Program} {w : World} {K : PySem.W.Frag} {mg : Str → Option Value} {base : Heap}
theorem ok_mixed {n : Nat} {f : Addr} {fd : FuncData} (T : At K mg "_law_mixed" s__law_mixed ["_law_script"] f fd) (B : Bn mg) : FnOk P w K mg base CX0 (n + 1) f fd ["_law_script"] (spMixed K) := by
  have sc := sc__law_mixed
  refine T.F.ok sc (fun vs H Q E h => ?_) (fun cdv A outer s H vs Q E hr h => ?_)
  · obtain ⟨a, ns, rfl, _⟩ := h; rfl
  obtain ⟨a, ns, rfl, hS, hl, q⟩ := h
  have m_len := B.len
  have m_range := B.range
  refine ⟨_, ((pss_one (ps_ret (pe_comp rfl (pi_range1 rfl m_range (pa_cons (pe_callB call_len_seq rfl m_len PySem.boot_len (pa_cons (pv 0) pa_nil)) pa_nil)) (CompOk.of (cl := [("_law_script", s.heap.objs.size + 1)]) (fr := [("_law_script", 0)]) rfl (by decide +kernel) rfl (by decide +kernel) (by decide +kernel) (fun _ _ h => h) (fun p hp e => ⟨_, by rw [(by decide +kernel : ∀ p ∈ _, p.2 = NameKind.free → p.1 = ("_law_script" : Str)) p hp e]; rfl⟩) (fun p hp => by cases List.mem_singleton.mp hp; exact ⟨rfl, rfl, Or.inl rfl⟩) (by decide +kernel)) (fun _ _ _ => (pe_op op_mod (pe_op op_mul (pe_op op_add (pe_ix (ix_listK (K := K) rfl) (pv 1) (pv 0) (fun _ _ => rfl)) (pe_op op_mul pe_int (pv 0))) pe_int) pe_int)))))), ?_⟩
  refine ⟨_, rfl, a, _, rfl, .inl hS, _, rfl, by rw [List.length_map]; omega, by rw [List.length_map]; omega, fun D hD => ?_⟩
  have el : (((ns.map V.int).length : Nat) : Int).toNat = ns.length := by rw [List.length_map]; omega
  rw [el]
  refine comp_range (fun i => V.int (mixAt ns i)) hD (le_size (by omega)) ?_ ?_
  · intro i H' R hi s1 k
    have hx : atI (ns.map V.int) (0 + (i : Int)) = some (.int (ns.getD i 0)) := by
      rw [Int.zero_add]
      refine atI_nat ?_
      rw [List.getElem?_map, List.getElem?_eq_getElem hi, List.getD_eq_getElem?_getD, List.getElem?_eq_getElem hi]
      rfl
    refine ⟨_, rfl, _, rfl, a, _, _, _, rfl, rfl, s1.seq hS, hx, _, rfl, _, _, rfl, rfl, .inl ⟨by decide, by decide⟩, _, _, rfl, rfl, _, _, rfl, rfl, .inr ⟨by decide, by decide⟩, _, _, rfl, rfl, (by show (0 : Int) < 1000003; decide), ?_⟩
    exact k H' (Same.refl H')
  · intro H' s1 hD'
    refine q D H' s1 ?_
    rw [hD', mixM, List.map_map]
    rfl
end

/-! ### law -/
section
open Rp
open Th (T)
variable {P : Program} {w : World} {K : PySem.W.Frag} {mg : Str → Option Value} {base : Heap}
def spLaw (K : PySem.W.Frag) : Sp := fun vs H Q _ => ∃ (a : Addr) (ns : List Int), vs = [.ref a] ∧ SqL K H a (ns.map V.int) ∧ ns.length ≤ 63 ∧ ∀ H', Q (.bl true) H'
theorem cut_two (xs : List V) (i j : Nat) (h : i ≤ j) : cutV xs (some (i : Int)) (some (j : Int)) = (xs.drop i).take (j - i) := by
  unfold cutV
  rw [HT.sIx_nat, HT.sIx_nat]
  by_cases h1 : j ≤ xs.length
  · rw [Nat.min_eq_left h1, Nat.min_eq_left (Nat.le_trans h h1)]
  · by_cases h2 : i ≤ xs.length
    · rw [Nat.min_eq_left h2, Nat.min_eq_right (by omega), List.take_of_length_le (by simp), List.take_of_length_le (by rw [List.length_drop]; omega)]
    · rw [Nat.min_eq_right (by omega), Nat.min_eq_right (by omega), List.drop_length, List.drop_eq_nil_of_le (by omega)]
      simp
theorem law_core {f1 f2 f3 f4 f5 f6 f7 f8 f9 f10 f11 f12 f13 f14 f15 f16 f17 f18 f19 f20 f21 f22 f23 f24 : Addr} {d1 d2 d3 d4 d5 d6 d7 d8 d9 d10 d11 d12 d13 d14 d15 d16 d17 d18 d19 d20 d21 d22 d23 d24 : FuncData} (B : Bn mg) (m_enumerate : mg "enumerate" = none) (m_ValueError : mg "ValueError" = none) {tk_STEP : Tok} (g_STEP : mg "STEP" = some (.int 2 tk_STEP)) {c_FoldError c_NoThing c_NoHeight : Addr} (g_FoldError : mg "FoldError" = some (.ref c_FoldError)) (g_NoThing : mg "NoThing" = some (.ref c_NoThing)) (g_NoHeight : mg "NoHeight" = some (.ref c_NoHeight)) (XF : ExKnown K c_NoHeight c_FoldError c_NoThing c_NoHeight false true)
    (T1 : At K mg "flat" s_flat ["thing"] f1 d1) (T2 : At K mg "flat_size" s_flat_size ["thing"] f2 d2) (T3 : At K mg "filled" s_filled ["words", "room"] f3 d3) (T4 : At K mg "laid" s_laid ["thing", "width"] f4 d4) (T5 : At K mg "rows_of_thing" s_rows_of_thing ["thing", "width", "indent", "lead", "tail"] f5 d5) (T6 : At K mg "can_be_broken" s_can_be_broken ["thing"] f6 d6) (T7 : At K mg "rows_of_parts" s_rows_of_parts ["parts", "width", "indent"] f7 d7) (T8 : At K mg "rows_of_words" s_rows_of_words ["words", "width", "indent"] f8 d8) (T9 : At K mg "narrowest" s_narrowest ["thing", "most"] f9 d9) (T10 : At K mg "will_do" s_will_do ["thing", "width", "most"] f10 d10) (T11 : At K mg "_law_whole" s__law_whole ["_law_found"] f11 d11) (T12 : At K mg "_law_at" s__law_at ["_law_script", "_law_k"] f12 d12) (T13 : At K mg "_law_word_by" s__law_word_by ["_law_salt"] f13 d13) (T14 : At K mg "_law_tags" s__law_tags ["_law_thing"] f14 d14) (T15 : At K mg "_law_step" s__law_step ["_law_frames", "_law_way", "_law_salt"] f15 d15) (T16 : At K mg "_law_grown" s__law_grown ["_law_cells"] f16 d16) (T17 : At K mg "_law_flat_line" s__law_flat_line ["_law_thing"] f17 d17) (T18 : At K mg "_law_unbroken" s__law_unbroken ["_law_one", "_law_wide", "_law_width", "_law_cell"] f18 d18) (T19 : At K mg "_law_word_rows" s__law_word_rows ["_law_words", "_law_room", "_law_cell"] f19 d19) (T20 : At K mg "_law_other_rows" s__law_other_rows ["_law_thing", "_law_width", "_law_cells"] f20 d20) (T21 : At K mg "_law_longest" s__law_longest ["_law_rows"] f21 d21) (T22 : At K mg "_law_mixed" s__law_mixed ["_law_script"] f22 d22) (T23 : At K mg "_law_refuses" s__law_refuses ["_law_thing", "_law_most"] f23 d23) (T24 : At K mg "law" s_law ["_law_script"] f24 d24) (GN : FnOk P w K mg base (CXN P w (.ref c_NoHeight)) 199 f9 d9 ["thing", "most"] (spNarrowX 80)) : FnOk P w K mg base CX0 201 f24 d24 ["_law_script"] (spLaw K) := by
  have sc := sc_law
  refine T24.F.ok sc (fun vs H Q E h => ?_) (fun cdv A outer s H vs Q E hr h => ?_)
  · obtain ⟨a, ns, rfl, _⟩ := h; rfl
  obtain ⟨a, ns, rfl, hS, h63, q⟩ := h
  have hu := Nat.lt_of_succ_lt (hu_of hr)
  have m_len := B.len
  have m_max := B.max
  have G_narrowest := GN.mono (show 199 ≤ 200 by decide)
  have G__law_refuses : FnOk P w K mg base CX0 200 f23 d23 _ _ := ok_refuses T23 T9 B m_ValueError g_FoldError g_NoThing g_NoHeight XF GN
  have G__law_whole : FnOk P w K mg base CX0 200 f11 d11 _ _ := ok_whole T11 B
  have G__law_at : FnOk P w K mg base CX0 200 f12 d12 _ _ := ok_at T12 B
  have G__law_grown : FnOk P w K mg base CX0 200 f16 d16 _ _ := ok_grown (n := 197) T16 T15 T13 T14 B
  have G__law_other_rows : FnOk P w K mg base CX0 200 f20 d20 _ _ := ok_other (n := 198) T20 T17 T18 T19 B
  have G__law_longest : FnOk P w K mg base CX0 200 f21 d21 _ _ := ok_longest T21 B
  have G__law_mixed : FnOk P w K mg base CX0 200 f22 d22 _ _ := ok_mixed T22 B
  have m_narrowest := T9.m
  have k_narrowest := T9.F.kp
  have b_narrowest := T9.b
  have m__law_refuses := T23.m
  have k__law_refuses := T23.F.kp
  have b__law_refuses := T23.b
  have m__law_whole := T11.m
  have k__law_whole := T11.F.kp
  have b__law_whole := T11.b
  have m__law_at := T12.m
  have k__law_at := T12.F.kp
  have b__law_at := T12.b
  have m__law_grown := T16.m
  have k__law_grown := T16.F.kp
  have b__law_grown := T16.b
  have m__law_other_rows := T20.m
  have k__law_other_rows := T20.F.kp
  have b__law_other_rows := T20.b
  have m__law_longest := T21.m
  have k__law_longest := T21.F.kp
  have b__law_longest := T21.b
  have m__law_mixed := T22.m
  have k__law_mixed := T22.F.kp
  have b__law_mixed := T22.b
  have xk_NoHeight := XF.self
  have xb_NoHeight := XF.x.sb
  -- the last two rows
  have rest18 : ∃ tr, PSs (cxOf CX0 P w K mg base ["_law_script", "_law_thing", "_law_least", "_law_most", "_law_found", "_law_refused", "_law_rows", "_law_less", "_law_cells", "_law_others"] "law" (defScope s_law) f24 cdv A outer s H E).nox (List.drop 18 (defBody s_law)) tr ∧ ∀ (p : Addr) (ms : List Int) (t : T) (v vl vr vz : V) (F : Nat) (most : Int) (c : Addr) (cs : List Int) (H3 : Hp), H3 p = some (.lst (ms.map V.int)) → Rep H3 t v → H3 c = some (.lst (cs.map V.int)) → cs ≠ [] → Th.size t ≤ 30000 →
      (∀ U : Int, 0 ≤ U → U < (F : Int) → ¬ Ly.Do t most U) → tr { nx := fun _ H' => Q .non H', rt := Q } [some (.ref p), some v, some vl, some (.int most), some (.int (F : Int)), some (.bl false), some vr, some vz, some (.ref c), none] H3 := by
    refine ⟨_, ((pss_cons (ps_set (i := 9) sc.nd rfl (Or.inl rfl) (pe_call G__law_other_rows hr rfl m__law_other_rows k__law_other_rows b__law_other_rows .nil pass0 (pa_cons (pv 1) (pa_cons (pe_callB (call_max2 rfl) rfl m_max boot_max' (pa_cons pe_int (pa_cons (pe_op op_sub (pe_op op_sub (pv 4) pe_int) (pe_op op_mod (pe_call G__law_at hr rfl m__law_at k__law_at b__law_at .nil pass0 (pa_cons (pv 0) (pa_cons pe_int pa_nil))) pe_int)) pa_nil))) (pa_cons (pv 8) pa_nil)))))
    (pss_one (ps_ret (pe_or (pe_cmpR op_gt (pe_callB call_len_seq rfl m_len PySem.boot_len (pa_cons (pv 9) pa_nil)) (pv 3) (nomark _)) (pe_one (pe_cmpR op_ge (pe_call G__law_longest hr rfl m__law_longest k__law_longest b__law_longest .nil pass0 (pa_cons (pv 9) pa_nil)) (pv 4) (nomark _)))))))), fun p ms t v vl vr vz F most c cs H3 e3 R hc hcs hz hno => ?_⟩
    refine ⟨_, rfl, _, rfl, _, _, rfl, rfl, _, rfl, p, ms, 1, rfl, SqL.of e3, _, _, rfl, rfl, (by show (0 : Int) < 4; decide), _, _, rfl, rfl, _, _, rfl, _, rfl, t, v, _, c, cs, rfl, R, SqL.of hc, hcs, by omega, fun r8 H4 rows _ s4 hr4 a4 _ _ _ => ?_⟩
    obtain ⟨bo1, bo2, bo3⟩ := any_bounds a4 hz
    refine ⟨_, rfl, r8, _, rfl, .inl (SqL.of hr4), _, rfl, _, _, rfl, rfl, _, rfl, ?_⟩
    refine ite2 (fun c => ?_) (fun c => ?_)
    · exact q _
    · have c' : ¬ most < (((rows.map V.str).length : Nat) : Int) := of_decide_eq_false (Bool.eq_false_iff.mpr c)
      rw [List.length_map] at c'
      refine ⟨_, rfl, r8, rows, rfl, SqL.of hr4, bo1, bo2, bo3, fun H5 _ => ⟨_, rfl, _, _, rfl, rfl, ?_⟩⟩
      have hge : (F : Int) ≤ (Ly.longest rows : Int) := by
        apply Int.not_lt.mp
        intro hlt
        have b := Ly.best (Ly.longest rows : Int) a4 (Ly.fits_of (Int.le_refl _))
        refine hno (Ly.longest rows : Int) (Int.natCast_nonneg _) hlt ⟨?_, Ly.of_fits (Ly.lays_pos _ t 0 "" "") b.1⟩
        have b2 := b.2
        show ((Ly.lay _ t 0 "" "").length : Int) ≤ most
        omega
      have q' := q H5
      rw [← decide_eq_true hge] at q'
      exact q'
  obtain ⟨tr18, t18, hq18⟩ := rest18
  have rest16 : ∃ tr, PSs (cxOf CX0 P w K mg base ["_law_script", "_law_thing", "_law_least", "_law_most", "_law_found", "_law_refused", "_law_rows", "_law_less", "_law_cells", "_law_others"] "law" (defScope s_law) f24 cdv A outer s H E).nox (List.drop 16 (defBody s_law)) tr ∧ ∀ (p : Addr) (ms : List Int) (t : T) (v vl vr vz : V) (F : Nat) (most : Int) (H3 : Hp), H3 p = some (.lst (ms.map V.int)) → Rep H3 t v → ms.length ≤ 63 → Th.size t ≤ 30000 →
      (∀ U : Int, 0 ≤ U → U < (F : Int) → ¬ Ly.Do t most U) → tr { nx := fun _ H' => Q .non H', rt := Q } [some (.ref p), some v, some vl, some (.int most), some (.int (F : Int)), some (.bl false), some vr, some vz, none, none] H3 := by
    refine ⟨_, ((pss_cons (ps_set (i := 8) sc.nd rfl (Or.inl rfl) (pe_lst (pa_cons pe_int pa_nil)))
    (pss_cons (ps_if (pt_cmpR op_ne (pe_op op_mod (pe_call G__law_at hr rfl m__law_at k__law_at b__law_at .nil pass0 (pa_cons (pv 0) (pa_cons pe_int pa_nil))) pe_int) pe_int (nomark _))
      (pss_one (ps_setcomp (j := 8) rfl sc.nd rfl (Or.inl rfl) (pi_list (pv 0)) (CompOk.of (cl := [("_law_script", s.heap.objs.size + 1)]) (fr := [("_law_script", 0)]) rfl (by decide +kernel) rfl (by decide +kernel) (by decide +kernel) (fun _ _ h => h) (fun p hp e => ⟨_, by rw [(by decide +kernel : ∀ p ∈ _, p.2 = NameKind.free → p.1 = ("_law_script" : Str)) p hp e]; rfl⟩) (fun p hp => by cases List.mem_singleton.mp hp; exact ⟨rfl, rfl, Or.inl rfl⟩) (by decide +kernel)) (fun _ _ _ => (pe_op op_add (pe_op op_fdiv (pe_call G__law_at hr rfl m__law_at k__law_at b__law_at .nil pass0 (pa_cons (pv 1) (pa_cons pe_int pa_nil))) pe_int) (pe_op op_mul pe_int (pv 0)))) rfl))
      pss_nil)
    t18))), fun p ms t v vl vr vz F most H3 e3 R hml hz hno => ?_⟩
    refine ⟨(by show 1 ≤ sizeLine; decide), fun c5 hc5 => ?_⟩
    have s5 := same_new hc5 (.lst [V.int 0])
    have e5 := s5 _ _ e3
    have R5 := Rep.mono s5 _ _ R
    have ec5 : (upd H3 c5 (.lst [V.int 0])) c5 = some (.lst ([0].map V.int)) := upd_same
    refine ⟨_, rfl, p, ms, 1, rfl, SqL.of e5, _, _, rfl, rfl, (by show (0 : Int) < 3; decide), rfl, _, rfl, ?_⟩
    refine ite2 (fun c => ?_) (fun _ => ?_)
    · refine ⟨_, rfl, p, rfl, ⟨_, SqL.of e5⟩, fun D hD => ?_⟩
      have hne : ms ≠ [] := by
        intro z
        rw [z] at c
        exact absurd c (by decide)
      refine comp_list (fun i => V.int (ms.getD 1 0 / 3 + 3 * ms.getD i 0)) (SqL.of e5) hD (by rw [List.length_map]; exact le_size (by omega)) ?_ ?_
      · intro i x H' R hx s' k
        rw [List.getElem?_map] at hx
        cases e : ms[i]? with
        | none => rw [e] at hx; cases hx
        | some y =>
          rw [e] at hx
          have ex : V.int y = x := Option.some.inj hx
          subst ex
          have k' := k H' (Same.refl H')
          rw [List.getD_eq_getElem?_getD (i := i), e] at k'
          exact ⟨_, rfl, p, ms, 1, rfl, SqL.of (s' _ _ e5), _, _, rfl, rfl, ⟨by decide, by decide⟩, _, rfl, _, _, rfl, rfl, .inl ⟨by decide, by decide⟩, _, _, rfl, rfl, k'⟩
      · intro H' s' hD'
        refine hq18 p ms t v vl vr vz F most D ((List.range ms.length).map fun i => ms.getD 1 0 / 3 + 3 * ms.getD i 0) H' (s' _ _ e5) (Rep.mono s' _ _ R5) ?_ ?_ hz hno
        · rw [hD', List.length_map, List.map_map]
          rfl
        · cases ms with
          | nil => exact absurd rfl hne
          | cons y l => simp
    · exact hq18 p ms t v vl vr vz F most c5 [0] _ e5 R5 ec5 (by simp) hz hno
  obtain ⟨tr16, t16, hq16⟩ := rest16
  have rest6 : ∃ tr, PSs (cxOf CX0 P w K mg base ["_law_script", "_law_thing", "_law_least", "_law_most", "_law_found", "_law_refused", "_law_rows", "_law_less", "_law_cells", "_law_others"] "law" (defScope s_law) f24 cdv A outer s H E).nox (List.drop 6 (defBody s_law)) tr ∧ ∀ (p : Addr) (ms : List Int) (t : T) (v : V) (most : Int) (H3 : Hp), H3 p = some (.lst (ms.map V.int)) → Rep H3 t v → ms.length ≤ 63 → Th.grown wordBy ((ms.drop 2).take 30) = t → Th.deep t < 80 → Th.size t ≤ 30000 →
      (most = -1 ∨ most = 0 ∨ 1 ≤ most) → tr { nx := fun _ H' => Q .non H', rt := Q } [some (.ref p), some v, some (.int (Ly.leastW t : Int)), some (.int most), none, none, none, none, none, none] H3 := by
    refine ⟨_, ((pss_cons (ps_set (i := 4) sc.nd rfl (Or.inl rfl) pe_non)
    (pss_cons (ps_set (i := 5) sc.nd rfl (Or.inl rfl) pe_bl)
    (pss_cons (ps_tryS (i := 4) sc.nd rfl (Or.inl rfl) G_narrowest hr rfl m_narrowest k_narrowest b_narrowest (pa_cons (pe_call G__law_grown hr rfl m__law_grown k__law_grown b__law_grown .nil pass0 (pa_cons (pe_slice sl_list (pv 0) (po_some pe_int) (po_some pe_int)) pa_nil)) (pa_cons (pv 3) pa_nil))
      (lands rfl rfl rfl g_NoHeight xk_NoHeight xb_NoHeight (fun _ _ _ => (pss_one (ps_set (i := 5) sc.nd rfl (Or.inl rfl) pe_bl)))))
    (pss_cons (ps_if (PW.pt (pw_and (pt_val (pv 5)) (pw_and1 (pt_not (pt_val (pe_call G__law_refuses hr rfl m__law_refuses k__law_refuses b__law_refuses .nil pass0 (pa_cons (pv 1) (pa_cons (pv 3) pa_nil))))))))
      (pss_one (ps_ret pe_bl))
      pss_nil)
    (pss_cons (ps_if (PW.pt (pw_or (pt_val (pv 5)) (pw_or1 (pt_cmpR op_lt (pv 3) pe_int (nomark _)))))
      (pss_one (ps_ret (pe_and (pv 5) (pe_one (pe_cmpR op_lt (pv 3) pe_int (nomark _))))))
      pss_nil)
    (pss_cons (ps_if (PW.pt (pw_or (pt_not (pt_val (pe_call G__law_whole hr rfl m__law_whole k__law_whole b__law_whole .nil pass0 (pa_cons (pv 4) pa_nil)))) (pw_or1 (pt_cmpR op_lt (pv 4) (pv 2) (nomark _)))))
      (pss_one (ps_ret pe_bl))
      pss_nil)
    (pss_cons (ps_set (i := 6) sc.nd rfl (Or.inl rfl) (pe_call G__law_other_rows hr rfl m__law_other_rows k__law_other_rows b__law_other_rows .nil pass0 (pa_cons (pv 1) (pa_cons (pv 4) (pa_cons (pe_lst (pa_cons pe_int pa_nil)) pa_nil)))))
    (pss_cons (ps_set (i := 7) sc.nd rfl (Or.inl rfl) (pe_call G__law_other_rows hr rfl m__law_other_rows k__law_other_rows b__law_other_rows .nil pass0 (pa_cons (pv 1) (pa_cons (pe_op op_sub (pv 4) pe_int) (pa_cons (pe_lst (pa_cons pe_int pa_nil)) pa_nil)))))
    (pss_cons (ps_if (PW.pt (pw_or (pt_cmpR op_gt (pe_callB call_len_seq rfl m_len PySem.boot_len (pa_cons (pv 6) pa_nil)) (pv 3) (nomark _)) (pw_or1 (pt_cmpR op_gt (pe_call G__law_longest hr rfl m__law_longest k__law_longest b__law_longest .nil pass0 (pa_cons (pv 6) pa_nil)) (pv 4) (nomark _)))))
      (pss_one (ps_ret pe_bl))
      pss_nil)
    (pss_cons (ps_if (PW.pt (pw_and (pt_cmpR op_le (pe_callB call_len_seq rfl m_len PySem.boot_len (pa_cons (pv 7) pa_nil)) (pv 3) (nomark _)) (pw_and1 (pt_cmpR op_lt (pe_call G__law_longest hr rfl m__law_longest k__law_longest b__law_longest .nil pass0 (pa_cons (pv 7) pa_nil)) (pv 4) (nomark _)))))
      (pss_one (ps_ret pe_bl))
      pss_nil)
    t16))))))))))), fun p ms t v most H3 e3 R hml ht hdp hz hmo => ?_⟩
    have ec : cutV (ms.map V.int) (some 2) (some 32) = ((ms.drop 2).take 30).map V.int := by
      rw [List.map_take, List.map_drop]
      exact cut_two _ 2 32 (by decide)
    have h62 : ((ms.drop 2).take 30).length ≤ 63 := by rw [List.length_take]; omega
    refine ⟨_, rfl, _, rfl, _, rfl, p, _, rfl, SqL.of e3, fun c1 hc1 => ⟨c1, (ms.drop 2).take 30, rfl, SqL.of (by rw [upd_same, ec]), h62, fun v1 H4 t4 r1 => ?_⟩⟩
    have s4 := (same_new hc1 _).trans t4
    have e4 := s4 _ _ e3
    rw [ht] at r1
    have R4 := Rep.mono s4 _ _ R
    refine ⟨_, rfl, t, v1, most, rfl, r1, hdp, hz, fun hm F H5 s5 hdo hno => ?_, fun hlt => ?_⟩
    · have e5 := s5 _ _ e4
      have R5 := Rep.mono s5 _ _ R4
      have al := Ly.lay_any (F : Int) t 0 "" ""
      have al1 := Ly.lay_any ((F : Int) - 1) t 0 "" ""
      obtain ⟨bm1, bm2, bm3⟩ := any_bounds al hz
      obtain ⟨bl1, bl2, bl3⟩ := any_bounds al1 hz
      have dl : ((Ly.lay (F : Int) t 0 "" "").length : Int) ≤ most := hdo.1
      have dw : (Ly.longest (Ly.lay (F : Int) t 0 "" "") : Int) ≤ (F : Int) := hdo.2
      have lw := Ly.leastW_le al
      refine ⟨_, rfl, _, rfl, iteF ?_⟩
      refine iteF ?_
      refine ⟨_, rfl, _, rfl, iteF ?_⟩
      refine ⟨_, rfl, _, _, rfl, rfl, _, rfl, ?_⟩
      refine ite2 (fun c => ?_) (fun _ => ?_)
      · exfalso
        have c' : most < 1 := of_decide_eq_true c
        omega
      refine ⟨_, rfl, _, rfl, _, rfl, ?_⟩
      refine iteF ?_
      refine ⟨_, rfl, _, rfl, _, _, rfl, rfl, _, rfl, ?_⟩
      refine ite2 (fun c => ?_) (fun _ => ?_)
      · exfalso
        have c' : (F : Int) < (Ly.leastW t : Int) := of_decide_eq_true c
        omega
      refine ⟨_, rfl, _, rfl, (by show 1 ≤ sizeLine; decide), fun c3 hc3 => ⟨t, v, (F : Int), c3, [0], rfl, Rep.mono (same_new hc3 _) _ _ R5, SqL.of upd_same, by simp, by omega, fun r3 H6 _ _ s6 hr6 _ u6 _ _ => ?_⟩⟩
      rw [u6 rfl] at hr6
      have s56 := (same_new hc3 _).trans s6
      have e6 := s56 _ _ e5
      have R6 := Rep.mono s56 _ _ R5
      refine ⟨_, rfl, _, rfl, _, _, rfl, rfl, (by show 1 ≤ sizeLine; decide), fun c4 hc4 => ⟨t, v, (F : Int) - 1, c4, [0], rfl, Rep.mono (same_new hc4 _) _ _ R6, SqL.of upd_same, by simp, by omega, fun r4 H7 _ _ s7 hr7 _ u7 _ _ => ?_⟩⟩
      rw [u7 rfl] at hr7
      have s67 := (same_new hc4 _).trans s7
      have e7 := s67 _ _ e6
      have R7 := Rep.mono s67 _ _ R6
      have hr67 := s67 _ _ hr6
      refine ⟨_, rfl, r3, _, rfl, .inl (SqL.of hr67), _, rfl, _, _, rfl, rfl, _, rfl, ?_⟩
      refine ite2 (fun c => ?_) (fun _ => ?_)
      · exfalso
        have c' : most < ((((Ly.lay (F : Int) t 0 "" "").map V.str).length : Nat) : Int) := of_decide_eq_true c
        rw [List.length_map] at c'
        omega
      refine ⟨_, rfl, r3, _, rfl, SqL.of hr67, bm1, bm2, bm3, fun H8 s8 => ⟨_, rfl, _, _, rfl, rfl, _, rfl, ?_⟩⟩
      refine ite2 (fun c => ?_) (fun _ => ?_)
      · exfalso
        have c' : (F : Int) < (Ly.longest (Ly.lay (F : Int) t 0 "" "") : Int) := of_decide_eq_true c
        omega
      have e8 := s8 _ _ e7
      have R8 := Rep.mono s8 _ _ R7
      have hr8 := s8 _ _ hr7
      refine ⟨_, rfl, r4, _, rfl, .inl (SqL.of hr8), _, rfl, _, _, rfl, rfl, _, rfl, ?_⟩
      refine ite2 (fun c => ?_) (fun _ => ?_)
      · have c1 : ((((Ly.lay ((F : Int) - 1) t 0 "" "").map V.str).length : Nat) : Int) ≤ most := of_decide_eq_true c
        rw [List.length_map] at c1
        refine ⟨_, rfl, r4, _, rfl, SqL.of hr8, bl1, bl2, bl3, fun H9 s9 => ⟨_, rfl, _, _, rfl, rfl, _, rfl, ?_⟩⟩
        refine ite2 (fun c => ?_) (fun _ => ?_)
        · exfalso
          have c' : (Ly.longest (Ly.lay ((F : Int) - 1) t 0 "" "") : Int) < (F : Int) := of_decide_eq_true c
          exact hno ((F : Int) - 1) (by omega) (by omega) ⟨c1, by show (Ly.longest (Ly.lay ((F : Int) - 1) t 0 "" "") : Int) ≤ (F : Int) - 1; omega⟩
        · exact hq16 p ms t v _ _ _ F most H9 (s9 _ _ e8) (Rep.mono s9 _ _ R8) hml hz hno
      · refine iteF ?_
        exact hq16 p ms t v _ _ _ F most H8 e8 R8 hml hz hno
    · have hlog : most.natAbs.log2 < 1920 := by
        rcases hmo with rfl | rfl | h
        · decide
        · decide
        · omega
      have hlen : (Str.ofString (toString most)).length ≤ 1000 := by
        rcases hmo with rfl | rfl | h
        · decide
        · decide
        · omega
      refine ⟨hlog, hlen, fun e H5 s5 => ?_⟩
      refine ⟨_, rfl, _, rfl, iteT ?_⟩
      refine ⟨_, rfl, _, rfl, t, v, most, rfl, hlt, hlog, hlen, Rep.mono s5 _ _ R4, hdp, hz, fun H6 => ⟨_, rfl, ?_⟩⟩
      refine iteF ?_
      refine ⟨_, rfl, _, rfl, iteT ?_⟩
      refine iteT ?_
      refine ⟨_, rfl, _, rfl, iteT ?_⟩
      refine ⟨_, rfl, _, _, rfl, rfl, ?_⟩
      have q' := q H6
      rw [← decide_eq_true hlt] at q'
      exact q'
  obtain ⟨tr6, t6, hq6⟩ := rest6
  refine ⟨_, ((pss_cons (ps_set (i := 0) sc.nd rfl (Or.inr rfl) (pe_slice sl_list (pv 0) po_none (po_some pe_int)))
    (pss_cons (ps_set (i := 0) sc.nd rfl (Or.inr rfl) (pe_call G__law_mixed hr rfl m__law_mixed k__law_mixed b__law_mixed .nil pass0 (pa_cons (pv 0) pa_nil)))
    (pss_cons (ps_set (i := 1) sc.nd rfl (Or.inl rfl) (pe_call G__law_grown hr rfl m__law_grown k__law_grown b__law_grown .nil pass0 (pa_cons (pe_slice sl_list (pv 0) (po_some pe_int) (po_some pe_int)) pa_nil)))
    (pss_cons (ps_set (i := 2) sc.nd rfl (Or.inl rfl) (pe_call G__law_longest hr rfl m__law_longest k__law_longest b__law_longest .nil pass0 (pa_cons (pe_call G__law_other_rows hr rfl m__law_other_rows k__law_other_rows b__law_other_rows .nil pass0 (pa_cons (pv 1) (pa_cons pe_int (pa_cons (pe_lst (pa_cons pe_int pa_nil)) pa_nil)))) pa_nil)))
    (pss_cons (ps_set (i := 3) sc.nd rfl (Or.inl rfl) (pe_op op_sub (pe_op op_mod (pe_call G__law_at hr rfl m__law_at k__law_at b__law_at .nil pass0 (pa_cons (pv 0) (pa_cons pe_int pa_nil))) pe_int) pe_int))
    (pss_cons (ps_if (pt_cmpR op_eq (pe_op op_mod (pe_op op_fdiv (pe_call G__law_at hr rfl m__law_at k__law_at b__law_at .nil pass0 (pa_cons (pv 0) (pa_cons pe_int pa_nil))) pe_int) pe_int) pe_int (nomark _))
      (pss_one (ps_set (i := 3) sc.nd rfl (Or.inl rfl) pe_int))
      pss_nil)
    t6))))))), ?_⟩
  refine ⟨_, rfl, _, rfl, a, _, rfl, hS, fun p1 hp1 => ?_⟩
  have e1 : (upd H p1 (.lst (cutV (ns.map V.int) none (some 500)))) p1 = some (.lst (ns.map V.int)) := by rw [upd_same, cut_all (by rw [List.length_map]; omega)]
  generalize upd H p1 (.lst (cutV (ns.map V.int) none (some 500))) = H1 at e1
  refine ⟨_, rfl, p1, ns, rfl, SqL.of e1, by omega, fun p H2 s2 e2 => ?_⟩
  have hml : (mixM ns).length ≤ 63 := by rw [mixM, List.length_map, List.length_range]; exact h63
  generalize mixM ns = ms at e2 hml
  have ec : cutV (ms.map V.int) (some 2) (some 32) = ((ms.drop 2).take 30).map V.int := by
    rw [List.map_take, List.map_drop]
    exact cut_two _ 2 32 (by decide)
  have h62 : ((ms.drop 2).take 30).length ≤ 63 := by rw [List.length_take]; omega
  obtain ⟨hsz, hdp⟩ := Th.grown_ok wordBy wordBy_len ((ms.drop 2).take 30) h62
  refine ⟨_, rfl, _, rfl, _, rfl, p, _, rfl, SqL.of e2, fun c1 hc1 => ⟨c1, (ms.drop 2).take 30, rfl, SqL.of (by rw [upd_same, ec]), h62, fun v1 H3 t3 r1 => ?_⟩⟩
  have s3 := (same_new hc1 _).trans t3
  have e3 := s3 _ _ e2
  generalize ht : Th.grown wordBy ((ms.drop 2).take 30) = t at hsz hdp r1
  refine ⟨_, rfl, (by show 1 ≤ sizeLine; decide), fun c3 hc3 => ⟨t, v1, 0, c3, [3], rfl, Rep.mono (same_new hc3 _) _ _ r1, SqL.of upd_same, by simp, by omega, fun r3 H4 rows3 _ s4 hr4 a4 _ f4 _ => ?_⟩⟩
  obtain ⟨b1, b2, b3⟩ := any_bounds a4 (by omega)
  refine ⟨r3, _, rfl, SqL.of hr4, b1, b2, b3, fun H5 s5 => ?_⟩
  rw [f4 rfl]
  have s35 := ((same_new hc3 _).trans s4).trans s5
  have e5 := s35 _ _ e3
  have R5 := Rep.mono s35 _ _ r1
  refine ⟨_, rfl, p, ms, 0, rfl, SqL.of e5, _, _, rfl, rfl, (by show (0 : Int) < 24; decide), _, _, rfl, rfl, ?_⟩
  have hm0 : 0 ≤ ms.getD 0 0 % 24 := Int.emod_nonneg _ (by decide)
  refine ⟨_, rfl, p, ms, 0, rfl, SqL.of e5, _, _, rfl, rfl, ⟨by decide, by decide⟩, _, _, rfl, rfl, (by show (0 : Int) < 5; decide), rfl, _, rfl, ?_⟩
  refine ite2 (fun _ => ?_) (fun _ => ?_)
  · exact hq6 p ms t v1 1000000000000 H5 e5 R5 hml ht (by omega) (by omega) (.inr (.inr (by decide)))
  · exact hq6 p ms t v1 (ms.getD 0 0 % 24 - 1) H5 e5 R5 hml ht (by omega) (by omega) (by omega)
end

/-! ### all together -/
section
variable {P : Program} {w : World} {K : PySem.W.Frag} {mg : Str → Option Value} {base : Heap}
theorem law_all {f1 f2 f3 f4 f5 f6 f7 f8 f9 f10 f11 f12 f13 f14 f15 f16 f17 f18 f19 f20 f21 f22 f23 f24 : Addr} {d1 d2 d3 d4 d5 d6 d7 d8 d9 d10 d11 d12 d13 d14 d15 d16 d17 d18 d19 d20 d21 d22 d23 d24 : FuncData} (B : Bn mg) (m_enumerate : mg "enumerate" = none) (m_ValueError : mg "ValueError" = none) {tk_STEP : Tok} (g_STEP : mg "STEP" = some (.int 2 tk_STEP)) {c_FoldError c_NoThing c_NoHeight : Addr} (g_FoldError : mg "FoldError" = some (.ref c_FoldError)) (g_NoThing : mg "NoThing" = some (.ref c_NoThing)) (g_NoHeight : mg "NoHeight" = some (.ref c_NoHeight)) (XF : ExKnown K c_NoHeight c_FoldError c_NoThing c_NoHeight false true)
    (T1 : At K mg "flat" s_flat ["thing"] f1 d1) (T2 : At K mg "flat_size" s_flat_size ["thing"] f2 d2) (T3 : At K mg "filled" s_filled ["words", "room"] f3 d3) (T4 : At K mg "laid" s_laid ["thing", "width"] f4 d4) (T5 : At K mg "rows_of_thing" s_rows_of_thing ["thing", "width", "indent", "lead", "tail"] f5 d5) (T6 : At K mg "can_be_broken" s_can_be_broken ["thing"] f6 d6) (T7 : At K mg "rows_of_parts" s_rows_of_parts ["parts", "width", "indent"] f7 d7) (T8 : At K mg "rows_of_words" s_rows_of_words ["words", "width", "indent"] f8 d8) (T9 : At K mg "narrowest" s_narrowest ["thing", "most"] f9 d9) (T10 : At K mg "will_do" s_will_do ["thing", "width", "most"] f10 d10) (T11 : At K mg "_law_whole" s__law_whole ["_law_found"] f11 d11) (T12 : At K mg "_law_at" s__law_at ["_law_script", "_law_k"] f12 d12) (T13 : At K mg "_law_word_by" s__law_word_by ["_law_salt"] f13 d13) (T14 : At K mg "_law_tags" s__law_tags ["_law_thing"] f14 d14) (T15 : At K mg "_law_step" s__law_step ["_law_frames", "_law_way", "_law_salt"] f15 d15) (T16 : At K mg "_law_grown" s__law_grown ["_law_cells"] f16 d16) (T17 : At K mg "_law_flat_line" s__law_flat_line ["_law_thing"] f17 d17) (T18 : At K mg "_law_unbroken" s__law_unbroken ["_law_one", "_law_wide", "_law_width", "_law_cell"] f18 d18) (T19 : At K mg "_law_word_rows" s__law_word_rows ["_law_words", "_law_room", "_law_cell"] f19 d19) (T20 : At K mg "_law_other_rows" s__law_other_rows ["_law_thing", "_law_width", "_law_cells"] f20 d20) (T21 : At K mg "_law_longest" s__law_longest ["_law_rows"] f21 d21) (T22 : At K mg "_law_mixed" s__law_mixed ["_law_script"] f22 d22) (T23 : At K mg "_law_refuses" s__law_refuses ["_law_thing", "_law_most"] f23 d23) (T24 : At K mg "law" s_law ["_law_script"] f24 d24) :
    FnOk P w K mg base CX0 201 f24 d24 ["_law_script"] (spLaw K) := by
  have GL := (ok_laid (P := P) (w := w) (base := base) T4 T5 T1 T6 T7 T8 T3 B m_enumerate g_STEP 80)
  have GW := ok_will_do T10 T4 B GL
  have GN := (ok_narrowX T9 T10 T2 T1 B g_NoHeight XF.x (by decide) GW).mono (show _ ≤ 199 by decide)
  exact law_core B m_enumerate m_ValueError g_STEP g_FoldError g_NoThing g_NoHeight XF T1 T2 T3 T4 T5 T6 T7 T8 T9 T10 T11 T12 T13 T14 T15 T16 T17 T18 T19 T20 T21 T22 T23 T24 GN
end

theorem all_mk {l : PySem.W.OpenLaw} {w : World} {K : PySem.W.Frag} {h : Heap} {mg : Str → Option Value} {fa : Addr} (X : K.In h) (G : h.Ns mainGlobals mg) (hfa : mg "law" = some (.ref fa))
    {od1 an1 : Option Addr} {sl1 : Array (Option Value)} {oc1 kV1 dc1 pm1 cd1 ct1 : Value} {f1 : Addr} {od2 an2 : Option Addr} {sl2 : Array (Option Value)} {oc2 kV2 dc2 pm2 cd2 ct2 : Value} {f2 : Addr} {od3 an3 : Option Addr} {sl3 : Array (Option Value)} {oc3 kV3 dc3 pm3 cd3 ct3 : Value} {f3 : Addr} {od4 an4 : Option Addr} {sl4 : Array (Option Value)} {oc4 kV4 dc4 pm4 cd4 ct4 : Value} {f4 : Addr} {od5 an5 : Option Addr} {sl5 : Array (Option Value)} {oc5 kV5 dc5 pm5 cd5 ct5 : Value} {f5 : Addr} {od6 an6 : Option Addr} {sl6 : Array (Option Value)} {oc6 kV6 dc6 pm6 cd6 ct6 : Value} {f6 : Addr} {od7 an7 : Option Addr} {sl7 : Array (Option Value)} {oc7 kV7 dc7 pm7 cd7 ct7 : Value} {f7 : Addr} {od8 an8 : Option Addr} {sl8 : Array (Option Value)} {oc8 kV8 dc8 pm8 cd8 ct8 : Value} {f8 : Addr} {od9 an9 : Option Addr} {sl9 : Array (Option Value)} {oc9 kV9 dc9 pm9 cd9 ct9 : Value} {f9 : Addr} {od10 an10 : Option Addr} {sl10 : Array (Option Value)} {oc10 kV10 dc10 pm10 cd10 ct10 : Value} {f10 : Addr} {od11 an11 : Option Addr} {sl11 : Array (Option Value)} {oc11 kV11 dc11 pm11 cd11 ct11 : Value} {f11 : Addr} {od12 an12 : Option Addr} {sl12 : Array (Option Value)} {oc12 kV12 dc12 pm12 cd12 ct12 : Value} {f12 : Addr} {od13 an13 : Option Addr} {sl13 : Array (Option Value)} {oc13 kV13 dc13 pm13 cd13 ct13 : Value} {f13 : Addr} {od14 an14 : Option Addr} {sl14 : Array (Option Value)} {oc14 kV14 dc14 pm14 cd14 ct14 : Value} {f14 : Addr} {od15 an15 : Option Addr} {sl15 : Array (Option Value)} {oc15 kV15 dc15 pm15 cd15 ct15 : Value} {f15 : Addr} {od16 an16 : Option Addr} {sl16 : Array (Option Value)} {oc16 kV16 dc16 pm16 cd16 ct16 : Value} {f16 : Addr} {od17 an17 : Option Addr} {sl17 : Array (Option Value)} {oc17 kV17 dc17 pm17 cd17 ct17 : Value} {f17 : Addr} {od18 an18 : Option Addr} {sl18 : Array (Option Value)} {oc18 kV18 dc18 pm18 cd18 ct18 : Value} {f18 : Addr} {od19 an19 : Option Addr} {sl19 : Array (Option Value)} {oc19 kV19 dc19 pm19 cd19 ct19 : Value} {f19 : Addr} {od20 an20 : Option Addr} {sl20 : Array (Option Value)} {oc20 kV20 dc20 pm20 cd20 ct20 : Value} {f20 : Addr} {od21 an21 : Option Addr} {sl21 : Array (Option Value)} {oc21 kV21 dc21 pm21 cd21 ct21 : Value} {f21 : Addr} {od22 an22 : Option Addr} {sl22 : Array (Option Value)} {oc22 kV22 dc22 pm22 cd22 ct22 : Value} {f22 : Addr} {od23 an23 : Option Addr} {sl23 : Array (Option Value)} {oc23 kV23 dc23 pm23 cd23 ct23 : Value} {f23 : Addr} {od24 an24 : Option Addr} {sl24 : Array (Option Value)} {oc24 kV24 dc24 pm24 cd24 ct24 : Value} {f24 : Addr}
    (a1 : PySem.W.nsIn K mainGlobals "flat" = some (some (.ref f1))) (l1 : K.lookup f1 = some ⟨oc1, od1, .func (PySem.W.fnOf "flat" "flat" (defArgs s_flat) (defBody s_flat) (defScope s_flat) .none kV1 dc1 pm1 an1 cd1 ct1), sl1⟩) (c1 : PySem.W.codeIn K cd1 "flat" = true) (k1 : PySem.W.keepIn K (.ref f1) = true)
    (a2 : PySem.W.nsIn K mainGlobals "flat_size" = some (some (.ref f2))) (l2 : K.lookup f2 = some ⟨oc2, od2, .func (PySem.W.fnOf "flat_size" "flat_size" (defArgs s_flat_size) (defBody s_flat_size) (defScope s_flat_size) .none kV2 dc2 pm2 an2 cd2 ct2), sl2⟩) (c2 : PySem.W.codeIn K cd2 "flat_size" = true) (k2 : PySem.W.keepIn K (.ref f2) = true)
    (a3 : PySem.W.nsIn K mainGlobals "filled" = some (some (.ref f3))) (l3 : K.lookup f3 = some ⟨oc3, od3, .func (PySem.W.fnOf "filled" "filled" (defArgs s_filled) (defBody s_filled) (defScope s_filled) .none kV3 dc3 pm3 an3 cd3 ct3), sl3⟩) (c3 : PySem.W.codeIn K cd3 "filled" = true) (k3 : PySem.W.keepIn K (.ref f3) = true)
    (a4 : PySem.W.nsIn K mainGlobals "laid" = some (some (.ref f4))) (l4 : K.lookup f4 = some ⟨oc4, od4, .func (PySem.W.fnOf "laid" "laid" (defArgs s_laid) (defBody s_laid) (defScope s_laid) .none kV4 dc4 pm4 an4 cd4 ct4), sl4⟩) (c4 : PySem.W.codeIn K cd4 "laid" = true) (k4 : PySem.W.keepIn K (.ref f4) = true)
    (a5 : PySem.W.nsIn K mainGlobals "rows_of_thing" = some (some (.ref f5))) (l5 : K.lookup f5 = some ⟨oc5, od5, .func (PySem.W.fnOf "rows_of_thing" "rows_of_thing" (defArgs s_rows_of_thing) (defBody s_rows_of_thing) (defScope s_rows_of_thing) .none kV5 dc5 pm5 an5 cd5 ct5), sl5⟩) (c5 : PySem.W.codeIn K cd5 "rows_of_thing" = true) (k5 : PySem.W.keepIn K (.ref f5) = true)
    (a6 : PySem.W.nsIn K mainGlobals "can_be_broken" = some (some (.ref f6))) (l6 : K.lookup f6 = some ⟨oc6, od6, .func (PySem.W.fnOf "can_be_broken" "can_be_broken" (defArgs s_can_be_broken) (defBody s_can_be_broken) (defScope s_can_be_broken) .none kV6 dc6 pm6 an6 cd6 ct6), sl6⟩) (c6 : PySem.W.codeIn K cd6 "can_be_broken" = true) (k6 : PySem.W.keepIn K (.ref f6) = true)
    (a7 : PySem.W.nsIn K mainGlobals "rows_of_parts" = some (some (.ref f7))) (l7 : K.lookup f7 = some ⟨oc7, od7, .func (PySem.W.fnOf "rows_of_parts" "rows_of_parts" (defArgs s_rows_of_parts) (defBody s_rows_of_parts) (defScope s_rows_of_parts) .none kV7 dc7 pm7 an7 cd7 ct7), sl7⟩) (c7 : PySem.W.codeIn K cd7 "rows_of_parts" = true) (k7 : PySem.W.keepIn K (.ref f7) = true)
    (a8 : PySem.W.nsIn K mainGlobals "rows_of_words" = some (some (.ref f8))) (l8 : K.lookup f8 = some ⟨oc8, od8, .func (PySem.W.fnOf "rows_of_words" "rows_of_words" (defArgs s_rows_of_words) (defBody s_rows_of_words) (defScope s_rows_of_words) .none kV8 dc8 pm8 an8 cd8 ct8), sl8⟩) (c8 : PySem.W.codeIn K cd8 "rows_of_words" = true) (k8 : PySem.W.keepIn K (.ref f8) = true)
    (a9 : PySem.W.nsIn K mainGlobals "narrowest" = some (some (.ref f9))) (l9 : K.lookup f9 = some ⟨oc9, od9, .func (PySem.W.fnOf "narrowest" "narrowest" (defArgs s_narrowest) (defBody s_narrowest) (defScope s_narrowest) .none kV9 dc9 pm9 an9 cd9 ct9), sl9⟩) (c9 : PySem.W.codeIn K cd9 "narrowest" = true) (k9 : PySem.W.keepIn K (.ref f9) = true)
    (a10 : PySem.W.nsIn K mainGlobals "will_do" = some (some (.ref f10))) (l10 : K.lookup f10 = some ⟨oc10, od10, .func (PySem.W.fnOf "will_do" "will_do" (defArgs s_will_do) (defBody s_will_do) (defScope s_will_do) .none kV10 dc10 pm10 an10 cd10 ct10), sl10⟩) (c10 : PySem.W.codeIn K cd10 "will_do" = true) (k10 : PySem.W.keepIn K (.ref f10) = true)
    (a11 : PySem.W.nsIn K mainGlobals "_law_whole" = some (some (.ref f11))) (l11 : K.lookup f11 = some ⟨oc11, od11, .func (PySem.W.fnOf "_law_whole" "_law_whole" (defArgs s__law_whole) (defBody s__law_whole) (defScope s__law_whole) .none kV11 dc11 pm11 an11 cd11 ct11), sl11⟩) (c11 : PySem.W.codeIn K cd11 "_law_whole" = true) (k11 : PySem.W.keepIn K (.ref f11) = true)
    (a12 : PySem.W.nsIn K mainGlobals "_law_at" = some (some (.ref f12))) (l12 : K.lookup f12 = some ⟨oc12, od12, .func (PySem.W.fnOf "_law_at" "_law_at" (defArgs s__law_at) (defBody s__law_at) (defScope s__law_at) .none kV12 dc12 pm12 an12 cd12 ct12), sl12⟩) (c12 : PySem.W.codeIn K cd12 "_law_at" = true) (k12 : PySem.W.keepIn K (.ref f12) = true)
    (a13 : PySem.W.nsIn K mainGlobals "_law_word_by" = some (some (.ref f13))) (l13 : K.lookup f13 = some ⟨oc13, od13, .func (PySem.W.fnOf "_law_word_by" "_law_word_by" (defArgs s__law_word_by) (defBody s__law_word_by) (defScope s__law_word_by) .none kV13 dc13 pm13 an13 cd13 ct13), sl13⟩) (c13 : PySem.W.codeIn K cd13 "_law_word_by" = true) (k13 : PySem.W.keepIn K (.ref f13) = true)
    (a14 : PySem.W.nsIn K mainGlobals "_law_tags" = some (some (.ref f14))) (l14 : K.lookup f14 = some ⟨oc14, od14, .func (PySem.W.fnOf "_law_tags" "_law_tags" (defArgs s__law_tags) (defBody s__law_tags) (defScope s__law_tags) .none kV14 dc14 pm14 an14 cd14 ct14), sl14⟩) (c14 : PySem.W.codeIn K cd14 "_law_tags" = true) (k14 : PySem.W.keepIn K (.ref f14) = true)
    (a15 : PySem.W.nsIn K mainGlobals "_law_step" = some (some (.ref f15))) (l15 : K.lookup f15 = some ⟨oc15, od15, .func (PySem.W.fnOf "_law_step" "_law_step" (defArgs s__law_step) (defBody s__law_step) (defScope s__law_step) .none kV15 dc15 pm15 an15 cd15 ct15), sl15⟩) (c15 : PySem.W.codeIn K cd15 "_law_step" = true) (k15 : PySem.W.keepIn K (.ref f15) = true)
    (a16 : PySem.W.nsIn K mainGlobals "_law_grown" = some (some (.ref f16))) (l16 : K.lookup f16 = some ⟨oc16, od16, .func (PySem.W.fnOf "_law_grown" "_law_grown" (defArgs s__law_grown) (defBody s__law_grown) (defScope s__law_grown) .none kV16 dc16 pm16 an16 cd16 ct16), sl16⟩) (c16 : PySem.W.codeIn K cd16 "_law_grown" = true) (k16 : PySem.W.keepIn K (.ref f16) = true)
    (a17 : PySem.W.nsIn K mainGlobals "_law_flat_line" = some (some (.ref f17))) (l17 : K.lookup f17 = some ⟨oc17, od17, .func (PySem.W.fnOf "_law_flat_line" "_law_flat_line" (defArgs s__law_flat_line) (defBody s__law_flat_line) (defScope s__law_flat_line) .none kV17 dc17 pm17 an17 cd17 ct17), sl17⟩) (c17 : PySem.W.codeIn K cd17 "_law_flat_line" = true) (k17 : PySem.W.keepIn K (.ref f17) = true)
    (a18 : PySem.W.nsIn K mainGlobals "_law_unbroken" = some (some (.ref f18))) (l18 : K.lookup f18 = some ⟨oc18, od18, .func (PySem.W.fnOf "_law_unbroken" "_law_unbroken" (defArgs s__law_unbroken) (defBody s__law_unbroken) (defScope s__law_unbroken) .none kV18 dc18 pm18 an18 cd18 ct18), sl18⟩) (c18 : PySem.W.codeIn K cd18 "_law_unbroken" = true) (k18 : PySem.W.keepIn K (.ref f18) = true)
    (a19 : PySem.W.nsIn K mainGlobals "_law_word_rows" = some (some (.ref f19))) (l19 : K.lookup f19 = some ⟨oc19, od19, .func (PySem.W.fnOf "_law_word_rows" "_law_word_rows" (defArgs s__law_word_rows) (defBody s__law_word_rows) (defScope s__law_word_rows) .none kV19 dc19 pm19 an19 cd19 ct19), sl19⟩) (c19 : PySem.W.codeIn K cd19 "_law_word_rows" = true) (k19 : PySem.W.keepIn K (.ref f19) = true)
    (a20 : PySem.W.nsIn K mainGlobals "_law_other_rows" = some (some (.ref f20))) (l20 : K.lookup f20 = some ⟨oc20, od20, .func (PySem.W.fnOf "_law_other_rows" "_law_other_rows" (defArgs s__law_other_rows) (defBody s__law_other_rows) (defScope s__law_other_rows) .none kV20 dc20 pm20 an20 cd20 ct20), sl20⟩) (c20 : PySem.W.codeIn K cd20 "_law_other_rows" = true) (k20 : PySem.W.keepIn K (.ref f20) = true)
    (a21 : PySem.W.nsIn K mainGlobals "_law_longest" = some (some (.ref f21))) (l21 : K.lookup f21 = some ⟨oc21, od21, .func (PySem.W.fnOf "_law_longest" "_law_longest" (defArgs s__law_longest) (defBody s__law_longest) (defScope s__law_longest) .none kV21 dc21 pm21 an21 cd21 ct21), sl21⟩) (c21 : PySem.W.codeIn K cd21 "_law_longest" = true) (k21 : PySem.W.keepIn K (.ref f21) = true)
    (a22 : PySem.W.nsIn K mainGlobals "_law_mixed" = some (some (.ref f22))) (l22 : K.lookup f22 = some ⟨oc22, od22, .func (PySem.W.fnOf "_law_mixed" "_law_mixed" (defArgs s__law_mixed) (defBody s__law_mixed) (defScope s__law_mixed) .none kV22 dc22 pm22 an22 cd22 ct22), sl22⟩) (c22 : PySem.W.codeIn K cd22 "_law_mixed" = true) (k22 : PySem.W.keepIn K (.ref f22) = true)
    (a23 : PySem.W.nsIn K mainGlobals "_law_refuses" = some (some (.ref f23))) (l23 : K.lookup f23 = some ⟨oc23, od23, .func (PySem.W.fnOf "_law_refuses" "_law_refuses" (defArgs s__law_refuses) (defBody s__law_refuses) (defScope s__law_refuses) .none kV23 dc23 pm23 an23 cd23 ct23), sl23⟩) (c23 : PySem.W.codeIn K cd23 "_law_refuses" = true) (k23 : PySem.W.keepIn K (.ref f23) = true)
    (a24 : PySem.W.nsIn K mainGlobals "law" = some (some (.ref f24))) (l24 : K.lookup f24 = some ⟨oc24, od24, .func (PySem.W.fnOf "law" "law" (defArgs s_law) (defBody s_law) (defScope s_law) .none kV24 dc24 pm24 an24 cd24 ct24), sl24⟩) (c24 : PySem.W.codeIn K cd24 "law" = true) (k24 : PySem.W.keepIn K (.ref f24) = true)
    (z1 : PySem.W.nsIn K mainGlobals "len" = some none)
    (z2 : PySem.W.nsIn K mainGlobals "isinstance" = some none)
    (z3 : PySem.W.nsIn K mainGlobals "list" = some none)
    (z4 : PySem.W.nsIn K mainGlobals "str" = some none)
    (z5 : PySem.W.nsIn K mainGlobals "int" = some none)
    (z6 : PySem.W.nsIn K mainGlobals "range" = some none)
    (z7 : PySem.W.nsIn K mainGlobals "tuple" = some none)
    (z8 : PySem.W.nsIn K mainGlobals "bool" = some none)
    (z9 : PySem.W.nsIn K mainGlobals "max" = some none)
    (zx_enumerate : PySem.W.nsIn K mainGlobals "enumerate" = some none)
    (zx_ValueError : PySem.W.nsIn K mainGlobals "ValueError" = some none)
    {tk_STEP : Tok} (zc_STEP : PySem.W.nsIn K mainGlobals "STEP" = some (some (.int 2 tk_STEP)))
    {c_FoldError : Addr} (zk_FoldError : PySem.W.nsIn K mainGlobals "FoldError" = some (some (.ref c_FoldError)))
    {c_NoThing : Addr} (zk_NoThing : PySem.W.nsIn K mainGlobals "NoThing" = some (some (.ref c_NoThing)))
    {c_NoHeight : Addr} (zk_NoHeight : PySem.W.nsIn K mainGlobals "NoHeight" = some (some (.ref c_NoHeight)))
    (y1 : PySem.W.excIn K c_NoHeight bmV "ValueError.__new__" = true)
    (y2 : PySem.W.findIn K (.ref c_NoHeight) "__getattribute__" = some (some (.builtin "BaseException.__getattribute__")))
    (y3 : PySem.W.findIn K (.ref c_NoHeight) "__getattr__" = some none)
    (y4 : PySem.W.findIn K (.ref c_NoHeight) "__class__" = some (some (.builtin "object.__class__")))
    (y5 : PySem.W.subIn K (.ref c_NoHeight) (.type "BaseException") = some true)
    (y6 : PySem.W.subIn K (.ref c_NoHeight) (.type "object") = some true)
    (y7 : (PySem.W.clsIn K c_NoHeight).isSome = true)
    (y8 : PySem.W.kitCls K (.ref c_NoHeight) (.ref c_NoHeight) = some true)
    (y9 : PySem.W.kitCls K (.ref c_NoHeight) (.ref c_FoldError) = some true)
    (y10 : PySem.W.subIn K (.ref c_FoldError) (.type "BaseException") = some true)
    (y11 : PySem.W.kitOne K (.ref c_NoHeight) (.ref c_NoThing) = some false)
    (y12 : PySem.W.kitOne K (.ref c_NoHeight) (.ref c_NoHeight) = some true)
    (y13 : PySem.W.kitOne K (.ref c_NoHeight) (.type "ValueError") = some true) :
    ∃ fd : FuncData, (∀ (s : Shared) (v : Value), BindsTo s fd ⟨[v], []⟩ [("_law_script", v)]) ∧ ∀ base : Heap, K.In base → base.Ns mainGlobals mg → FnOk l.prog w K mg base CX0 201 fa fd ["_law_script"] (spLaw K) := by
  have e := hfa.symm.trans (PySem.W.mg_of X G a24)
  cases e
  have F1 := fun_mk (st := s_flat) l1 c1 k1
  have T1 : At K mg "flat" s_flat ["thing"] _ _ := ⟨F1, PySem.W.mg_of X G a1, F1.binds fun _ _ _ _ _ _ us hl => match us, hl with | [_], _ => rfl⟩
  have F2 := fun_mk (st := s_flat_size) l2 c2 k2
  have T2 : At K mg "flat_size" s_flat_size ["thing"] _ _ := ⟨F2, PySem.W.mg_of X G a2, F2.binds fun _ _ _ _ _ _ us hl => match us, hl with | [_], _ => rfl⟩
  have F3 := fun_mk (st := s_filled) l3 c3 k3
  have T3 : At K mg "filled" s_filled ["words", "room"] _ _ := ⟨F3, PySem.W.mg_of X G a3, F3.binds fun _ _ _ _ _ _ us hl => match us, hl with | [_, _], _ => rfl⟩
  have F4 := fun_mk (st := s_laid) l4 c4 k4
  have T4 : At K mg "laid" s_laid ["thing", "width"] _ _ := ⟨F4, PySem.W.mg_of X G a4, F4.binds fun _ _ _ _ _ _ us hl => match us, hl with | [_, _], _ => rfl⟩
  have F5 := fun_mk (st := s_rows_of_thing) l5 c5 k5
  have T5 : At K mg "rows_of_thing" s_rows_of_thing ["thing", "width", "indent", "lead", "tail"] _ _ := ⟨F5, PySem.W.mg_of X G a5, F5.binds fun _ _ _ _ _ _ us hl => match us, hl with | [_, _, _, _, _], _ => rfl⟩
  have F6 := fun_mk (st := s_can_be_broken) l6 c6 k6
  have T6 : At K mg "can_be_broken" s_can_be_broken ["thing"] _ _ := ⟨F6, PySem.W.mg_of X G a6, F6.binds fun _ _ _ _ _ _ us hl => match us, hl with | [_], _ => rfl⟩
  have F7 := fun_mk (st := s_rows_of_parts) l7 c7 k7
  have T7 : At K mg "rows_of_parts" s_rows_of_parts ["parts", "width", "indent"] _ _ := ⟨F7, PySem.W.mg_of X G a7, F7.binds fun _ _ _ _ _ _ us hl => match us, hl with | [_, _, _], _ => rfl⟩
  have F8 := fun_mk (st := s_rows_of_words) l8 c8 k8
  have T8 : At K mg "rows_of_words" s_rows_of_words ["words", "width", "indent"] _ _ := ⟨F8, PySem.W.mg_of X G a8, F8.binds fun _ _ _ _ _ _ us hl => match us, hl with | [_, _, _], _ => rfl⟩
  have F9 := fun_mk (st := s_narrowest) l9 c9 k9
  have T9 : At K mg "narrowest" s_narrowest ["thing", "most"] _ _ := ⟨F9, PySem.W.mg_of X G a9, F9.binds fun _ _ _ _ _ _ us hl => match us, hl with | [_, _], _ => rfl⟩
  have F10 := fun_mk (st := s_will_do) l10 c10 k10
  have T10 : At K mg "will_do" s_will_do ["thing", "width", "most"] _ _ := ⟨F10, PySem.W.mg_of X G a10, F10.binds fun _ _ _ _ _ _ us hl => match us, hl with | [_, _, _], _ => rfl⟩
  have F11 := fun_mk (st := s__law_whole) l11 c11 k11
  have T11 : At K mg "_law_whole" s__law_whole ["_law_found"] _ _ := ⟨F11, PySem.W.mg_of X G a11, F11.binds fun _ _ _ _ _ _ us hl => match us, hl with | [_], _ => rfl⟩
  have F12 := fun_mk (st := s__law_at) l12 c12 k12
  have T12 : At K mg "_law_at" s__law_at ["_law_script", "_law_k"] _ _ := ⟨F12, PySem.W.mg_of X G a12, F12.binds fun _ _ _ _ _ _ us hl => match us, hl with | [_, _], _ => rfl⟩
  have F13 := fun_mk (st := s__law_word_by) l13 c13 k13
  have T13 : At K mg "_law_word_by" s__law_word_by ["_law_salt"] _ _ := ⟨F13, PySem.W.mg_of X G a13, F13.binds fun _ _ _ _ _ _ us hl => match us, hl with | [_], _ => rfl⟩
  have F14 := fun_mk (st := s__law_tags) l14 c14 k14
  have T14 : At K mg "_law_tags" s__law_tags ["_law_thing"] _ _ := ⟨F14, PySem.W.mg_of X G a14, F14.binds fun _ _ _ _ _ _ us hl => match us, hl with | [_], _ => rfl⟩
  have F15 := fun_mk (st := s__law_step) l15 c15 k15
  have T15 : At K mg "_law_step" s__law_step ["_law_frames", "_law_way", "_law_salt"] _ _ := ⟨F15, PySem.W.mg_of X G a15, F15.binds fun _ _ _ _ _ _ us hl => match us, hl with | [_, _, _], _ => rfl⟩
  have F16 := fun_mk (st := s__law_grown) l16 c16 k16
  have T16 : At K mg "_law_grown" s__law_grown ["_law_cells"] _ _ := ⟨F16, PySem.W.mg_of X G a16, F16.binds fun _ _ _ _ _ _ us hl => match us, hl with | [_], _ => rfl⟩
  have F17 := fun_mk (st := s__law_flat_line) l17 c17 k17
  have T17 : At K mg "_law_flat_line" s__law_flat_line ["_law_thing"] _ _ := ⟨F17, PySem.W.mg_of X G a17, F17.binds fun _ _ _ _ _ _ us hl => match us, hl with | [_], _ => rfl⟩
  have F18 := fun_mk (st := s__law_unbroken) l18 c18 k18
  have T18 : At K mg "_law_unbroken" s__law_unbroken ["_law_one", "_law_wide", "_law_width", "_law_cell"] _ _ := ⟨F18, PySem.W.mg_of X G a18, F18.binds fun _ _ _ _ _ _ us hl => match us, hl with | [_, _, _, _], _ => rfl⟩
  have F19 := fun_mk (st := s__law_word_rows) l19 c19 k19
  have T19 : At K mg "_law_word_rows" s__law_word_rows ["_law_words", "_law_room", "_law_cell"] _ _ := ⟨F19, PySem.W.mg_of X G a19, F19.binds fun _ _ _ _ _ _ us hl => match us, hl with | [_, _, _], _ => rfl⟩
  have F20 := fun_mk (st := s__law_other_rows) l20 c20 k20
  have T20 : At K mg "_law_other_rows" s__law_other_rows ["_law_thing", "_law_width", "_law_cells"] _ _ := ⟨F20, PySem.W.mg_of X G a20, F20.binds fun _ _ _ _ _ _ us hl => match us, hl with | [_, _, _], _ => rfl⟩
  have F21 := fun_mk (st := s__law_longest) l21 c21 k21
  have T21 : At K mg "_law_longest" s__law_longest ["_law_rows"] _ _ := ⟨F21, PySem.W.mg_of X G a21, F21.binds fun _ _ _ _ _ _ us hl => match us, hl with | [_], _ => rfl⟩
  have F22 := fun_mk (st := s__law_mixed) l22 c22 k22
  have T22 : At K mg "_law_mixed" s__law_mixed ["_law_script"] _ _ := ⟨F22, PySem.W.mg_of X G a22, F22.binds fun _ _ _ _ _ _ us hl => match us, hl with | [_], _ => rfl⟩
  have F23 := fun_mk (st := s__law_refuses) l23 c23 k23
  have T23 : At K mg "_law_refuses" s__law_refuses ["_law_thing", "_law_most"] _ _ := ⟨F23, PySem.W.mg_of X G a23, F23.binds fun _ _ _ _ _ _ us hl => match us, hl with | [_, _], _ => rfl⟩
  have F24 := fun_mk (st := s_law) l24 c24 k24
  have T24 : At K mg "law" s_law ["_law_script"] _ _ := ⟨F24, PySem.W.mg_of X G a24, F24.binds fun _ _ _ _ _ _ us hl => match us, hl with | [_], _ => rfl⟩
  have B : Bn mg := ⟨PySem.W.mg_none_of X G z1, PySem.W.mg_none_of X G z2, PySem.W.mg_none_of X G z3, PySem.W.mg_none_of X G z4, PySem.W.mg_none_of X G z5, PySem.W.mg_none_of X G z6, PySem.W.mg_none_of X G z7, PySem.W.mg_none_of X G z8, PySem.W.mg_none_of X G z9⟩
  exact ⟨PySem.W.fnOf "law" "law" (defArgs s_law) (defBody s_law) (defScope s_law) .none kV24 dc24 pm24 an24 cd24 ct24, fun s v => .of_eq rfl, fun base _ _ => law_all B (PySem.W.mg_none_of X G zx_enumerate) (PySem.W.mg_none_of X G zx_ValueError) (PySem.W.mg_of X G zc_STEP) (PySem.W.mg_of X G zk_FoldError) (PySem.W.mg_of X G zk_NoThing) (PySem.W.mg_of X G zk_NoHeight) (⟨⟨y1, y2, y3, y4, y5, y6⟩, y7, y8, y9, y10, y11, y12, y13⟩) T1 T2 T3 T4 T5 T6 T7 T8 T9 T10 T11 T12 T13 T14 T15 T16 T17 T18 T19 T20 T21 T22 T23 T24⟩
theorem walk {l : PySem.W.OpenLaw} {q : Program} {loose : List Str} {XP : (Str → Option Value) → Heap → Prop} {YP : World → Heap → Prop} {d : DefRec} {K : Params → PySem.W.Frag} (hn : l.most = some 63) (hdf : d.params.defaults = [])
    (hY : ∀ (w : World) (h : Heap), YP w h → (K w.params).In h)
    (F : ∀ (w : World) (mg : Str → Option Value) (fa : Addr) (h : Heap), (K w.params).In h → h.Ns mainGlobals mg → mg d.name = some (.ref fa) →
      ∃ fd : FuncData, (∀ (s : Shared) (u : Value), BindsTo s fd ⟨[u], []⟩ [("_law_script", u)]) ∧ ∀ base : Heap, (K w.params).In base → base.Ns mainGlobals mg → FnOk l.prog w (K w.params) mg base CX0 201 fa fd ["_law_script"] (spLaw (K w.params))) :
    PySem.W.WalkO q loose XP YP l.row.toRowW d [] (fun f vs => PySem.call f vs) :=
  L2.walk_of (n := 63) (k := 201) (x := "_law_script") (CX := fun _ => CX0) (sp := fun w => spLaw (K w.params)) hn (by decide) hdf ⟨rfl, by decide, by decide⟩ hY F (fun _ _ a ns hl _ hS => ⟨a, ns, rfl, hS, hl, fun _ => rfl⟩) fun _ _ _ _ _ z => z
end C
open PySem PySem.W PyProof.Rows
set_option maxRecDepth 100000 in
set_option maxHeartbeats 0 in
theorem PySem.Challenge.cw_foldrows_k12_whole_narrowest_holds : PySem.Challenge.rw_foldrows_k12_whole_narrowest.Holds := by
  w_on; o_law; k_head; (case hw => w_witness2)
  k_fill
  refine C.walk (l := PySem.Challenge.rw_foldrows_k12_whole_narrowest) rfl rfl (fun w h Y => PySem.W.kIn_of Y) ?F
  case F =>
    intro w mg fa h KX G hmg
    refine' C.all_mk KX G hmg ?a1 ?l1 ?c1 ?k1 ?a2 ?l2 ?c2 ?k2 ?a3 ?l3 ?c3 ?k3 ?a4 ?l4 ?c4 ?k4 ?a5 ?l5 ?c5 ?k5 ?a6 ?l6 ?c6 ?k6 ?a7 ?l7 ?c7 ?k7 ?a8 ?l8 ?c8 ?k8 ?a9 ?l9 ?c9 ?k9 ?a10 ?l10 ?c10 ?k10 ?a11 ?l11 ?c11 ?k11 ?a12 ?l12 ?c12 ?k12 ?a13 ?l13 ?c13 ?k13 ?a14 ?l14 ?c14 ?k14 ?a15 ?l15 ?c15 ?k15 ?a16 ?l16 ?c16 ?k16 ?a17 ?l17 ?c17 ?k17 ?a18 ?l18 ?c18 ?k18 ?a19 ?l19 ?c19 ?k19 ?a20 ?l20 ?c20 ?k20 ?a21 ?l21 ?c21 ?k21 ?a22 ?l22 ?c22 ?k22 ?a23 ?l23 ?c23 ?k23 ?a24 ?l24 ?c24 ?k24 ?z1 ?z2 ?z3 ?z4 ?z5 ?z6 ?z7 ?z8 ?z9 ?zx_enumerate ?zx_ValueError ?zc_STEP ?zk_FoldError ?zk_NoThing ?zk_NoHeight ?y1 ?y2 ?y3 ?y4 ?y5 ?y6 ?y7 ?y8 ?y9 ?y10 ?y11 ?y12 ?y13
    (case a1 => k_is)
    (case l1 => k_is)
    (case c1 => k_is)
    (case k1 => k_is)
    (case a2 => k_is)
    (case l2 => k_is)
    (case c2 => k_is)
    (case k2 => k_is)
    (case a3 => k_is)
    (case l3 => k_is)
    (case c3 => k_is)
    (case k3 => k_is)
    (case a4 => k_is)
    (case l4 => k_is)
    (case c4 => k_is)
    (case k4 => k_is)
    (case a5 => k_is)
    (case l5 => k_is)
    (case c5 => k_is)
    (case k5 => k_is)
    (case a6 => k_is)
    (case l6 => k_is)
    (case c6 => k_is)
    (case k6 => k_is)
    (case a7 => k_is)
    (case l7 => k_is)
    (case c7 => k_is)
    (case k7 => k_is)
    (case a8 => k_is)
    (case l8 => k_is)
    (case c8 => k_is)
    (case k8 => k_is)
    (case a9 => k_is)
    (case l9 => k_is)
    (case c9 => k_is)
    (case k9 => k_is)
    (case a10 => k_is)
    (case l10 => k_is)
    (case c10 => k_is)
    (case k10 => k_is)
    (case a11 => k_is)
    (case l11 => k_is)
    (case c11 => k_is)
    (case k11 => k_is)
    (case a12 => k_is)
    (case l12 => k_is)
    (case c12 => k_is)
    (case k12 => k_is)
    (case a13 => k_is)
    (case l13 => k_is)
    (case c13 => k_is)
    (case k13 => k_is)
    (case a14 => k_is)
    (case l14 => k_is)
    (case c14 => k_is)
    (case k14 => k_is)
    (case a15 => k_is)
    (case l15 => k_is)
    (case c15 => k_is)
    (case k15 => k_is)
    (case a16 => k_is)
    (case l16 => k_is)
    (case c16 => k_is)
    (case k16 => k_is)
    (case a17 => k_is)
    (case l17 => k_is)
    (case c17 => k_is)
    (case k17 => k_is)
    (case a18 => k_is)
    (case l18 => k_is)
    (case c18 => k_is)
    (case k18 => k_is)
    (case a19 => k_is)
    (case l19 => k_is)
    (case c19 => k_is)
    (case k19 => k_is)
    (case a20 => k_is)
    (case l20 => k_is)
    (case c20 => k_is)
    (case k20 => k_is)
    (case a21 => k_is)
    (case l21 => k_is)
    (case c21 => k_is)
    (case k21 => k_is)
    (case a22 => k_is)
    (case l22 => k_is)
    (case c22 => k_is)
    (case k22 => k_is)
    (case a23 => k_is)
    (case l23 => k_is)
    (case c23 => k_is)
    (case k23 => k_is)
    (case a24 => k_is)
    (case l24 => k_is)
    (case c24 => k_is)
    (case k24 => k_is)
    (case z1 => k_is)
    (case z2 => k_is)
    (case z3 => k_is)
    (case z4 => k_is)
    (case z5 => k_is)
    (case z6 => k_is)
    (case z7 => k_is)
    (case z8 => k_is)
    (case z9 => k_is)
    (case zx_enumerate => k_is)
    (case zx_ValueError => k_is)
    (case zc_STEP => k_is)
    (case zk_FoldError => k_is)
    (case zk_NoThing => k_is)
    (case zk_NoHeight => k_is)
    (case y1 => first | k_exc | k_is | kernel_rfl)
    (case y2 => first | k_exc | k_is | kernel_rfl)
    (case y3 => first | k_exc | k_is | kernel_rfl)
    (case y4 => first | k_exc | k_is | kernel_rfl)
    (case y5 => first | k_exc | k_is | kernel_rfl)
    (case y6 => first | k_exc | k_is | kernel_rfl)
    (case y7 => first | k_exc | k_is | kernel_rfl)
    (case y8 => first | k_exc | k_is | kernel_rfl)
    (case y9 => first | k_exc | k_is | kernel_rfl)
    (case y10 => first | k_exc | k_is | kernel_rfl)
    (case y11 => first | k_exc | k_is | kernel_rfl)
    (case y12 => first | k_exc | k_is | kernel_rfl)
    (case y13 => first | k_exc | k_is | kernel_rfl)
#print axioms PySem.Challenge.cw_foldrows_k12_whole_narrowest_holds
