import PyProof.Rows.All
import Wide.All
import OpenK.AllK
import Wide.FinOn
import Lean
import PyProof.EqAt
import PyProof.EqKinds
import PyProof.TupleCall
import PySem.Str
import PyProof.StrLawsChain
import PyProof.StrLawsTight
import PyProof.Rows.StrItems
import PyProof.Rows.StrSplitCount
import PyProof.StrLawsRepr
import OpenK.ZGo
import PySem.Challenge.RW_foldrows_k13_whole_laid_anew
set_option tactic.hygienic false
set_option compiler.extract_closed false
set_option genSizeOfSpec false
set_option genInjectivity false
set_option Elab.async false
set_option linter.all false
set_option maxRecDepth 100000
namespace L2
open PySem PySem.Spec PyProof.Rows
noncomputable abbrev Key := Sum Int Str
noncomputable def keyIs : Key → Value → Bool
  | .inl k, v => Value.isInt k v
  | .inr x, v => Value.isStrOf x v
noncomputable def keyH (w : World) : Key → Int
  | .inl k => hashInt k
  | .inr x => hashStr w x
theorem keyIs_shape : ∀ {k : Key} {v : Value}, keyIs k v = true → (∃ i t, k = Sum.inl i ∧ v = Value.int i t) ∨ (∃ x t, k = Sum.inr x ∧ v = Value.str x t)
  | .inl i, v, h => by
    obtain ⟨t, e⟩ := Value.isInt_shape (k := i) (v := v) h
    exact .inl ⟨i, t, rfl, e⟩
  | .inr x, v, h => by
    obtain ⟨t, e⟩ := Value.isStrOf_shape (x := x) (v := v) h
    exact .inr ⟨x, t, rfl, e⟩
theorem key_ll (a b : Int) : decide ((Sum.inl a : Key) = Sum.inl b) = (a == b) := by
  by_cases e : a = b
  · subst e; simp
  · have h : ¬ (Sum.inl a : Key) = Sum.inl b := fun q => e (Sum.inl.inj q)
    rw [decide_eq_false h]
    exact (beq_eq_false_iff_ne.mpr e).symm
theorem key_rr (a b : Str) : decide ((Sum.inr a : Key) = Sum.inr b) = decide (a = b) := by
  by_cases e : a = b
  · subst e; simp
  · have h : ¬ (Sum.inr a : Key) = Sum.inr b := fun q => e (Sum.inr.inj q)
    rw [decide_eq_false h, decide_eq_false e]
theorem key_lr (a : Int) (b : Str) : decide ((Sum.inl a : Key) = Sum.inr b) = false := decide_eq_false (fun q => nomatch q)
theorem key_rl (a : Str) (b : Int) : decide ((Sum.inr a : Key) = Sum.inl b) = false := decide_eq_false (fun q => nomatch q)
noncomputable def mixKind (prog : Program) (w : World) : PySem.KeyKind prog w Key where
  is := keyIs
  hash := keyH w
  inj := fun v a b ha hb => by
    rcases keyIs_shape ha with ⟨i, t, rfl, rfl⟩ | ⟨x, t, rfl, rfl⟩
    · rcases keyIs_shape hb with ⟨j, u, rfl, e⟩ | ⟨y, u, rfl, e⟩
      · injection e with e1 _; rw [e1]
      · exact nomatch e
    · rcases keyIs_shape hb with ⟨j, u, rfl, e⟩ | ⟨y, u, rfl, e⟩
      · exact nomatch e
      · injection e with e1 _; rw [e1]
  byValue := fun k v h => by
    rcases keyIs_shape h with ⟨i, t, rfl, rfl⟩ | ⟨x, t, rfl, rfl⟩ <;> rfl
  pyHash := fun hv h => by
    rcases keyIs_shape hv with ⟨i, t, rfl, rfl⟩ | ⟨x, t, rfl, rfl⟩
    · exact wpAny_pyHash_int h
    · exact wpAny_pyHash_str h
  eqBool := fun hu hv h => by
    rcases keyIs_shape hu with ⟨i, t, rfl, rfl⟩ | ⟨x, t, rfl, rfl⟩
    · rcases keyIs_shape hv with ⟨j, u, rfl, rfl⟩ | ⟨y, u, rfl, rfl⟩
      · rw [key_ll] at h; exact wpAny_eqBool_int h
      · rw [key_lr] at h; exact SeqAt.EqAt.int_str i t y u _ _ _ _ h
    · rcases keyIs_shape hv with ⟨j, u, rfl, rfl⟩ | ⟨y, u, rfl, rfl⟩
      · rw [key_rl] at h; exact SeqAt.EqAt.str_int x t j u _ _ _ _ h
      · rw [key_rr] at h; exact wpAny_eqBool_str h
  «strs» := fun k x t v h => by
    rcases keyIs_shape h with ⟨i, u, rfl, e⟩ | ⟨y, u, rfl, e⟩
    · exact nomatch e
    · injection e with e1 _
      subst e1
      cases v <;> rfl
end L2
namespace L2
open PySem PySem.Spec PyProof.Rows
set_option genInjectivity true in
inductive V where
  | non | bl (b : Bool) | int (i : Int) | str (x : Str) | byt (b : Array UInt8) | flt (b : UInt64) | ref (a : Addr) | ty (n : String)
  deriving DecidableEq
noncomputable def RelV : V → Value → Prop
  | .non, u => u = Value.none
  | .bl b, u => u = Value.bool b
  | .int i, u => ∃ t, u = Value.int i t
  | .str x, u => ∃ t, u = Value.str x t
  | .byt b, u => ∃ t, u = Value.bytes b t
  | .flt b, u => ∃ t, u = Value.float b t
  | .ref a, u => u = Value.ref a
  | .ty n, u => u = Value.type n
noncomputable abbrev Vals : List V → List Value → Prop := Paired RelV
theorem Vals.length {xs : List V} {us : List Value} (r : Vals xs us) : xs.length = us.length := Paired.length r
theorem Vals.get : ∀ {xs : List V} {us : List Value} {i : Nat} {x : V}, Vals xs us → xs[i]? = some x → ∃ u, us[i]? = some u ∧ RelV x u
  | _, _, _, _, .nil, e => by simp at e
  | _, _, 0, _, .cons r _, e => by simp at e; subst e; exact ⟨_, rfl, r⟩
  | _, _, i + 1, x, .cons _ t, e => by
    obtain ⟨u, h1, h2⟩ := Vals.get (i := i) (x := x) t (by simpa using e)
    exact ⟨u, by simpa using h1, h2⟩
theorem Vals.set {x : V} {u : Value} (r : RelV x u) : ∀ {xs : List V} {us : List Value} (i : Nat), Vals xs us → Vals (xs.set i x) (us.set i u)
  | _, _, _, .nil => .nil
  | _, _, 0, .cons _ t => .cons r t
  | _, _, i + 1, .cons q t => .cons q (Vals.set r i t)
theorem Vals.append : ∀ {xs ys : List V} {us ws : List Value}, Vals xs us → Vals ys ws → Vals (xs ++ ys) (us ++ ws)
  | _, _, _, _, .nil, s => s
  | _, _, _, _, .cons r t, s => .cons r (Vals.append t s)
theorem Vals.take : ∀ {xs : List V} {us : List Value} (n : Nat), Vals xs us → Vals (xs.take n) (us.take n)
  | _, _, 0, _ => .nil
  | _, _, _ + 1, .nil => .nil
  | _, _, n + 1, .cons r t => .cons r (Vals.take n t)
theorem Vals.drop : ∀ {xs : List V} {us : List Value} (n : Nat), Vals xs us → Vals (xs.drop n) (us.drop n)
  | _, _, 0, r => r
  | _, _, _ + 1, .nil => .nil
  | _, _, n + 1, .cons _ t => Vals.drop n t
noncomputable def RelO : Option V → Option Value → Prop
  | some v, some u => RelV v u
  | none, none => True
  | _, _ => False
noncomputable def KV {κ : Type} : List (κ × V) → List (κ × Value) → Prop := Paired fun (p : κ × V) (q : κ × Value) => p.1 = q.1 ∧ RelV p.2 q.2
noncomputable def kV : Key → V
  | .inl i => .int i
  | .inr x => .str x
inductive HO where
  | lst (xs : List V)
  | tup (xs : List V)
  | dK (kvs : List (Key × V)) | dT (kvs : List (List Key × V))
  | set (S : Int → Bool) (n : Nat)
  | ins (C dx : Addr) (fs : List (Str × V))
  | own (x : Addr)
  | xd (fs : List (Str × V))
  | met (f x : Addr)
  | rng (lo hi : Int)
  | frz (o : Obj) (u : HO)
  | tbl (ps : Array Value)
  | ext (φ : Heap → Prop)
noncomputable abbrev Hp := Addr → Option HO
noncomputable def upd (H : Hp) (a : Addr) (o : HO) : Hp := fun b => if b = a then some o else H b
theorem upd_same {H : Hp} {a : Addr} {o : HO} : upd H a o a = some o := by unfold upd; rw [if_pos rfl]
theorem upd_ne {H : Hp} {a b : Addr} {o : HO} (h : b ≠ a) : upd H a o b = H b := by unfold upd; rw [if_neg h]
theorem ne_of_none {H : Hp} {a b : Addr} {o : HO} (h : H a = some o) (h' : H b = none) : a ≠ b := by
  intro e; subst e; rw [h] at h'; cases h'
section
variable (P : Program) (w : World)
noncomputable def ObjOk (H : Hp) (h : Heap) (a : Addr) : HO → Prop
  | .lst xs => xs.length ≤ sizeLine ∧ ∃ (its : List Value) (n : Nat), Vals xs its ∧ h.get? a = some { cls := .type "list", data := .seq its.toArray n }
  | .tup xs => xs.length ≤ sizeLine ∧ ∃ its : List Value, Vals xs its ∧ IsTup h a its.toArray
  | .dK kvs => kvs.length ≤ sizeLine ∧ (a == sysModules) = false ∧ ∃ vs, KV kvs vs ∧ h.DictOf (mixKind P w) a vs
  | .dT kvs => kvs.length ≤ sizeLine ∧ (a == sysModules) = false ∧ ∃ xs : List (List Key × Addr × Value),
      Paired (fun (p : List Key × V) (q : List Key × Addr × Value) => p.1 = q.1 ∧ H q.2.1 = some (.tup (p.1.map kV)) ∧ RelV p.2 q.2.2) kvs xs ∧
      ∃ o es ep, h.get? a = some o ∧ o.ExactDict ∧ o.data = .dict es ep ∧ es.toList = xs.map (entryOfKey (tupleKind (mixKind P w))) ∧ (xs.map (·.1)).Nodup
  | .set S n => h.SetOf (intKind P w) a S n
  | .ins C dx fs => H dx = some (.own a) ∧ fs.length ≤ 1000 ∧ dx ≠ a ∧ h.get? a = some (PySem.W.instObj C dx) ∧
      ∃ mA, h.Ns1 dx mA ∧ (∀ f, RelO (fs.lookup f) (mA f)) ∧ PySem.Within mA (fs.map (·.1))
  | .own _ => ∃ o, h.get? a = some o
  | .xd fs => ∃ mA, h.Ns1 a mA ∧ ∀ f, RelO (fs.lookup f) (mA f)
  | .rng lo hi => ∃ t u v, h.get? a = some { cls := .type "range", data := .fields #[.int lo t, .int hi u, .int 1 v] }
  | .frz o u => h.get? a = some o ∧ ObjOk H h a u
  | .tbl ps => h.get? a = some { cls := .none, data := .fields ps }
  | .met f x => h.get? a = some (PySem.W.methodObj (.ref f) (.ref x))
  | .ext φ => φ h ∧ (∃ o, h.get? a = some o) ∧ ∀ h1 h2 : Heap, φ h1 → (∀ o, h1.get? a = some o → h2.get? a = some o) → φ h2
noncomputable def HOk (H : Hp) (h : Heap) : Prop := ∀ a o, H a = some o → ObjOk P w H h a o
end
section
variable {P : Program} {w : World} {H H' : Hp} {h h' : Heap} {a : Addr} {o : HO}
theorem ObjOk.lt (x : ObjOk P w H h a o) : a < h.objs.size := by
  cases o with
  | lst xs => obtain ⟨_, _, _, _, e⟩ := x; exact Heap.lt_size e
  | tup xs => obtain ⟨_, _, _, p⟩ := x; exact p.lt
  | dK kvs => obtain ⟨_, _, _, _, o, _, _, e, _⟩ := x; exact Heap.lt_size e
  | dT kvs => obtain ⟨_, _, _, _, o, _, _, e, _⟩ := x; exact Heap.lt_size e
  | set S n => obtain ⟨o, _, _, _, e, _⟩ := x; exact Heap.lt_size e
  | ins C dx fs => obtain ⟨_, _, _, e, _⟩ := x; exact Heap.lt_size e
  | own y => obtain ⟨_, e⟩ := x; exact Heap.lt_size e
  | xd fs => obtain ⟨_, ⟨_, _, _, e, _⟩, _⟩ := x; exact Heap.lt_size e
  | rng lo hi => obtain ⟨_, _, _, e⟩ := x; exact Heap.lt_size e
  | frz ob u => obtain ⟨e, _⟩ := x; exact Heap.lt_size e
  | tbl ps => exact Heap.lt_size (show h.get? a = some _ from x)
  | met f y => exact Heap.lt_size (show h.get? a = some _ from x)
  | ext φ => obtain ⟨_, ⟨_, e⟩, _⟩ := x; exact Heap.lt_size e
theorem Paired.mapP {α β : Type} {F G : α → β → Prop} : ∀ {l₁ : List α} {l₂ : List β}, Paired F l₁ l₂ → (∀ a b, F a b → G a b) → Paired G l₁ l₂
  | _, _, .nil, _ => .nil
  | _, _, .cons r t, f => .cons (f _ _ r) (Paired.mapP t f)
theorem ObjOk.stay (x : ObjOk P w H h a o) (k : ∀ b u, (b = a ∨ H b = some (.own a)) → h.get? b = some u → h'.get? b = some u)
    (ho : ∀ b, H b = some (.own a) → H' b = some (.own a)) (ht : ∀ b xs, H b = some (.tup xs) → H' b = some (.tup xs)) : ObjOk P w H' h' a o := by
  induction o with
  | lst xs => obtain ⟨z, its, n, r, e⟩ := x; exact ⟨z, its, n, r, k _ _ (.inl rfl) e⟩
  | tup xs => obtain ⟨z, its, r, ob, e, c⟩ := x; exact ⟨z, its, r, ob, k _ _ (.inl rfl) e, c⟩
  | dK kvs => obtain ⟨z, y, vs, r, ob, es, ep, e, c⟩ := x; exact ⟨z, y, vs, r, ob, es, ep, k _ _ (.inl rfl) e, c⟩
  | dT kvs =>
    obtain ⟨z, y, xs, r, ob, es, ep, e, c⟩ := x
    exact ⟨z, y, xs, Paired.mapP r fun p q z => ⟨z.1, ht _ _ z.2.1, z.2.2⟩, ob, es, ep, k _ _ (.inl rfl) e, c⟩
  | set S n => obtain ⟨ob, es, ep, t, e, c⟩ := x; exact ⟨ob, es, ep, t, k _ _ (.inl rfl) e, c⟩
  | ins C dx fs =>
    obtain ⟨d, z, ne, e, mA, ⟨od, es, ep, e2, c⟩, r⟩ := x
    exact ⟨ho _ d, z, ne, k _ _ (.inl rfl) e, mA, ⟨od, es, ep, k _ _ (.inr d) e2, c⟩, r⟩
  | own y => obtain ⟨ob, e⟩ := x; exact ⟨ob, k _ _ (.inl rfl) e⟩
  | xd fs => obtain ⟨mA, ⟨od, es, ep, e, c⟩, r⟩ := x; exact ⟨mA, ⟨od, es, ep, k _ _ (.inl rfl) e, c⟩, r⟩
  | rng lo hi => obtain ⟨t, u, v, e⟩ := x; exact ⟨t, u, v, k _ _ (.inl rfl) e⟩
  | frz ob u ih => obtain ⟨e, q⟩ := x; exact ⟨k _ _ (.inl rfl) e, ih q⟩
  | tbl ps =>
    have e : h.get? a = some { cls := .none, data := .fields ps } := x
    show h'.get? a = some { cls := .none, data := .fields ps }
    exact k a _ (.inl rfl) e
  | met f y =>
    have e : h.get? a = some (PySem.W.methodObj (.ref f) (.ref y)) := x
    show h'.get? a = some (PySem.W.methodObj (.ref f) (.ref y))
    exact k a _ (.inl rfl) e
  | ext φ => obtain ⟨p, ⟨o, e⟩, st⟩ := x; exact ⟨st _ _ p fun o q => k _ _ (.inl rfl) q, ⟨o, k _ _ (.inl rfl) e⟩, st⟩
theorem HOk.lt (x : HOk P w H h) (e : H a = some o) : a < h.objs.size := (x a o e).lt
theorem HOk.fresh (x : HOk P w H h) (e : h.objs.size ≤ a) : H a = none := by
  cases q : H a with
  | none => rfl
  | some u => exact absurd (Nat.lt_of_lt_of_le (x.lt q) e) (Nat.lt_irrefl _)
theorem HOk.kept (x : HOk P w H h) (k : ∀ b u, h.get? b = some u → h'.get? b = some u) : HOk P w H h' := fun a o e =>
  (x a o e).stay (fun b u _ q => k b u q) (fun _ q => q) fun _ _ q => q
theorem HOk.laid (x : HOk P w H h) (k : ∀ b u, h.get? b = some u → h'.get? b = some u) (hp : h.objs.size ≤ a) (new : ObjOk P w (upd H a o) h' a o) : HOk P w (upd H a o) h' := fun b u e => by
  have hn := x.fresh hp
  by_cases hb : b = a
  · subst hb; rw [upd_same] at e; cases e; exact new
  · rw [upd_ne hb] at e
    exact (x b u e).stay (fun c v _ q => k c v q) (fun c q => by rw [upd_ne (ne_of_none q hn)]; exact q) fun c xs q => by rw [upd_ne (ne_of_none q hn)]; exact q
end
noncomputable def Rd (H : Hp) (a : Addr) (u : HO) : Prop := H a = some u ∨ ∃ o, H a = some (.frz o u)
theorem Rd.ok {P : Program} {w : World} {H : Hp} {h : Heap} {a : Addr} {u : HO} (r : Rd H a u) (x : HOk P w H h) : ObjOk P w H h a u := by
  rcases r with r | ⟨o, r⟩
  · exact x a u r
  · obtain ⟨_, q⟩ := x a _ r
    exact q
noncomputable def Mut : Option HO → Prop
  | some (.lst _) => True
  | some (.dK _) => True
  | some (.dT _) => True
  | some (.set _ _) => True
  | some (.ins _ _ _) => True
  | some (.ext _) => True
  | _ => False
section
variable {P : Program} {w : World} {H : Hp} {h h' : Heap} {x e : Addr} {o' : HO}
theorem HOk.write (ok : HOk P w H h) (mu : Mut (H x)) (he : e = x ∨ H e = some (.own x)) (k : ∀ b u, b ≠ e → h.get? b = some u → h'.get? b = some u) (heo : ∃ u, h'.get? e = some u)
    (new : ObjOk P w (upd H x o') h' x o') : HOk P w (upd H x o') h' := fun b u q => by
  have nown : ∀ c y, H c = some (.own y) → c ≠ x := fun c y r z => by subst z; rw [r] at mu; exact mu
  have ntup : ∀ c xs, H c = some (.tup xs) → c ≠ x := fun c xs r z => by subst z; rw [r] at mu; exact mu
  by_cases hb : b = x
  · subst hb; rw [upd_same] at q; cases q; exact new
  · rw [upd_ne hb] at q
    by_cases hbe : b = e
    · have q' : H b = some (.own x) := by
        rcases he with z | z
        · exact absurd (hbe.trans z) hb
        · rw [hbe]; exact z
      rw [q] at q'; cases q'
      obtain ⟨v, hv⟩ := heo
      exact ⟨v, by rw [hbe]; exact hv⟩
    · refine (ok b u q).stay (fun c v hc r => k c v ?_ r) (fun c r => by rw [upd_ne (nown c b r)]; exact r) fun c xs r => by rw [upd_ne (ntup c xs r)]; exact r
      rcases hc with rfl | hc
      · exact hbe
      · rintro rfl
        rcases he with z | z
        · exact nown c b hc z
        · rw [hc] at z; cases z; exact hb rfl
end
structure Un (fs ex : List Addr) (H H' : Hp) (h h' : Heap) : Prop where
  keep : ∀ b o, h.get? b = some o → H b = none → b ∉ fs → b ∉ ex → h'.get? b = some o
  slot : ∀ b o, h.get? b = some o → H b = none → b ∈ fs → b ∉ ex → ∃ sl, h'.get? b = some { o with slots := sl }
  free : ∀ b o, h.get? b = some o → H b = none → b ∉ ex → H' b = none
  there : ∀ b o, h.get? b = some o → b ∉ ex → ∃ o', h'.get? b = some o'
  tups : ∀ b xs, H b = some (.tup xs) → H' b = some (.tup xs)
  frzs : ∀ b o u, H b = some (.frz o u) → H' b = some (.frz o u)
  tbls : ∀ b ps, H b = some (.tbl ps) → ∃ more, H' b = some (.tbl (ps ++ more))
section
variable {fs fs' ex ex' : List Addr} {H H1 H2 : Hp} {h h1 h2 h' : Heap} {a x e : Addr} {o : HO}
theorem Un.any (u : Un fs ex H H1 h h1) {b : Addr} {ob : Obj} (q : h.get? b = some ob) (n : H b = none) (hx : b ∉ ex) : ∃ sl, h1.get? b = some { ob with slots := sl } := by
  by_cases hb : b ∈ fs
  · exact u.slot b ob q n hb hx
  · exact ⟨ob.slots, u.keep b ob q n hb hx⟩
theorem Un.kept (k : ∀ b u, h.get? b = some u → h'.get? b = some u) : Un fs ex H H h h' :=
  ⟨fun b ob q _ _ _ => k b ob q, fun b ob q _ _ _ => ⟨ob.slots, k b ob q⟩, fun _ _ _ n _ => n, fun b ob q _ => ⟨ob, k b ob q⟩, fun _ _ q => q, fun _ _ _ q => q, fun _ ps q => ⟨#[], by rw [q]; simp⟩⟩
theorem Un.refl : Un fs ex H H h h := Un.kept fun _ _ q => q
theorem Un.laid (k : ∀ b u, h.get? b = some u → h'.get? b = some u) (hp : h.objs.size ≤ a) (hn : H a = none) : Un fs ex H (upd H a o) h h' where
  keep := fun b u q _ _ _ => k b u q
  slot := fun b u q _ _ _ => ⟨u.slots, k b u q⟩
  free := fun b u q n _ => by rw [upd_ne (Nat.ne_of_lt (Nat.lt_of_lt_of_le (Heap.lt_size q) hp))]; exact n
  there := fun b u q _ => ⟨u, k b u q⟩
  tups := fun b xs q => by rw [upd_ne (ne_of_none q hn)]; exact q
  frzs := fun b u xs q => by rw [upd_ne (ne_of_none q hn)]; exact q
  tbls := fun b ps q => ⟨#[], by rw [upd_ne (ne_of_none q hn), q]; simp⟩
theorem Un.write (mu : Mut (H x)) (he : e = x ∨ H e = some (.own x)) (k : ∀ b u, b ≠ e → h.get? b = some u → h'.get? b = some u) (heo : ∃ u, h'.get? e = some u) : Un fs ex H (upd H x o) h h' := by
  have hx : ∀ b, H b = none → b ≠ x := fun b n z => by subst z; rw [n] at mu; exact mu
  have hb : ∀ b, H b = none → b ≠ e := fun b n z => by
    subst z
    rcases he with r | r
    · exact hx b n r
    · rw [n] at r; cases r
  have hm : ∀ b u, H b = some u → ¬ Mut (some u) → b ≠ x := fun b u q nm z => by subst z; rw [q] at mu; exact nm mu
  refine ⟨fun b u q n _ _ => k b u (hb b n) q, fun b u q n _ _ => ⟨u.slots, k b u (hb b n) q⟩, fun b u q n _ => by rw [upd_ne (hx b n)]; exact n, fun b u q _ => ?_,
    fun b xs q => by rw [upd_ne (hm b _ q fun z => z)]; exact q, fun b u xs q => by rw [upd_ne (hm b _ q fun z => z)]; exact q, fun b ps q => ⟨#[], by rw [upd_ne (hm b _ q fun z => z), q]; simp⟩⟩
  by_cases hbe : b = e
  · subst hbe; exact heo
  · exact ⟨u, k b u hbe q⟩
end
noncomputable def trk (h : Heap) (H : Hp) : List Addr := (List.range h.objs.size).filter fun a => (H a).isSome
noncomputable def hidT (h : Heap) (H : Hp) : Heap := PySem.W.hideAll h (trk h H)
theorem hidT_size (h : Heap) (H : Hp) : (hidT h H).objs.size = h.objs.size := PySem.W.hideAll_size _ _
theorem hidT_get {h : Heap} {H : Hp} {b : Addr} {o : Obj} (e : h.get? b = some o) (n : H b = none) : (hidT h H).get? b = some o :=
  PySem.W.hideAll_get _ e fun hm => by
    have q : (H b).isSome = true := (List.mem_filter.mp hm).2
    rw [n] at q; simp at q
theorem of_hidT {h : Heap} {H : Hp} {b : Addr} {o : Obj} (e : (hidT h H).get? b = some o) : h.get? b = some o ∧ H b = none := by
  have e' : h.get? b = some o := PySem.W.of_hideAll (trk h H) e
  refine ⟨e', ?_⟩
  cases q : H b with
  | none => rfl
  | some x =>
    have hm : b ∈ trk h H := List.mem_filter.mpr ⟨List.mem_range.mpr (Heap.lt_size e'), by simp [q]⟩
    have z : (hidT h H).get? b = none := PySem.W.hideAll_none (trk h H) hm
    rw [z] at e; cases e
noncomputable def allNews (g h : Heap) (L : Addr) : List (Addr × Obj) := (List.range h.objs.size).filterMap fun a => if a = L ∨ (g.get? a).isSome = true then none else (h.get? a).map fun o => (a, o)
noncomputable def rest (g h : Heap) (L d : Addr) : List (Addr × Obj) := (allNews g h L).filter fun p => decide (p.1 ≠ d)
end L2
namespace L2
open PySem PySem.Spec PyProof.Rows
structure Mod (K : PySem.W.Frag) (mg : Str → Option Value) (base : Heap) : Prop where
  kin : K.In base
  glob : base.Ns mainGlobals mg
  blt : ∃ mb, base.Ns builtinsNs mb ∧ ∀ x : Str, x ≠ "__name__" → mb x = bootBuiltins x
  nolimit : base.NoLimit
structure Cx where
  prog : Program
  w : World
  K : PySem.W.Frag
  mg : Str → Option Value
  base : Heap
  A : Around
  N : List Str
  s₀ : Shared
  H₀ : Hp
  env : Env
  outer : List Env
  stack : List Env
  ex : List Addr
  fn : Str → Bool
  calm : Bool
  pn : List (Addr × Obj)
  xe : Value → Shared → Prop
noncomputable def frs (l : List Env) : List Addr := l.filterMap (·.frame)
noncomputable abbrev Cx.fs (X : Cx) : List Addr := frs X.outer
noncomputable def Vis (sc : Scope) (x : Str) : Prop := sc.names.lookup x = some .local ∨ sc.names.lookup x = some .cell ∨ sc.names.lookup x = some .free
noncomputable def Loc (sc : Scope) (x : Str) : Prop := sc.names.lookup x = some .local ∨ sc.names.lookup x = some .cell
noncomputable def Look (env : Env) (h : Heap) (m : Str → Option Value) (x : Str) (u : Value) : Prop :=
  (env.kindOf x = some .local ∧ m x = some u) ∨ ((env.kindOf x = some .cell ∨ env.kindOf x = some .free) ∧ ∃ c, env.cells.lookup x = some c ∧ h.IsCell c (some u))
structure Cx.Ok (X : Cx) : Prop where
  mod : Mod X.K X.mg X.base
  kind : X.env.scope.kind = .function
  glob : X.env.globals = mainGlobals
  blt : X.env.builtins = builtinsNs
  above : X.s₀.heap.objs.size ≤ X.env.locals
  inj : ∀ x y c, X.env.cells.lookup x = some c → X.env.cells.lookup y = some c → x = y
  has : ∀ x, (X.env.kindOf x = some .cell ∨ X.env.kindOf x = some .free) → ∃ c, X.env.cells.lookup x = some c
  cab : ∀ x c, X.fn x = true → X.env.cells.lookup x = some c → X.s₀.heap.objs.size ≤ c
  hd : X.calm = true → X.A.handled = none
  frames : X.A.frames = some X.stack
  stk : X.stack = X.outer ∨ (X.stack = X.env :: X.outer ∧ X.env.frame = some X.env.locals)
  exf : ∀ b ∈ X.ex, b ≠ X.env.locals ∧ ∀ x c, X.env.cells.lookup x = some c → c ≠ b
  bs : ∀ b o, X.base.get? b = some o → X.s₀.heap.get? b = some o ∧ X.H₀ b = none
  bsz : X.base.objs.size ≤ X.s₀.heap.objs.size
  noex : ∀ b o, X.base.get? b = some o → b ∉ X.ex
  exfs : ∀ b ∈ X.ex, b ∉ X.fs
  funs : X.s₀.heap.FunFrames X.base X.outer
  frf : ∀ b ∈ X.fs, X.H₀ b = none
structure Inv (X : Cx) (pins : List (Addr × Obj)) (σ : List (Option V)) (H : Hp) (s : Shared) : Prop where
  ok : X.Ok
  os : s.os = X.s₀.os
  bare : AllBare s.gens
  base : Un X.fs X.ex X.H₀ H X.s₀.heap s.heap
  loc : ∃ m, s.heap.Ns X.env.locals m ∧ ∀ (i : Nat) (x : Str) (v : V), X.N[i]? = some x → σ[i]? = some (some v) → Vis X.env.scope x → ∃ u, RelV v u ∧ Look X.env s.heap m x u
  cell : ∀ x c, X.env.cells.lookup x = some c → ∃ v, s.heap.IsCell c v
  free : H X.env.locals = none
  freeC : ∀ x c, X.env.cells.lookup x = some c → H c = none
  pin : ∀ p ∈ X.pn ++ pins, s.heap.get? p.1 = some p.2 ∧ H p.1 = none ∧ p.1 ≠ X.env.locals ∧ p.1 ∉ X.fs ∧ ∀ v, p.2.data ≠ .cell v
  hok : HOk X.prog X.w H s.heap
  len : σ.length = X.N.length
section
variable {X : Cx} {pins : List (Addr × Obj)} {σ : List (Option V)} {H H' : Hp} {s : Shared} {h' : Heap}
theorem Cx.Ok.nofr (ok : X.Ok) {b : Addr} {o : Obj} (e : X.base.get? b = some o) : b ∉ X.fs := fun hb => by
  have := (ok.funs.mem hb).1
  rw [e] at this; cases this
theorem Inv.bs (I : Inv X pins σ H s) : ∀ b o, X.base.get? b = some o → s.heap.get? b = some o ∧ H b = none := fun b o e =>
  ⟨I.base.keep b o (I.ok.bs b o e).1 (I.ok.bs b o e).2 (I.ok.nofr e) (I.ok.noex b o e), I.base.free b o (I.ok.bs b o e).1 (I.ok.bs b o e).2 (I.ok.noex b o e)⟩
theorem Inv.bk (I : Inv X pins σ H s) : ∀ b o, X.base.get? b = some o → s.heap.get? b = some o := fun b o e => (I.bs b o e).1
theorem Inv.mod (I : Inv X pins σ H s) : Mod X.K X.mg X.base := I.ok.mod
theorem Inv.kIn (I : Inv X pins σ H s) : X.K.In s.heap := I.ok.mod.kin.keeps I.bk
theorem Inv.lt (I : Inv X pins σ H s) : X.env.locals < s.heap.objs.size := let ⟨_, hn, _⟩ := I.loc; hn.lt
theorem Inv.sz (I : Inv X pins σ H s) : X.s₀.heap.objs.size ≤ s.heap.objs.size := Nat.le_trans I.ok.above (Nat.le_of_lt I.lt)
theorem Inv.nofs (I : Inv X pins σ H s) {a : Addr} (h : s.heap.objs.size ≤ a) : a ∉ X.fs := fun hb => by
  obtain ⟨_, o, ho, _⟩ := I.ok.funs.mem hb
  exact absurd (Nat.lt_of_lt_of_le (Heap.lt_size ho) (Nat.le_trans I.sz h)) (Nat.lt_irrefl _)
theorem Inv.cne (I : Inv X pins σ H s) : ∀ x c, X.env.cells.lookup x = some c → c ≠ X.env.locals := fun x c e z => by
  obtain ⟨v, o, ho, hd⟩ := I.cell x c e
  obtain ⟨m, ⟨o', es, ep, ho', hd', _⟩, _⟩ := I.loc
  rw [z, ho'] at ho; cases ho; rw [hd'] at hd; cases hd
theorem Inv.funs (I : Inv X pins σ H s) : s.heap.FunFrames X.base X.outer := by
  have all : ∀ (l : List Env), (∀ b ∈ frs l, b ∈ X.fs) → X.s₀.heap.FunFrames X.base l → s.heap.FunFrames X.base l := by
    intro l
    induction l with
    | nil => intro _ _; trivial
    | cons env r ih =>
      intro hs hl
      obtain ⟨hk, ⟨L, o, hf, hn, ho, hd⟩, hr⟩ := hl
      have hL : L ∈ X.fs := hs L (by unfold frs; rw [List.filterMap_cons, hf]; exact List.mem_cons_self)
      obtain ⟨sl, e⟩ := I.base.slot L o ho (I.ok.frf L hL) hL fun z => I.ok.exfs L z hL
      exact ⟨hk, ⟨L, _, hf, hn, e, hd⟩, ih (fun b hb => hs b (by unfold frs; rw [List.filterMap_cons, hf]; exact List.mem_cons_of_mem _ hb)) hr⟩
  exact all X.outer (fun _ hb => hb) I.ok.funs
theorem Inv.stack (I : Inv X pins σ H s) : s.heap.FunFrames X.base X.stack := by
  rcases I.ok.stk with e | ⟨e, hf⟩
  · rw [e]; exact I.funs
  · rw [e]
    obtain ⟨m, hn, _⟩ := I.loc
    refine .cons (by rw [I.ok.kind]; decide) hf hn ?_ I.funs
    exact Heap.get?_none_of_le (Nat.le_trans I.ok.bsz I.ok.above)
theorem Inv.stkSub (I : Inv X pins σ H s) : ∀ b ∈ frs X.stack, b ∈ X.env.locals :: X.fs := fun b hb => by
  rcases I.ok.stk with e | ⟨e, hf⟩
  · rw [e] at hb; exact List.mem_cons_of_mem _ hb
  · rw [e] at hb
    unfold frs at hb
    rw [List.filterMap_cons, hf] at hb
    exact hb
theorem Inv.stkFree (I : Inv X pins σ H s) : ∀ b ∈ frs X.stack, H b = none := fun b hb => by
  rcases List.mem_cons.mp (I.stkSub b hb) with e | hb
  · rw [e]; exact I.free
  · obtain ⟨_, o, ho, _⟩ := I.ok.funs.mem hb
    exact I.base.free b o ho (I.ok.frf b hb) fun z => I.ok.exfs b z hb
theorem Inv.step {g' : Array GenState} {t' : Nat} {d' : Drawn} {ch : List Addr} (I : Inv X pins σ H s)
    (hch : ∀ b ∈ ch, (b ∈ X.ex ∨ X.s₀.heap.objs.size ≤ b) ∧ b ≠ X.env.locals ∧ (∀ x c, X.env.cells.lookup x = some c → c ≠ b) ∧ ∀ p ∈ X.pn ++ pins, p.1 ≠ b)
    (keep : ∀ b o, b ≠ X.env.locals → b ∉ X.fs → b ∉ ch → s.heap.get? b = some o → H b = none → h'.get? b = some o)
    (slot : ∀ b o, b ≠ X.env.locals → b ∈ X.fs → b ∉ ch → s.heap.get? b = some o → H b = none → ∃ sl, h'.get? b = some { o with slots := sl }) (free : ∀ b o, b ∉ ch → s.heap.get? b = some o → H b = none → H' b = none)
    (there : ∀ b o, b ∉ ch → s.heap.get? b = some o → ∃ o', h'.get? b = some o')
    (tups : ∀ b xs, H b = some (.tup xs) → H' b = some (.tup xs)) (frzs : ∀ b o u, H b = some (.frz o u) → H' b = some (.frz o u)) (tbls : ∀ b ps, H b = some (.tbl ps) → ∃ more, H' b = some (.tbl (ps ++ more)))
    (ns : ∀ m, s.heap.Ns X.env.locals m → h'.Ns X.env.locals m) (hok : HOk X.prog X.w H' h') (hg : AllBare g') :
    Inv X pins σ H' { s with heap := h', gens := g', drawn := d', toks := t' } := by
  have neL : ∀ b o, X.s₀.heap.get? b = some o → b ≠ X.env.locals := fun b o e => Nat.ne_of_lt (Nat.lt_of_lt_of_le (Heap.lt_size e) I.ok.above)
  have neC : ∀ b o, X.s₀.heap.get? b = some o → b ∉ X.ex → b ∉ ch := fun b o e hx hb => by
    rcases (hch b hb).1 with z | z
    · exact hx z
    · exact absurd (Nat.lt_of_lt_of_le (Heap.lt_size e) z) (Nat.lt_irrefl _)
  have cellK : ∀ x c, X.env.cells.lookup x = some c → ∀ v, s.heap.IsCell c v → h'.IsCell c v := fun x c e v ⟨o, ho, hd⟩ => by
    have nch : c ∉ ch := fun z => (hch c z).2.2.1 x c e rfl
    by_cases hc : c ∈ X.fs
    · obtain ⟨sl, q⟩ := slot c o (I.cne x c e) hc nch ho (I.freeC x c e)
      exact ⟨_, q, hd⟩
    · exact ⟨o, keep c o (I.cne x c e) hc nch ho (I.freeC x c e), hd⟩
  refine ⟨I.ok, I.os, hg, ⟨fun b o e n hb hx => ?_, fun b o e n hb hx => ?_, fun b o e n hx => ?_, fun b o e hx => ?_, fun b xs e => tups b xs (I.base.tups b xs e), fun b o xs e => frzs b o xs (I.base.frzs b o xs e), fun b ps e => ?_⟩, ?_, fun x c e => ?_, ?_, fun x c e => ?_, fun p hp => ?_, hok, I.len⟩
  · exact keep b o (neL b o e) hb (neC b o e hx) (I.base.keep b o e n hb hx) (I.base.free b o e n hx)
  · obtain ⟨sl, e1⟩ := I.base.slot b o e n hb hx
    obtain ⟨sl', e2⟩ := slot b _ (neL b o e) hb (neC b o e hx) e1 (I.base.free b o e n hx)
    exact ⟨sl', e2⟩
  · obtain ⟨o', e1⟩ := I.base.there b o e hx
    exact free b o' (neC b o e hx) e1 (I.base.free b o e n hx)
  · obtain ⟨o', e1⟩ := I.base.there b o e hx
    exact there b o' (neC b o e hx) e1
  · obtain ⟨m1, e1⟩ := I.base.tbls b ps e
    obtain ⟨m2, e2⟩ := tbls b _ e1
    exact ⟨m1 ++ m2, by rw [e2, Array.append_assoc]⟩
  · obtain ⟨m, hn, hl⟩ := I.loc
    refine ⟨m, ns m hn, fun i x v e1 e2 e3 => ?_⟩
    obtain ⟨u, r, l⟩ := hl i x v e1 e2 e3
    refine ⟨u, r, ?_⟩
    rcases l with l | ⟨k, c, e, z⟩
    · exact .inl l
    · exact .inr ⟨k, c, e, cellK x c e _ z⟩
  · obtain ⟨v, z⟩ := I.cell x c e
    exact ⟨v, cellK x c e v z⟩
  · obtain ⟨m, ⟨o, _, _, ho, _⟩, _⟩ := I.loc
    exact free _ o (fun z => (hch _ z).2.1 rfl) ho I.free
  · obtain ⟨v, o, ho, hd⟩ := I.cell x c e
    exact free c o (fun z => (hch c z).2.2.1 x c e rfl) ho (I.freeC x c e)
  · obtain ⟨e, n, ne, nf, d⟩ := I.pin p hp
    have nch : p.1 ∉ ch := fun z => (hch p.1 z).2.2.2 p hp rfl
    exact ⟨keep p.1 p.2 ne nf nch e n, free p.1 p.2 nch e n, ne, nf, d⟩
theorem Inv.un {t' : Nat} (I : Inv X pins σ H s) (u : Un X.fs [] H H' s.heap h') (hok : HOk X.prog X.w H' h') : Inv X pins σ H' { s with heap := h', toks := t' } := by
  obtain ⟨m, ⟨o, es, ep, ho, r⟩, _⟩ := id I.loc
  obtain ⟨sl, hL⟩ := u.any ho I.free (by simp)
  exact I.step (g' := s.gens) (d' := s.drawn) (ch := []) (fun _ z => nomatch z) (fun b o _ hb _ e n => u.keep b o e n hb (by simp)) (fun b o _ hb _ e n => u.slot b o e n hb (by simp)) (fun b o _ e n => u.free b o e n (by simp)) (fun b o _ e => u.there b o e (by simp)) u.tups u.frzs u.tbls (fun m' hm => by
    obtain ⟨o', es', ep', ho', r'⟩ := hm
    rw [ho] at ho'; cases ho'
    exact ⟨_, es', ep', hL, r'⟩) hok I.bare
theorem Inv.call {g' : Array GenState} {t' : Nat} {d' : Drawn} {ch : List Addr} (I : Inv X pins σ H s) (u : Un (frs X.stack) ch H H' s.heap h') (hok : HOk X.prog X.w H' h') (hg : AllBare g')
    (hch : ∀ b ∈ ch, (b ∈ X.ex ∨ X.s₀.heap.objs.size ≤ b) ∧ b ≠ X.env.locals ∧ (∀ x c, X.env.cells.lookup x = some c → c ≠ b) ∧ ∀ p ∈ X.pn ++ pins, p.1 ≠ b) :
    Inv X pins σ H' { s with heap := h', gens := g', drawn := d', toks := t' } := by
  obtain ⟨m, ⟨o, es, ep, ho, r⟩, _⟩ := id I.loc
  obtain ⟨sl, hL⟩ := u.any ho I.free fun z => (hch _ z).2.1 rfl
  exact I.step (ch := ch) hch (fun b o hL hb hc e n => u.keep b o e n (fun z => (List.mem_cons.mp (I.stkSub b z)).elim hL hb) hc) (fun b o _ _ hc e n => u.any e n hc) (fun b o hc e n => u.free b o e n hc) (fun b o hc e => u.there b o e hc) u.tups u.frzs u.tbls (fun m' hm => by
    obtain ⟨o', es', ep', ho', r'⟩ := hm
    rw [ho] at ho'; cases ho'
    exact ⟨_, es', ep', hL, r'⟩) hok hg
theorem Inv.turned {t' : Nat} {it : Addr} (I : Inv X pins σ H s) (k : ∀ b o, b ≠ it → s.heap.get? b = some o → h'.get? b = some o) (hn : H it = none) (hL : it ≠ X.env.locals)
    (h1 : it ∈ X.ex ∨ X.s₀.heap.objs.size ≤ it) (h2 : ∀ x c, X.env.cells.lookup x = some c → c ≠ it) (h3 : ∀ p ∈ X.pn ++ pins, p.1 ≠ it) : Inv X pins σ H { s with heap := h', toks := t' } := by
  have nit : ∀ b u, H b = some u → b ≠ it := fun b u e z => by rw [z, hn] at e; cases e
  refine I.step (g' := s.gens) (d' := s.drawn) (ch := [it]) (fun b hb => ?_) (fun b o _ _ hc e _ => k b o (fun z => hc (by simp [z])) e) (fun b o _ _ hc e _ => ⟨o.slots, k b o (fun z => hc (by simp [z])) e⟩) (fun _ _ _ _ n => n)
    (fun b o hc e => ⟨o, k b o (fun z => hc (by simp [z])) e⟩) (fun _ _ e => e) (fun _ _ _ e => e) (fun b ps e => ⟨#[], by rw [e]; simp⟩) (fun m hm => ?_) (fun b u e => ?_) I.bare
  · have e : b = it := by simpa using hb
    subst e
    exact ⟨h1, hL, h2, h3⟩
  · obtain ⟨o, es, ep, ho, r⟩ := hm
    exact ⟨o, es, ep, k _ o (Ne.symm hL) ho, r⟩
  · refine (I.hok b u e).stay (fun c v hc q => k c v ?_ q) (fun _ q => q) fun _ _ q => q
    rcases hc with z | z
    · rw [z]; exact nit b u e
    · exact nit c _ z
theorem Inv.tok (I : Inv X pins σ H s) (t : Nat) : Inv X pins σ H { s with toks := t } := I.un (h' := s.heap) (t' := t) Un.refl I.hok
theorem Inv.kept {t' : Nat} (I : Inv X pins σ H s) (k : ∀ b u, s.heap.get? b = some u → h'.get? b = some u) : Inv X pins σ H { s with heap := h', toks := t' } := I.un (Un.kept k) (I.hok.kept k)
theorem Inv.laid {a : Addr} {o : HO} {t' : Nat} (I : Inv X pins σ H s) (k : ∀ b u, s.heap.get? b = some u → h'.get? b = some u) (hp : s.heap.objs.size ≤ a) (new : ObjOk X.prog X.w (upd H a o) h' a o) :
    Inv X pins σ (upd H a o) { s with heap := h', toks := t' } := I.un (Un.laid k hp (I.hok.fresh hp)) (I.hok.laid k hp new)
theorem Inv.write {x e : Addr} {o : HO} {t' : Nat} (I : Inv X pins σ H s) (mu : Mut (H x)) (he : e = x ∨ H e = some (.own x)) (k : ∀ b u, b ≠ e → s.heap.get? b = some u → h'.get? b = some u) (heo : ∃ u, h'.get? e = some u)
    (new : ObjOk X.prog X.w (upd H x o) h' x o) : Inv X pins σ (upd H x o) { s with heap := h', toks := t' } := I.un (Un.write mu he k heo) (I.hok.write mu he k heo new)
theorem Inv.pins_of {pins' : List (Addr × Obj)} (I : Inv X pins σ H s) (h : ∀ p ∈ pins', s.heap.get? p.1 = some p.2 ∧ H p.1 = none ∧ p.1 ≠ X.env.locals ∧ p.1 ∉ X.fs ∧ ∀ v, p.2.data ≠ .cell v) : Inv X pins' σ H s :=
  ⟨I.ok, I.os, I.bare, I.base, I.loc, I.cell, I.free, I.freeC, fun p hp => (List.mem_append.mp hp).elim (fun z => I.pin p (List.mem_append_left _ z)) (h p), I.hok, I.len⟩
theorem nodup_ix {N : List Str} (hN : N.Nodup) {i j : Nat} {x : Str} (a : N[i]? = some x) (b : N[j]? = some x) : i = j := by
  obtain ⟨h1, e1⟩ := List.getElem?_eq_some_iff.mp a
  obtain ⟨h2, e2⟩ := List.getElem?_eq_some_iff.mp b
  exact (List.getElem_inj hN).mp (e1.trans e2.symm)
theorem store_ok2 {M : Model} {A : Around} {E : Value → Shared → Prop} {i : Nat} {x : Str} {v : V} {u : Value} {Q : Unit → Shared → Prop} (I : Inv X pins σ H s) (hN : X.N.Nodup) (hi : X.N[i]? = some x) (hx : Loc X.env.scope x) (r : RelV v u)
    (h : ∀ s', Inv X pins (σ.set i (some v)) H s' → (∃ a, Heap.SameBut a s.heap s'.heap ∧ (a = X.env.locals ∨ X.env.cells.lookup x = some a)) → Q () s') (hf : X.fn x = true ∨ X.env.scope.names.lookup x = some .local) : wpAny M A (storeName X.env x u) Q E s := by
  obtain ⟨m, hn, hl⟩ := id I.loc
  have hcls : (X.env.scope.kind == .class || (X.env.scope.kind == .module && X.env.locals != X.env.globals)) = false := by rw [I.ok.kind]; rfl
  have hiσ : i < σ.length := by rw [I.len]; exact (List.getElem?_eq_some_iff.mp hi).1
  have cne := I.cne
  have tracked : ∀ {a : Addr} {h' : Heap}, (∃ o, s.heap.get? a = some o ∧ H a = none) → Heap.SameBut a s.heap h' → HOk X.prog X.w H h' := fun {a h'} ha hs b ob e => by
    obtain ⟨_, _, hfree⟩ := ha
    refine (I.hok b ob e).stay (fun c w' hc q => (hs.2 c ?_).trans q) (fun _ q => q) fun _ _ q => q
    rintro rfl
    rcases hc with rfl | hc
    · rw [hfree] at e; cases e
    · rw [hfree] at hc; cases hc
  rcases hx with hk | hk
  · refine wpAny_storeName_local hk hn (fun h' hn' hs => ?_) hcls
    obtain ⟨oL, _, _, hoL, _⟩ := id hn
    refine h _ ⟨I.ok, I.os, I.bare, ⟨fun b o e n hb hx => ?_, fun b o e n hb hx => ?_, I.base.free, fun b o e hx => ?_, I.base.tups, I.base.frzs, I.base.tbls⟩, ⟨_, hn', fun j y v' e1 e2 e3 => ?_⟩, fun y c e => ?_, I.free, I.freeC, fun p hp => ?_, tracked ⟨oL, hoL, I.free⟩ hs, by simpa using I.len⟩ ⟨_, hs, .inl rfl⟩
    · exact (hs.2 b (Nat.ne_of_lt (Nat.lt_of_lt_of_le (Heap.lt_size e) I.ok.above))).trans (I.base.keep b o e n hb hx)
    · obtain ⟨sl, e1⟩ := I.base.slot b o e n hb hx
      exact ⟨sl, (hs.2 b (Nat.ne_of_lt (Nat.lt_of_lt_of_le (Heap.lt_size e) I.ok.above))).trans e1⟩
    · obtain ⟨o', e1⟩ := I.base.there b o e hx
      exact ⟨o', (hs.2 b (Nat.ne_of_lt (Nat.lt_of_lt_of_le (Heap.lt_size e) I.ok.above))).trans e1⟩
    · by_cases hj : j = i
      · subst hj
        rw [hi] at e1; cases e1
        rw [List.getElem?_set_self hiσ] at e2
        cases e2
        exact ⟨u, r, .inl ⟨hk, by simp⟩⟩
      · rw [List.getElem?_set_ne (Ne.symm hj)] at e2
        obtain ⟨u', r', q⟩ := hl j y v' e1 e2 e3
        refine ⟨u', r', ?_⟩
        rcases q with ⟨k, e⟩ | ⟨k, c, e, z⟩
        · refine .inl ⟨k, ?_⟩
          have : y ≠ x := fun e => hj (nodup_ix hN e1 (e ▸ hi))
          simp [this, e]
        · exact .inr ⟨k, c, e, z.sameBut hs (cne y c e)⟩
    · obtain ⟨w', z⟩ := I.cell y c e
      exact ⟨w', z.sameBut hs (cne y c e)⟩
    · obtain ⟨e, n, ne, nf, d⟩ := I.pin p hp
      exact ⟨(hs.2 p.1 ne).trans e, n, ne, nf, d⟩
  · have hfn : X.fn x = true := by
      rcases hf with z | z
      · exact z
      · rw [z] at hk; cases hk
    obtain ⟨c, hc⟩ := I.ok.has x (.inl hk)
    obtain ⟨w', z⟩ := I.cell x c hc
    refine wpAny_storeName_cell I.ok.kind hk hc z (fun h' hc' hs => ?_)
    obtain ⟨oc, hoc, hocd⟩ := id z
    refine h { s with heap := h' } ⟨I.ok, I.os, I.bare, ⟨fun b o e n hb hx => ?_, fun b o e n hb hx => ?_, I.base.free, fun b o e hx => ?_, I.base.tups, I.base.frzs, I.base.tbls⟩, ⟨m, hn.sameBut hs (Ne.symm (cne x c hc)), fun j y v' e1 e2 e3 => ?_⟩, fun y c' e => ?_, I.free, I.freeC, fun p hp => ?_, tracked ⟨oc, hoc, I.freeC x c hc⟩ hs, by simpa using I.len⟩ ⟨c, hs, .inr hc⟩
    · exact (hs.2 b (Nat.ne_of_lt (Nat.lt_of_lt_of_le (Heap.lt_size e) (I.ok.cab x c hfn hc)))).trans (I.base.keep b o e n hb hx)
    · obtain ⟨sl, e1⟩ := I.base.slot b o e n hb hx
      exact ⟨sl, (hs.2 b (Nat.ne_of_lt (Nat.lt_of_lt_of_le (Heap.lt_size e) (I.ok.cab x c hfn hc)))).trans e1⟩
    · obtain ⟨o', e1⟩ := I.base.there b o e hx
      exact ⟨o', (hs.2 b (Nat.ne_of_lt (Nat.lt_of_lt_of_le (Heap.lt_size e) (I.ok.cab x c hfn hc)))).trans e1⟩
    · by_cases hj : j = i
      · subst hj
        rw [hi] at e1; cases e1
        rw [List.getElem?_set_self hiσ] at e2
        cases e2
        exact ⟨u, r, .inr ⟨.inl hk, c, hc, hc'⟩⟩
      · rw [List.getElem?_set_ne (Ne.symm hj)] at e2
        obtain ⟨u', r', q⟩ := hl j y v' e1 e2 e3
        refine ⟨u', r', ?_⟩
        rcases q with q | ⟨k, c', e, z'⟩
        · exact .inl q
        · refine .inr ⟨k, c', e, z'.sameBut hs ?_⟩
          rintro rfl
          exact hj (nodup_ix hN e1 (I.ok.inj _ _ _ e hc ▸ hi))
    · by_cases hcc : c' = c
      · subst hcc; exact ⟨_, hc'⟩
      · obtain ⟨w2, z2⟩ := I.cell y c' e
        exact ⟨w2, z2.sameBut hs hcc⟩
    · obtain ⟨e, n, ne, nf, d⟩ := I.pin p hp
      refine ⟨(hs.2 p.1 ?_).trans e, n, ne, nf, d⟩
      intro q
      rw [q, hoc] at e
      have q' : oc = p.2 := Option.some.inj e
      exact d w' (by rw [← q']; exact hocd)
theorem store_ok {M : Model} {A : Around} {E : Value → Shared → Prop} {i : Nat} {x : Str} {v : V} {u : Value} {Q : Unit → Shared → Prop} (I : Inv X pins σ H s) (hN : X.N.Nodup) (hi : X.N[i]? = some x) (hx : Loc X.env.scope x) (r : RelV v u)
    (h : ∀ s', Inv X pins (σ.set i (some v)) H s' → Q () s') (hf : X.fn x = true ∨ X.env.scope.names.lookup x = some .local) : wpAny M A (storeName X.env x u) Q E s :=
  store_ok2 I hN hi hx r (fun s' I' _ => h s' I') hf
theorem Inv.call' {s' : Shared} {ch : List Addr} (I : Inv X pins σ H s) (ho : s'.os = s.os) (u : Un (frs X.stack) ch H H' s.heap s'.heap) (hok : HOk X.prog X.w H' s'.heap) (hg : AllBare s'.gens)
    (hch : ∀ b ∈ ch, (b ∈ X.ex ∨ X.s₀.heap.objs.size ≤ b) ∧ b ≠ X.env.locals ∧ (∀ x c, X.env.cells.lookup x = some c → c ≠ b) ∧ ∀ p ∈ X.pn ++ pins, p.1 ≠ b) : Inv X pins σ H' s' := by
  obtain ⟨h', g', d', t', o'⟩ := s'
  have e : o' = s.os := ho
  subst e
  exact I.call (g' := g') (t' := t') (d' := d') u hok hg hch
end
noncomputable abbrev XK := Value → Option Addr → Hp → Prop
noncomputable abbrev St := List (Option V)
noncomputable abbrev VK := V → Hp → Prop
noncomputable abbrev TE := St → Hp → VK → Prop
noncomputable abbrev TT := St → Hp → (Bool → Hp → Prop) → Prop
noncomputable abbrev TA := St → Hp → (List V → Hp → Prop) → Prop
structure Ends where
  nx : St → Hp → Prop
  rt : VK
  bk : St → Hp → Prop := fun _ _ => False
  ct : St → Hp → Prop := fun _ _ => False
noncomputable def Ends.seq (D : Ends) (n : St → Hp → Prop) : Ends := { D with nx := n }
noncomputable abbrev TS := Ends → St → Hp → Prop
inductive EP (X : Cx) (pins : List (Addr × Obj)) (σ : St) (Q : VK) (u : Value) (s' : Shared) : Prop
  | mk (v : V) (H' : Hp) (h1 : Inv X pins σ H' s') (h2 : RelV v u) (h3 : Q v H') : EP X pins σ Q u s'
inductive TP (X : Cx) (pins : List (Addr × Obj)) (σ : St) (Q : Bool → Hp → Prop) (b : Bool) (s' : Shared) : Prop
  | mk (H' : Hp) (h1 : Inv X pins σ H' s') (h2 : Q b H') : TP X pins σ Q b s'
inductive AP (X : Cx) (pins : List (Addr × Obj)) (σ : St) (Q : List V → Hp → Prop) (us : List Value) (s' : Shared) : Prop
  | mk (vs : List V) (H' : Hp) (h1 : Inv X pins σ H' s') (h2 : Vals vs us) (h3 : Q vs H') : AP X pins σ Q us s'
inductive SPn (X : Cx) (pins : List (Addr × Obj)) (N : St → Hp → Prop) (s' : Shared) : Prop
  | mk (σ' : St) (H' : Hp) (h1 : Inv X pins σ' H' s') (h2 : N σ' H') : SPn X pins N s'
inductive SPr (X : Cx) (pins : List (Addr × Obj)) (N : VK) (u : Value) (s' : Shared) : Prop
  | mk (v : V) (σ' : St) (H' : Hp) (h1 : Inv X pins σ' H' s') (h2 : RelV v u) (h3 : N v H') : SPr X pins N u s'
noncomputable def SP (X : Cx) (pins : List (Addr × Obj)) (D : Ends) (f : Flow) (s' : Shared) : Prop :=
  match f with
  | .next => SPn X pins D.nx s'
  | .brk => SPn X pins D.bk s'
  | .cont => SPn X pins D.ct s'
  | .ret u => SPr X pins D.rt u s'
noncomputable def PE (X : Cx) (e : Expr) (t : TE) : Prop :=
  ∀ (pins : List (Addr × Obj)) (s : Shared) (σ : St) (H : Hp) (Q : VK), Inv X pins σ H s → t σ H Q → wpAny (model X.prog X.w) X.A (eval e X.env) (EP X pins σ Q) X.xe s
noncomputable def PT (X : Cx) (e : Expr) (t : TT) : Prop :=
  ∀ (pins : List (Addr × Obj)) (s : Shared) (σ : St) (H : Hp) (Q : Bool → Hp → Prop), Inv X pins σ H s → t σ H Q → wpAny (model X.prog X.w) X.A (isTrue e X.env (eval e X.env)) (TP X pins σ Q) X.xe s
noncomputable def PW (X : Cx) (e : Expr) (t : TT) : Prop :=
  ∀ (whole : Sem Value) (pins : List (Addr × Obj)) (s : Shared) (σ : St) (H : Hp) (Q : Bool → Hp → Prop), Inv X pins σ H s → t σ H Q → wpAny (model X.prog X.w) X.A (isTrue e X.env whole) (TP X pins σ Q) X.xe s
theorem PW.pt {X : Cx} {e : Expr} {t : TT} (h : PW X e t) : PT X e t := h _
noncomputable def PA (X : Cx) (es : List Expr) (t : TA) : Prop :=
  ∀ (pos : Pos) (pins : List (Addr × Obj)) (s : Shared) (σ : St) (H : Hp) (Q : List V → Hp → Prop), Inv X pins σ H s → t σ H Q → wpAny (model X.prog X.w) X.A (spliced (backTo pos (starEach es X.env))) (AP X pins σ Q) X.xe s
noncomputable def PS (X : Cx) (st : Stmt) (t : TS) : Prop :=
  ∀ (pins : List (Addr × Obj)) (s : Shared) (σ : St) (H : Hp) (D : Ends), Inv X pins σ H s → t D σ H → wpAny (model X.prog X.w) X.A (exec st X.env) (SP X pins D) X.xe s
noncomputable def PSs (X : Cx) (st : List Stmt) (t : TS) : Prop :=
  ∀ (pins : List (Addr × Obj)) (s : Shared) (σ : St) (H : Hp) (D : Ends), Inv X pins σ H s → t D σ H → wpAny (model X.prog X.w) X.A (execs st X.env) (SP X pins D) X.xe s
theorem thn {α : Type} {t : Sem α} {Q Q' : α → Shared → Prop} {M : Model} {A : Around} {E : Value → Shared → Prop} {s : Shared} (h : wpAny M A t Q E s) (hQ : ∀ a s, Q a s → Q' a s) : wpAny M A t Q' E s := wpAny_mono h hQ fun _ _ x => x
end L2
namespace L2
open PySem PySem.Spec PyProof.Rows
section
variable {X : Cx}
inductive TVarI (i : Nat) (σ : St) (H : Hp) (Q : VK) : Prop
  | mk (v) (h_0 : σ[i]? = some (some v)) (h_1 : Q v H) : TVarI i σ H Q
noncomputable def tVar (i : Nat) : TE := fun σ H Q => TVarI i σ H Q
noncomputable def tC (v : V) : TE := fun _ H Q => Q v H
theorem pe_var {i : Nat} {x : Str} {pos : Pos} (hN : X.N[i]? = some x) (hv : Vis X.env.scope x) (hd : (x == ("__debug__" : Str)) = false := by decide) (hcd : (x == ("__classdict__" : Str)) = false := by decide) : PE X (.Name x pos) (tVar i) := by
  intro pins s σ H Q I h
  obtain ⟨v, e, h⟩ := h
  obtain ⟨m, hn, hl⟩ := I.loc
  obtain ⟨u, r, l⟩ := hl i x v hN e hv
  have fin : EP X pins σ Q u s := ⟨v, H, I, r, h⟩
  rcases l with ⟨hk, hm⟩ | ⟨hk, c, hc, hcell⟩
  · exact wpAny_Name (wpAny_loadName_local I.ok.kind hk hn hm fin) hd
  · rcases hk with hk | hk
    · exact wpAny_Name (wpAny_loadName_cell I.ok.kind hk hc hcell fin) hd
    · exact wpAny_Name (wpAny_loadName_free I.ok.kind hk hc hcell fin hcd) hd
theorem pe_int {i j pos} : PE X (.Constant (.int i) j pos) (tC (.int i)) := fun _ _ _ H _ I h => wpAny_Constant_int ⟨.int i, H, I.tok _, ⟨_, rfl⟩, h⟩
theorem pe_bl {b j pos} : PE X (.Constant (.bool b) j pos) (tC (.bl b)) := fun _ _ _ H _ I h => Constant_bool ⟨.bl b, H, I, rfl, h⟩
theorem pe_non {j pos} : PE X (.Constant .none j pos) (tC .non) := fun _ _ _ H _ I h => Constant_none ⟨.non, H, I, rfl, h⟩
theorem pe_str {x j pos} : PE X (.Constant (.str x) j pos) (tC (.str x)) := fun _ _ _ H _ I h => Calls.Constant_str ⟨.str x, H, I.tok _, ⟨_, rfl⟩, h⟩
noncomputable def Gl (X : Cx) (x : Str) : Prop := X.env.kindOf x = some .globalImplicit
theorem ld_glob {E : Value → Shared → Prop} {pins : List (Addr × Obj)} {s : Shared} {σ : St} {H : Hp} {x : Str} {u : Value} {pos : Pos} {Q : Value → Shared → Prop} (I : Inv X pins σ H s) (hg : Gl X x) (hm : X.mg x = some u) (h : Q u s)
    (hd : (x == ("__debug__" : Str)) = false := by decide) : wpAny (model X.prog X.w) X.A (eval (.Name x pos) X.env) Q E s :=
  Calls.Name_function_global I.ok.kind hg (Calls.loadGlobal_global (by rw [I.ok.glob]; exact I.mod.glob.keeps I.bk) hm h) hd
theorem ld_blt {E : Value → Shared → Prop} {pins : List (Addr × Obj)} {s : Shared} {σ : St} {H : Hp} {x : Str} {u : Value} {pos : Pos} {Q : Value → Shared → Prop} (I : Inv X pins σ H s) (hg : Gl X x) (hm : X.mg x = none) (hv : bootBuiltins x = some u) (h : Q u s)
    (hn : x ≠ "__name__" := by decide) (hd : (x == ("__debug__" : Str)) = false := by decide) : wpAny (model X.prog X.w) X.A (eval (.Name x pos) X.env) Q E s := by
  obtain ⟨mb, h1, h2⟩ := I.mod.blt
  exact Calls.Name_function_global I.ok.kind hg (Calls.loadGlobal_builtin (by rw [I.ok.glob]; exact I.mod.glob.keeps I.bk) hm (by rw [I.ok.blt]; exact h1.keeps I.bk) ((h2 x hn).trans hv) h) hd
theorem pe_glob {x : Str} {v : V} {u : Value} {pos : Pos} (hg : Gl X x) (hm : X.mg x = some u) (r : RelV v u) (hd : (x == ("__debug__" : Str)) = false := by decide) : PE X (.Name x pos) (tC v) :=
  fun _ _ _ H _ I h => ld_glob I hg hm ⟨v, H, I, r, h⟩ hd
theorem pe_bltn {x : Str} {v : V} {u : Value} {pos : Pos} (hg : Gl X x) (hm : X.mg x = none) (hv : bootBuiltins x = some u) (r : RelV v u) (hn : x ≠ "__name__" := by decide) (hd : (x == ("__debug__" : Str)) = false := by decide) : PE X (.Name x pos) (tC v) :=
  fun _ _ _ H _ I h => ld_blt I hg hm hv ⟨v, H, I, r, h⟩ hn hd
variable {a b : Expr} {ta tb : TE} {pos : Pos}
noncomputable def PC (X : Cx) (op : CmpOp) (a b : Expr) (t : TE) : Prop :=
  ∀ (pins : List (Addr × Obj)) (s : Shared) (σ : St) (H : Hp) (Q : VK), Inv X pins σ H s → t σ H Q →
    wpAny (model X.prog X.w) X.A (eval a X.env) (fun v s₁ => wpAny (model X.prog X.w) X.A (eval b X.env) (fun u s₂ => wpAny (model X.prog X.w) X.A (compareOp op v u) (EP X pins σ Q) X.xe s₂) X.xe s₁) X.xe s
theorem nobehind (b : Expr) {op : CmpOp} (h : op ≠ .In) (h2 : op ≠ .NotIn) : behindInMarks op b = false := by
  have e1 : (op == CmpOp.In) = false := by cases op <;> first | rfl | exact absurd rfl h
  have e2 : (op == CmpOp.NotIn) = false := by cases op <;> first | rfl | exact absurd rfl h2
  cases b <;> simp [behindInMarks, e1, e2]
noncomputable def tIsN (ta : TE) : TE := fun σ H Q => ta σ H fun x H1 => Q (.bl (decide (x = .non))) H1
theorem RelV.none_iff {x : V} {v : Value} (r : RelV x v) : (v == Value.none) = decide (x = .non) := by
  cases x with
  | non => cases r; rfl
  | bl _ => cases r; rfl
  | int _ => obtain ⟨t, rfl⟩ := r; rfl
  | str _ => obtain ⟨t, rfl⟩ := r; rfl
  | byt _ => obtain ⟨t, rfl⟩ := r; rfl
  | flt _ => obtain ⟨t, rfl⟩ := r; rfl
  | ref _ => cases r; rfl
  | ty _ => cases r; rfl
theorem pc_isN {j pos'} (ha : PE X a ta) : PC X .Is a (.Constant .none j pos') (tIsN ta) := by
  intro pins s σ H Q I h
  refine thn (ha pins s σ H _ I h) fun v s1 ⟨x, H1, I1, r1, q1⟩ => ?_
  exact Constant_none (is_none_gen ⟨.bl _, H1, I1, by rw [r1.none_iff]; rfl, q1⟩)
theorem hideG {R : Prop} (h : ∀ G : Prop, (R → G) → G) : R := h R id
inductive BlI (x : V) (k : Bool → Prop) : Prop
  | mk (c : Bool) (h : x = .bl c) (q : k c) : BlI x k
noncomputable def tB (t : TE) : TT := fun σ H Q => t σ H fun x H1 => BlI x fun c => Q c H1
theorem pt_cmp {op : CmpOp} {t : TE} (h : PC X op a b t) (h1 : behindInMarks op b = false := by first | exact nobehind _ (by decide) (by decide) | rfl) : PT X (.Compare a [op] [b] pos) (tB t) := by
  intro pins s σ H Q I hw
  refine wpAny_isTrue_Compare1 (thn (h pins s σ H _ I hw) fun v s1 h1 => thn h1 fun u s2 h2 => thn h2 fun c s3 ⟨x, H1, I1, r1, q1⟩ => ?_) h1
  obtain ⟨d, rfl, q⟩ := q1
  cases r1
  exact wpAny_truthy_bool ⟨H1, I1, q⟩
theorem pt_val {e : Expr} {t : TE} (h : PE X e t) (he : ∀ whole, isTrue e X.env whole = (do let v ← whole; standAt e.pos; holding [v] (truthy v)) := by intro _; rfl) : PT X e (tB t) := by
  intro pins s σ H Q I hw
  refine isTrue_plain (thn (h pins s σ H _ I hw) fun v s1 ⟨x, H1, I1, r1, q1⟩ => ?_) (he _)
  obtain ⟨d, rfl, q⟩ := q1
  cases r1
  exact wpAny_truthy_bool ⟨H1, I1, q⟩
variable {tA tB' : TT} {rest : List Expr}
noncomputable def tAnd (t u : TT) : TT := fun σ H Q => t σ H fun c H1 => if c = true then u σ H1 Q else Q false H1
noncomputable def tOr (t u : TT) : TT := fun σ H Q => t σ H fun c H1 => if c = true then Q true H1 else u σ H1 Q
noncomputable def tNot (t : TT) : TT := fun σ H Q => t σ H fun c H1 => Q (!c) H1
theorem pw_and1 (ha : PT X a tA) : PW X (.BoolOp .And [a] pos) tA := by
  intro wh pins s σ H Q I h
  refine isTrue_and (thn (ha pins s σ H Q I h) fun c s1 e => ?_)
  cases c with
  | true => exact isTrue_and_nil e
  | false => exact e
theorem pw_or1 (ha : PT X a tA) : PW X (.BoolOp .Or [a] pos) tA := by
  intro wh pins s σ H Q I h
  refine isTrue_or (thn (ha pins s σ H Q I h) fun c s1 e => ?_)
  cases c with
  | false => exact isTrue_or_nil e
  | true => exact e
theorem pw_and (ha : PT X a tA) (hb : PW X (.BoolOp .And (b :: rest) pos) tB') : PW X (.BoolOp .And (a :: b :: rest) pos) (tAnd tA tB') := by
  intro wh pins s σ H Q I h
  refine isTrue_and (thn (ha pins s σ H _ I h) fun c s1 ⟨H1, I1, q1⟩ => ?_)
  cases c with
  | true => exact hb wh pins s1 σ H1 Q I1 q1
  | false => exact ⟨H1, I1, q1⟩
theorem pw_or (ha : PT X a tA) (hb : PW X (.BoolOp .Or (b :: rest) pos) tB') : PW X (.BoolOp .Or (a :: b :: rest) pos) (tOr tA tB') := by
  intro wh pins s σ H Q I h
  refine isTrue_or (thn (ha pins s σ H _ I h) fun c s1 ⟨H1, I1, q1⟩ => ?_)
  cases c with
  | true => exact ⟨H1, I1, q1⟩
  | false => exact hb wh pins s1 σ H1 Q I1 q1
theorem pt_not (ha : PT X a tA) : PT X (.UnaryOp .Not a pos) (tNot tA) := by
  intro pins s σ H Q I h
  exact isTrue_not (thn (ha pins s σ H (fun c H1 => Q (!c) H1) I h) fun c s1 ⟨H1, I1, q1⟩ => ⟨H1, I1, q1⟩)
noncomputable def tAndV (ta tb : TE) : TE := fun σ H Q => ta σ H fun x H1 => BlI x fun c => if c = true then tb σ H1 Q else Q (.bl false) H1
noncomputable def tNotV (ta : TE) : TE := fun σ H Q => ta σ H fun x H1 => BlI x fun c => Q (.bl (!c)) H1
theorem pe_one {op} {t : TE} (h : PE X a t) : PE X (.BoolOp op [a] pos) t := fun pins s σ H Q I hw => BoolOp_one (h pins s σ H Q I hw)
theorem pe_and (ha : PE X a ta) (hb : PE X (.BoolOp .And (b :: rest) pos) tb) : PE X (.BoolOp .And (a :: b :: rest) pos) (tAndV ta tb) := by
  intro pins s σ H Q I h
  refine BoolOp_and (thn (ha pins s σ H _ I h) fun v s1 ⟨x, H1, I1, r1, q1⟩ => ?_)
  obtain ⟨c, rfl, q1⟩ := q1
  cases r1
  refine wpAny_truthy_bool ?_
  cases c with
  | true => exact hb pins s1 σ H1 Q I1 q1
  | false => exact ⟨.bl false, H1, I1, rfl, q1⟩
theorem pe_not (ha : PE X a ta) : PE X (.UnaryOp .Not a pos) (tNotV ta) := by
  intro pins s σ H Q I h
  refine UnaryOp_ (thn (ha pins s σ H _ I h) fun v s1 ⟨x, H1, I1, r1, q1⟩ => ?_)
  obtain ⟨c, rfl, q1⟩ := q1
  cases r1
  exact not_of (wpAny_truthy_bool ⟨.bl (!c), H1, I1, rfl, q1⟩)
noncomputable def tIf (t : TT) (ta tb : TE) : TE := fun σ H Q => t σ H fun c H1 => if c = true then ta σ H1 Q else tb σ H1 Q
theorem pe_ifExp {c : Expr} (hc : PT X c tA) (ha : PE X a ta) (hb : PE X b tb) : PE X (.IfExp c a b pos) (tIf tA ta tb) := by
  intro pins s σ H Q I h
  refine wpAny_IfExp (thn (hc pins s σ H _ I h) fun d s1 ⟨H1, I1, q1⟩ => ?_)
  cases d with
  | true => exact ha pins s1 σ H1 Q I1 q1
  | false => exact hb pins s1 σ H1 Q I1 q1
end
end L2
namespace L2
open PySem PySem.Spec PyProof.Rows
noncomputable def SqL (K : PySem.W.Frag) (H : Hp) (a : Addr) (xs : List V) : Prop :=
  Rd H a (.lst xs) ∨
    ∃ (o : Obj) (its : Array Value) (n : Nat), K.lookup a = some o ∧ o.cls = .type "list" ∧ o.dict = none ∧ o.data = .seq its n ∧ its.size ≤ sizeLine ∧ Vals xs its.toList
noncomputable def SqT (K : PySem.W.Frag) (H : Hp) (a : Addr) (xs : List V) : Prop :=
  Rd H a (.tup xs) ∨
    ∃ (o : Obj) (its : Array Value) (n : Nat), K.lookup a = some o ∧ o.cls = .type "tuple" ∧ o.data = .seq its n ∧ its.size ≤ sizeLine ∧ Vals xs its.toList
noncomputable def absV : Value → Option V
  | .none => some .non
  | .bool b => some (.bl b)
  | .int i _ => some (.int i)
  | .str x _ => some (.str x)
  | .bytes b _ => some (.byt b)
  | .float b _ => some (.flt b)
  | .ref a => some (.ref a)
  | .type n => some (.ty n)
  | _ => none
theorem RelV.abs {x : V} {u : Value} (r : RelV x u) : absV u = some x := by
  cases x with
  | non => cases r; rfl
  | bl _ => cases r; rfl
  | int _ => obtain ⟨t, rfl⟩ := r; rfl
  | str _ => obtain ⟨t, rfl⟩ := r; rfl
  | byt _ => obtain ⟨t, rfl⟩ := r; rfl
  | flt _ => obtain ⟨t, rfl⟩ := r; rfl
  | ref _ => cases r; rfl
  | ty _ => cases r; rfl
theorem RelV.inj {x y : V} {u : Value} (r : RelV x u) (q : RelV y u) : x = y := Option.some.inj (r.abs.symm.trans q.abs)
theorem Vals.inj : ∀ {xs ys : List V} {us : List Value}, Vals xs us → Vals ys us → xs = ys
  | _, _, _, .nil, .nil => rfl
  | _, _, _, .cons r t, .cons r' t' => by rw [r.inj r', Vals.inj t t']
section
variable {X : Cx} {pins : List (Addr × Obj)} {σ : St} {H : Hp} {s : Shared} {a : Addr} {xs ys : List V}
theorem SqL.of {K : PySem.W.Frag} (h : H a = some (.lst xs)) : SqL K H a xs := .inl (.inl h)
theorem SqT.of {K : PySem.W.Frag} (h : H a = some (.tup xs)) : SqT K H a xs := .inl (.inl h)
theorem Inv.list (I : Inv X pins σ H s) (h : SqL X.K H a xs) : ∃ its : List Value, Vals xs its ∧ PlainL s.heap a its.toArray ∧ xs.length ≤ sizeLine := by
  rcases h with h | ⟨o, its, n, hk, hc, hd, hs, hz, r⟩
  · obtain ⟨z, its, n, r, e⟩ := h.ok I.hok
    exact ⟨its, r, ⟨_, n, e, rfl, rfl, rfl⟩, z⟩
  · refine ⟨its.toList, r, ⟨o, n, I.kIn a o hk, hc, hd, by simpa using hs⟩, ?_⟩
    have e := r.length
    simp only [Array.length_toList] at e
    omega
theorem Inv.tuple (I : Inv X pins σ H s) (h : SqT X.K H a xs) : ∃ its : List Value, Vals xs its ∧ IsTup s.heap a its.toArray ∧ xs.length ≤ sizeLine := by
  rcases h with h | ⟨o, its, n, hk, hc, hs, hz, r⟩
  · obtain ⟨z, its, r, p⟩ := h.ok I.hok
    exact ⟨its, r, p, z⟩
  · refine ⟨its.toList, r, ⟨o, I.kIn a o hk, hc, n, by simpa using hs⟩, ?_⟩
    have e := r.length
    simp only [Array.length_toList] at e
    omega
theorem Inv.list_inj (I : Inv X pins σ H s) (h : SqL X.K H a xs) (h' : SqL X.K H a ys) : xs = ys := by
  obtain ⟨its, r, ⟨o, n, e, _, _, d⟩, _⟩ := I.list h
  obtain ⟨its', r', ⟨o', n', e', _, _, d'⟩, _⟩ := I.list h'
  rw [e] at e'; cases e'
  rw [d] at d'
  injection d' with d1 _
  have : its = its' := by simpa using congrArg Array.toList d1
  subst this
  exact r.inj r'
end
noncomputable abbrev Cx.wish (X : Cx) (E : Value → Shared → Prop) : Cx := { X with xe := E }
noncomputable abbrev Cx.nox (X : Cx) : Cx := X.wish fun _ _ => False
theorem Cx.Ok.wish {X : Cx} (ok : X.Ok) (E : Value → Shared → Prop) : (X.wish E).Ok :=
  ⟨ok.mod, ok.kind, ok.glob, ok.blt, ok.above, ok.inj, ok.has, ok.cab, ok.hd, ok.frames, ok.stk, ok.exf, ok.bs, ok.bsz, ok.noex, ok.exfs, ok.funs, ok.frf⟩
theorem Cx.Ok.unwish {X : Cx} {E : Value → Shared → Prop} (ok : (X.wish E).Ok) : X.Ok :=
  ⟨ok.mod, ok.kind, ok.glob, ok.blt, ok.above, ok.inj, ok.has, ok.cab, ok.hd, ok.frames, ok.stk, ok.exf, ok.bs, ok.bsz, ok.noex, ok.exfs, ok.funs, ok.frf⟩
section
variable {X : Cx} {pins : List (Addr × Obj)} {σ : St} {H : Hp} {s : Shared} {E : Value → Shared → Prop}
theorem Inv.wish (I : Inv X pins σ H s) (E : Value → Shared → Prop) : Inv (X.wish E) pins σ H s := ⟨I.ok.wish E, I.os, I.bare, I.base, I.loc, I.cell, I.free, I.freeC, I.pin, I.hok, I.len⟩
theorem Inv.unwish (I : Inv (X.wish E) pins σ H s) : Inv X pins σ H s := ⟨I.ok.unwish, I.os, I.bare, I.base, I.loc, I.cell, I.free, I.freeC, I.pin, I.hok, I.len⟩
theorem SP.unwish {D : Ends} {f : Flow} {s' : Shared} (h : SP (X.wish E) pins D f s') : SP X pins D f s' := by
  cases f with
  | next => obtain ⟨σ', H', I, q⟩ := h; exact ⟨σ', H', I.unwish, q⟩
  | brk => obtain ⟨σ', H', I, q⟩ := h; exact ⟨σ', H', I.unwish, q⟩
  | cont => obtain ⟨σ', H', I, q⟩ := h; exact ⟨σ', H', I.unwish, q⟩
  | ret u => obtain ⟨v, σ', H', I, r, q⟩ := h; exact ⟨v, σ', H', I.unwish, r, q⟩
theorem PSs.nox {st : List Stmt} {t : TS} (h : PSs X.nox st t) : PSs X st t := fun pins s σ H D I hw =>
  wpAny_mono (h pins s σ H D (I.wish _) hw) (fun _ _ q => q.unwish) fun _ _ z => False.elim z
end
section
variable {X : Cx} {st : Stmt} {rest : List Stmt} {t u : TS} {e : Expr} {te : TE} {pos : Pos}
noncomputable def tNext : TS := fun D σ H => D.nx σ H
noncomputable def tSeq (t u : TS) : TS := fun D σ H => t (D.seq (u D)) σ H
theorem pss_nil : PSs X [] tNext := fun _ _ σ H _ I h => wpAny_execs_nil ⟨σ, H, I, h⟩
theorem pss_cons (h1 : PS X st t) (h2 : PSs X rest u) : PSs X (st :: rest) (tSeq t u) := by
  intro pins s σ H D I h
  refine wpAny_execs_cons (thn (h1 pins s σ H { D with nx := u D } I h) fun f s1 q => ?_)
  cases f with
  | next =>
    obtain ⟨σ', H', I', q⟩ := q
    exact h2 pins s1 σ' H' D I' q
  | ret v => exact q
  | brk => exact q
  | cont => exact q
theorem pss_one (h1 : PS X st t) : PSs X [st] t := by
  intro pins s σ H D I h
  refine wpAny_execs_cons (thn (h1 pins s σ H D I h) fun f s1 q => ?_)
  cases f with
  | next => exact wpAny_execs_nil q
  | ret v => exact q
  | brk => exact q
  | cont => exact q
theorem Inv.quiet {pins : List (Addr × Obj)} {σ : St} {H : Hp} {s : Shared} (I : Inv X pins σ H s) : interactive X.env = false := by simp [interactive, I.ok.kind]
noncomputable def tDrop (te : TE) : TS := fun D σ H => te σ H fun _ H1 => D.nx σ H1
theorem ps_expr (he : PE X e te) (hs : swapsWith e none pos.line X.env = pure false := by rfl) : PS X (.Expr e pos) (tDrop te) := by
  intro pins s σ H D I h
  exact wpAny_Expr_any (thn (he pins s σ H _ I h) fun v s1 ⟨x, H1, I1, r1, q1⟩ => ⟨σ, H1, I1, q1⟩) I.quiet hs
noncomputable def tRet (te : TE) : TS := fun D σ H => te σ H D.rt
theorem ps_ret (he : PE X e te) : PS X (.Return (some e) pos) (tRet te) := by
  intro pins s σ H D I h
  exact wpAny_Return_some (thn (he pins s σ H _ I h) fun v s1 ⟨x, H1, I1, r1, q1⟩ => ⟨x, σ, H1, I1, r1, q1⟩)
noncomputable def tIfS (c : TT) (t u : TS) : TS := fun D σ H => c σ H fun b H1 => if b = true then t D σ H1 else u D σ H1
theorem ps_if {c : Expr} {a b : List Stmt} {tc : TT} (hc : PT X c tc) (ha : PSs X a t) (hb : PSs X b u) : PS X (.If c a b pos) (tIfS tc t u) := by
  intro pins s σ H D I h
  refine wpAny_If (thn (hc pins s σ H _ I h) fun d s1 ⟨H1, I1, q1⟩ => ?_)
  cases d with
  | true => exact ha pins s1 σ H1 D I1 q1
  | false => exact hb pins s1 σ H1 D I1 q1
end
noncomputable abbrev TG := V → St → Hp → (St → Hp → Prop) → Prop
noncomputable abbrev TGs := List V → St → Hp → (St → Hp → Prop) → Prop
noncomputable def PG (X : Cx) (target : Expr) (t : TG) : Prop :=
  ∀ (pins : List (Addr × Obj)) (s : Shared) (σ : St) (H : Hp) (v : V) (u : Value) (Q : St → Hp → Prop), Inv X pins σ H s → RelV v u → t v σ H Q →
    wpAny (model X.prog X.w) X.A (assign target X.env u) (fun _ s' => ∃ σ' H', Inv X pins σ' H' s' ∧ Q σ' H') X.xe s
noncomputable def PGs (X : Cx) (ts : List Expr) (t : TGs) : Prop :=
  ∀ (pins : List (Addr × Obj)) (s : Shared) (σ : St) (H : Hp) (vs : List V) (us : List Value) (Q : St → Hp → Prop), Inv X pins σ H s → Vals vs us → t vs σ H Q →
    wpAny (model X.prog X.w) X.A (assignInOrder ((assignEach ts X.env).map (·.2)) us) (fun _ s' => ∃ σ' H', Inv X pins σ' H' s' ∧ Q σ' H') X.xe s
noncomputable abbrev TSet := V → V → V → Hp → (Hp → Prop) → Prop
noncomputable def PSet (X : Cx) (t : TSet) : Prop :=
  ∀ (pins : List (Addr × Obj)) (s : Shared) (σ : St) (H : Hp) (o i v : V) (ov iv u : Value) (Q : Hp → Prop), Inv X pins σ H s → RelV o ov → RelV i iv → RelV v u → t o i v H Q →
    wpAny (model X.prog X.w) X.A (setItem ov iv u) (fun _ s' => ∃ H', Inv X pins σ H' s' ∧ Q H') X.xe s
section
variable {X : Cx} {pos : Pos}
noncomputable def gName (i : Nat) : TG := fun v σ H Q => Q (σ.set i (some v)) H
theorem pg_name {i : Nat} {x : Str} (hN : X.N.Nodup) (hi : X.N[i]? = some x) (hx : Loc X.env.scope x) (hf : X.fn x = true ∨ X.env.scope.names.lookup x = some .local) : PG X (.Name x pos) (gName i) := by
  intro pins s σ H v u Q I r h
  exact wpAny_assign_Name (store_ok I hN hi hx r (fun s' I' => ⟨_, H, I', h⟩) hf)
noncomputable def gNil : TGs := fun vs σ H Q => vs = [] ∧ Q σ H
noncomputable def gCons (t : TG) (u : TGs) : TGs := fun vs σ H Q => ∃ v r, vs = v :: r ∧ t v σ H fun σ' H' => u r σ' H' Q
theorem pg_nameL {i : Nat} {x : Str} (hN : X.N.Nodup) (hi : X.N[i]? = some x) (hl : X.env.scope.names.lookup x = some .local) : PG X (.Name x pos) (gName i) := pg_name hN hi (.inl hl) (.inr hl)
theorem pgs_nil : PGs X [] gNil := by
  intro pins s σ H vs us Q I r h
  obtain ⟨e, h⟩ := h
  subst e
  cases r
  exact assignInOrder_nil ⟨σ, H, I, h⟩
theorem pgs_cons {e : Expr} {es : List Expr} {t : TG} {u : TGs} (h1 : PG X e t) (h2 : PGs X es u)
    (hs : (assignEach (e :: es) X.env).map (·.2) = assign e X.env :: (assignEach es X.env).map (·.2) := by rfl) : PGs X (e :: es) (gCons t u) := by
  intro pins s σ H vs us Q I r h
  obtain ⟨v, vr, e1, h⟩ := h
  subst e1
  cases r with
  | cons r rr =>
    rw [hs]
    refine assignInOrder_cons (thn (h1 pins s σ H _ _ _ I r h) fun _ s1 ⟨σ1, H1, I1, q1⟩ => ?_)
    exact h2 pins s1 σ1 H1 _ _ Q I1 rr q1
noncomputable def gTup (K : PySem.W.Frag) (n : Nat) (t : TGs) : TG := fun v σ H Q => ∃ a xs, v = .ref a ∧ SqT K H a xs ∧ xs.length = n ∧ t xs σ H Q
theorem pg_tup {es : List Expr} {k : Nat} {t : TGs} {n : Nat} (hc : X.calm = true) (h : PGs X es t)
    (hn : (assignEach es X.env).length = n := by rfl) (hst : (assignEach es X.env).findIdx? (·.1) = none := by rfl) : PG X (.Tuple es k pos) (gTup X.K n t) := by
  intro pins s σ H v u Q I r hw
  obtain ⟨a, xs, e1, hq, hl, hw⟩ := hw
  subst e1
  cases r
  obtain ⟨its, rv, ht, hz⟩ := I.tuple hq
  refine assign_Tuple_tuple (I.ok.hd hc) ht (by simp [hn, ← hl, rv.length]) hst fun h' hx => ?_
  have I1 : Inv X pins σ H { s with heap := h' } := I.kept (t' := s.toks) fun b o e => hx b o (Nat.ne_of_lt (Heap.lt_size e)) e
  exact h pins _ σ H xs _ Q I1 (by simpa using rv) hw
noncomputable def gSub (to ti : TE) (t : TSet) : TG := fun v σ H Q => to σ H fun o H1 => ti σ H1 fun i H2 => t o i v H2 fun H3 => Q σ H3
theorem pg_sub {o i : Expr} {to ti : TE} {t : TSet} (ho : PE X o to) (hi : PE X i ti) (hs : PSet X t)
    (ha : ∀ v, assign (.Subscript o i pos) X.env v = (do
      let ov ← holding [v] (eval o X.env)
      let iv ← holding [v, ov] (eval i X.env)
      standAt pos
      holding [v, ov, iv] (setItem ov iv v)
      release [v, ov, iv] []) := by intro _; rfl) : PG X (.Subscript o i pos) (gSub to ti t) := by
  intro pins s σ H v u Q I r h
  rw [ha]
  refine wpAny_bind (wpAny_holding (thn (ho pins s σ H _ I h) fun ov s1 ⟨x, H1, I1, r1, q1⟩ => ?_))
  refine wpAny_bind (wpAny_holding (thn (hi pins s1 σ H1 _ I1 q1) fun iv s2 ⟨y, H2, I2, r2, q2⟩ => ?_))
  refine wpAny_bind (wpAny_standAt (wpAny_bind (wpAny_holding (thn (hs pins s2 σ H2 x y v ov iv u _ I2 r1 r2 r q2) fun _ s3 ⟨H3, I3, q3⟩ => ?_))))
  exact wpAny_release ⟨σ, H3, I3, q3⟩
noncomputable def tAsg (te : TE) (g : TG) : TS := fun D σ H => te σ H fun x H1 => g x σ H1 D.nx
theorem ps_asg {tg e : Expr} {te : TE} {g : TG} (he : PE X e te) (hg : PG X tg g) (hs : swapsWithSole [tg] e pos.line X.env = pure false := by rfl) (hw : swappedStores [tg] e X.env = pure none := by rfl)
    (h1 : (assignEach [tg] X.env).map (·.2) = [assign tg X.env] := by rfl) : PS X (.Assign [tg] e pos) (tAsg te g) := by
  intro pins s σ H D I h
  refine wpAny_Assign_stores (thn (he pins s σ H _ I h) fun v s1 ⟨x, H1, I1, r1, q1⟩ => ?_) hs hw
  rw [h1]
  exact thn (hg pins s1 σ H1 x v _ I1 r1 q1) fun _ s2 ⟨σ2, H2, I2, q2⟩ => ⟨σ2, H2, I2, q2⟩
theorem ps_set {i : Nat} {x : Str} {e : Expr} {te : TE} {pos' : Pos} (hN : X.N.Nodup) (hi : X.N[i]? = some x) (hx : Loc X.env.scope x) (he : PE X e te) (hs : swapsWith e (some (.Name x pos')) pos.line X.env = pure false := by rfl) (hf : X.fn x = true ∨ X.env.scope.names.lookup x = some .local) :
    PS X (.Assign [.Name x pos'] e pos) (tAsg te (gName i)) := by
  intro pins s σ H D I h
  refine wpAny_Assign_Name (thn (he pins s σ H _ I h) fun v s1 ⟨y, H1, I1, r1, q1⟩ => ?_) hs
  exact store_ok I1 hN hi hx r1 (fun s2 I2 => ⟨_, H1, I2, q1⟩) hf
theorem ps_setL {i : Nat} {x : Str} {e : Expr} {te : TE} {pos' : Pos} (hN : X.N.Nodup) (hi : X.N[i]? = some x) (hl : X.env.scope.names.lookup x = some .local) (he : PE X e te) (hs : swapsWith e (some (.Name x pos')) pos.line X.env = pure false := by rfl) : PS X (.Assign [.Name x pos'] e pos) (tAsg te (gName i)) := ps_set hN hi (.inl hl) he hs (.inr hl)
end
section
variable {X : Cx} {pos : Pos}
noncomputable def tWhile (c : TT) (tb : TS) : TS := fun D σ H => ∃ W : Nat → St → Hp → Prop, (∃ m, W m σ H) ∧ ∀ m σ H, W m σ H →
  c σ H fun b H1 => if b = true then ∃ N : St → Hp → Prop, (∀ σ' H', N σ' H' → ∃ m', m' < m ∧ W m' σ' H') ∧ tb { D with nx := N, ct := N, bk := D.nx } σ H1 else D.nx σ H1
theorem ps_while {c : Expr} {body : List Stmt} {tc : TT} {tb : TS} (hp : PassesOwn (model X.prog X.w) X.A X.env X.xe) (hc : PT X c tc) (hb : PSs X body tb) : PS X (.While c body [] pos) (tWhile tc tb) := by
  intro pins s σ H D I h
  obtain ⟨W, ⟨m0, w0⟩, turn⟩ := h
  refine wpAny_While (codeAny_whileLoop (fun n s' => ∃ σ' H', Inv X pins σ' H' s' ∧ W n σ' H') ?_ m0 ⟨σ, H, I, w0⟩)
  rintro n s1 ⟨σ1, H1, I1, w1⟩
  refine wpAny_passesOwn hp (thn (hc pins s1 σ1 H1 _ I1 (turn n σ1 H1 w1)) fun b s2 ⟨H2, I2, q2⟩ => ?_)
  cases b with
  | true =>
    obtain ⟨N, hN, q2⟩ := q2
    rw [if_pos rfl]
    refine wpAny_passesOwn hp (thn (hb pins s2 σ1 H2 _ I2 q2) fun f s3 q3 => ?_)
    cases f with
    | next =>
      obtain ⟨σ3, H3, I3, n3⟩ := q3
      obtain ⟨m', hm, w3⟩ := hN σ3 H3 n3
      exact ⟨m', hm, σ3, H3, I3, w3⟩
    | cont =>
      obtain ⟨σ3, H3, I3, n3⟩ := q3
      obtain ⟨m', hm, w3⟩ := hN σ3 H3 n3
      exact ⟨m', hm, σ3, H3, I3, w3⟩
    | brk => exact q3
    | ret v => exact q3
  | false =>
    rw [if_neg Bool.false_ne_true]
    exact wpAny_execs_nil ⟨σ1, H2, I2, q2⟩
end
structure It where
  go : Nat → Hp → Prop
  yld : Nat → Hp → V → Hp → Prop
  stop : Nat → Hp → Prop
noncomputable def FpOk (X : Cx) (pins : List (Addr × Obj)) (H : Hp) (b : Addr) : Prop :=
  H b = none ∧ b ≠ X.env.locals ∧ b ∉ X.fs ∧ (b ∈ X.ex ∨ X.s₀.heap.objs.size ≤ b) ∧ (∀ x c, X.env.cells.lookup x = some c → c ≠ b) ∧ ∀ p ∈ X.pn ++ pins, p.1 ≠ b
theorem Inv.fpOk {X : Cx} {pins : List (Addr × Obj)} {σ : St} {H H' : Hp} {s : Shared} {b : Addr} (I : Inv X pins σ H s) (hb : s.heap.objs.size ≤ b) (hn : H' b = none) : FpOk X pins H' b := by
  refine ⟨hn, Nat.ne_of_gt (Nat.lt_of_lt_of_le I.lt hb), I.nofs hb, .inr (Nat.le_trans I.sz hb), fun x c e z => ?_, fun p hp z => ?_⟩
  · obtain ⟨v, q⟩ := I.cell x c e
    exact absurd (Nat.lt_of_lt_of_le q.lt (by rw [z]; exact hb)) (Nat.lt_irrefl _)
  · exact absurd (Nat.lt_of_lt_of_le (Heap.lt_size (I.pin p hp).1) (by rw [z]; exact hb)) (Nat.lt_irrefl _)
structure Turn (P : Program) (w : World) (K : PySem.W.Frag) (tg : Expr) (J : It) (fp : List Addr) (it : Addr) (tn : Nat → Heap → Prop) : Prop where
  mem : it ∈ fp
  obj : ∀ i h, tn i h → ∀ b ∈ fp, ∃ o, h.get? b = some o ∧ ∀ v, o.data ≠ .cell v
  keep : ∀ i h h', tn i h → (∀ b ∈ fp, ∀ o, h.get? b = some o → h'.get? b = some o) → tn i h'
  item : ∀ (X : Cx), X.prog = P → X.w = w → X.K = K → X.calm = true → ∀ (i : Nat) (pins : List (Addr × Obj)) (s : Shared) (σ : St) (H : Hp) (E : Value → Shared → Prop), Inv X pins σ H s → (∀ b ∈ fp, FpOk X pins H b) → tn i s.heap → J.go i H →
    wpAny (model P w) X.A (pyNext (.ref it)) (fun r s1 => ∃ u, r = some u ∧
      wpAny (model P w) X.A (letOwnedTupleGo tg (.ref it) u) (fun _ s2 => ∃ x H', Inv X pins σ H' s2 ∧ RelV x u ∧ J.yld i H x H' ∧ tn (i + 1) s2.heap ∧ ∀ b ∈ fp, H' b = none) E s1) E s
  done : ∀ (X : Cx), X.prog = P → X.w = w → X.K = K → X.calm = true → ∀ (i : Nat) (pins : List (Addr × Obj)) (s : Shared) (σ : St) (H : Hp) (E : Value → Shared → Prop), Inv X pins σ H s → (∀ b ∈ fp, FpOk X pins H b) → tn i s.heap → J.stop i H →
    wpAny (model P w) X.A (pyNext (.ref it)) (fun r s1 => r = none ∧ Inv X pins σ H s1) E s
  self : ∀ (A : Around) (i : Nat) (s : Shared) (Q : Value → Shared → Prop) (E : Value → Shared → Prop), tn i s.heap → Q (.ref it) s → wpAny (model P w) A (pyIter (.ref it)) Q E s
noncomputable abbrev TI := St → Hp → (It → Hp → Prop) → Prop
noncomputable def PIE (X : Cx) (pins : List (Addr × Obj)) (σ : St) (tg : Expr) (R : It → Hp → Prop) (itv : Value) (s2 : Shared) : Prop :=
  ∃ (it : Addr) (fp : List Addr) (tn : Nat → Heap → Prop) (J : It) (H' : Hp), itv = .ref it ∧ Inv X pins σ H' s2 ∧ Turn X.prog X.w X.K tg J fp it tn ∧ tn 0 s2.heap ∧ (∀ b ∈ fp, FpOk X pins H' b) ∧ R J H'
noncomputable def PI (X : Cx) (tg iter : Expr) (wi : TI) : Prop :=
  ∀ (pins : List (Addr × Obj)) (s : Shared) (σ : St) (H : Hp) (R : It → Hp → Prop), Inv X pins σ H s → wi σ H R →
    wpAny (model X.prog X.w) X.A (eval iter X.env) (fun v s1 => wpAny (model X.prog X.w) X.A (pyIter v) (PIE X pins σ tg R) X.xe s1) X.xe s
theorem go_of {M : Model} {A : Around} {E : Value → Shared → Prop} {s : Shared} {tg : Expr} {it : Addr} {u : Value} {o : Obj} {n : String} {vs : Array Value} {Q : Unit → Shared → Prop} (ho : s.heap.get? it = some o) (hc : o.cls = .type n) (hd : o.data = .fields vs)
    (hn : ["enumerate", "zip", "dict_itemiterator", "dict_reverseitemiterator", "odict_iterator", "itertools.zip_longest", "itertools.pairwise"].contains n = false) (hQ : Q () s) : wpAny M A (letOwnedTupleGo tg (.ref it) u) Q E s := by
  unfold letOwnedTupleGo
  cases tg <;> first
    | exact wpAny_pure hQ
    | (cases u <;> first
        | exact wpAny_pure hQ
        | (refine wpAny_bind (wpAny_load ho ?_)
           rw [hc, hd]
           show wpAny M A (if (["enumerate", "zip", "dict_itemiterator", "dict_reverseitemiterator", "odict_iterator", "itertools.zip_longest", "itertools.pairwise"].contains n && vs[0]? == some (rawInt _)) = true then _ else _) Q E s
           rw [if_neg (by intro h; rw [hn, Bool.false_and] at h; cases h)]
           exact wpAny_pure hQ))
noncomputable def Itl (K : PySem.W.Frag) (a : Addr) : It :=
  ⟨fun i H => ∃ xs x, SqL K H a xs ∧ xs[i]? = some x, fun i H x H' => H' = H ∧ ∀ xs, SqL K H a xs → xs[i]? = some x, fun i H => ∃ xs, SqL K H a xs ∧ xs.length ≤ i⟩
noncomputable def Itr (lo : Int) (n : Nat) : It := ⟨fun i _ => i < n, fun i H x H' => H' = H ∧ x = .int (lo + i), fun i _ => n ≤ i⟩
theorem turn_list {P : Program} {w : World} {K : PySem.W.Frag} {tg : Expr} (a it : Addr) : Turn P w K tg (Itl K a) [it] it (fun i h => h.IsListIter it a i) where
  mem := by simp
  obj := fun i h st b hb => by
    have e : b = it := by simpa using hb
    subst e
    obtain ⟨o, e, c, d⟩ := st
    exact ⟨o, e, fun v z => by rw [d] at z; cases z⟩
  keep := fun i h h' st k => st.at fun o e => k it (by simp) o e
  item := by
    intro X hP hw hK hc i pins s σ H E I hf st hg
    subst hP hw hK
    obtain ⟨xs, x, hq, hx⟩ := hg
    obtain ⟨its, rv, p, hz⟩ := I.list hq
    obtain ⟨u, hu, ru⟩ := rv.get hx
    obtain ⟨f0, f1, f2, f3, f4, f5⟩ := hf it (by simp)
    refine wpAny_pyNext_list_item st p.isList (x := u) (by simpa using hu) fun h' st' sb => ?_
    have I1 : Inv X pins σ H { s with heap := h' } := I.turned (t' := s.toks) (fun b o hb e => (sb.2 b hb).trans e) f0 f1 f3 f4 f5
    obtain ⟨o, e, c, d⟩ := id st'
    exact ⟨u, rfl, go_of (s := { s with heap := h' }) e c d (by decide) ⟨x, H, I1, ru, ⟨rfl, fun ys hy => by rw [I.list_inj hy hq]; exact hx⟩, st', fun b hb => (hf b hb).1⟩⟩
  done := by
    intro X hP hw hK hc i pins s σ H E I hf st hg
    subst hP hw hK
    obtain ⟨xs, hq, hx⟩ := hg
    obtain ⟨its, rv, p, hz⟩ := I.list hq
    obtain ⟨f0, f1, f2, f3, f4, f5⟩ := hf it (by simp)
    have hl := rv.length
    exact wpAny_pyNext_list_end (I.ok.hd hc) st p.isList (by simp; omega) fun h' eb => ⟨rfl, I.turned (t' := s.toks) (fun b o hb e => eb b o hb e) f0 f1 f3 f4 f5⟩
  self := fun _ _ _ _ _ st h => wpAny_pyIter_listiter st h
theorem turn_range {P : Program} {w : World} {K : PySem.W.Frag} {tg : Expr} (it : Addr) (lo : Int) (n : Nat) : Turn P w K tg (Itr lo n) [it] it (fun i h => IsRangeIter h it (lo + (i : Nat) * 1) ((n : Int) - (i : Nat)) 1) where
  mem := by simp
  obj := fun i h st b hb => by
    have e : b = it := by simpa using hb
    subst e
    exact ⟨_, st, fun v z => by
      have z' : Data.fields _ = Data.cell v := z
      cases z'⟩
  keep := fun i h h' st k => k it (by simp) _ st
  item := by
    intro X hP hw hK hc i pins s σ H E I hf st hg
    subst hP hw hK
    obtain ⟨f0, f1, f2, f3, f4, f5⟩ := hf it (by simp)
    have W := Walks.range (prog := X.prog) (w := X.w) (I.ok.hd hc) it lo 1 n
    refine W.item i s _ _ hg st fun v h' tk hv st' kk => ?_
    obtain ⟨t, rfl⟩ := hv
    have I1 : Inv X pins σ H { s with heap := h', toks := tk } := I.turned (fun b o hb e => kk b o (by simpa using hb) e) f0 f1 f3 f4 f5
    refine ⟨_, rfl, go_of (s := { s with heap := h', toks := tk }) (n := "range_iterator") st' rfl rfl (by decide) ⟨.int (lo + i), H, I1, ⟨t, ?_⟩, ⟨rfl, rfl⟩, st', fun b hb => (hf b hb).1⟩⟩
    rw [Int.mul_one]
  done := by
    intro X hP hw hK hc i pins s σ H E I hf st hg
    subst hP hw hK
    obtain ⟨f0, f1, f2, f3, f4, f5⟩ := hf it (by simp)
    exact wpAny_pyNext_range_end (I.ok.hd hc) st (by have : n ≤ i := hg; omega) fun h' eb => ⟨rfl, I.turned (t' := s.toks) (fun b o hb e => eb b o hb e) f0 f1 f3 f4 f5⟩
  self := fun _ _ _ _ _ st h => wpAny_pyIter_rangeiter st h
end L2
namespace L2
open PySem PySem.Spec PyProof.Rows
section
variable {X : Cx} {tg : Expr}
noncomputable def iList (K : PySem.W.Frag) (tl : TE) : TI := fun σ H R => tl σ H fun x H1 => ∃ a, x = .ref a ∧ (∃ xs, SqL K H1 a xs) ∧ R (Itl K a) H1
theorem pi_list {l : Expr} {tl : TE} (hl : PE X l tl) : PI X tg l (iList X.K tl) := by
  intro pins s σ H R I h
  refine thn (hl pins s σ H _ I h) fun v s1 ⟨x, H1, I1, r1, q1⟩ => ?_
  obtain ⟨a, e, ⟨xs, hq⟩, q⟩ := q1
  subst e
  cases r1
  obtain ⟨its, rv, p, hz⟩ := I1.list hq
  refine wpAny_pyIter_list p.isList ?_
  refine ⟨s1.heap.objs.size, [s1.heap.objs.size], _, _, H1, rfl, I1.kept (t' := s1.toks) fun b o e => Heap.get?_push_of_some _ e, turn_list a _, ⟨_, Heap.get?_push_size _ rfl, rfl, rfl⟩, fun b hb => ?_, q⟩
  have e : b = s1.heap.objs.size := by simpa using hb
  subst e
  exact I1.fpOk (Nat.le_refl _) (I1.hok.fresh (Nat.le_refl _))
theorem range_it {pins : List (Addr × Obj)} {σ : St} {H : Hp} {s : Shared} {R : It → Hp → Prop} {E : Value → Shared → Prop} {lo hi : Int} {t u v : Tok} {tk : Nat} (I : Inv X pins σ H s) (h1 : -(2 ^ 62) ≤ lo) (h2 : lo < 2 ^ 62) (h3 : -(2 ^ 62) ≤ hi) (h4 : hi < 2 ^ 62)
    (q : R (Itr lo (hi - lo).toNat) H) : wpAny (model X.prog X.w) X.A (pyIter (.ref s.heap.objs.size)) (PIE X pins σ tg R) E { s with heap := s.heap.push { cls := .type "range", data := .fields #[.int lo t, .int hi u, .int 1 v] }, toks := tk } := by
  refine wpAny_pyIter_range (IsRange.new ..) (small_one h1 h2 h3 h4) ?_
  have I1 : Inv X pins σ H { s with heap := s.heap.push { cls := .type "range", data := .fields #[.int lo t, .int hi u, .int 1 v] }, toks := tk } := I.kept fun b o e => Heap.get?_push_of_some _ e
  refine ⟨(s.heap.push { cls := .type "range", data := .fields #[.int lo t, .int hi u, .int 1 v] }).objs.size, [(s.heap.push { cls := .type "range", data := .fields #[.int lo t, .int hi u, .int 1 v] }).objs.size], _, _, H, rfl,
    I1.kept (t' := tk) fun b o e => Heap.get?_push_of_some _ e, turn_range _ lo (hi - lo).toNat, ?_, fun b hb => ?_, q⟩
  · have e1 : lo + ((0 : Nat) : Int) * 1 = lo := by simp
    have e2 : (((hi - lo).toNat : Nat) : Int) - ((0 : Nat) : Int) = Builtin.Range.rangeSize lo hi 1 := by rw [rangeSize_one]; split <;> omega
    show IsRangeIter _ _ (lo + ((0 : Nat) : Int) * 1) ((((hi - lo).toNat : Nat) : Int) - ((0 : Nat) : Int)) 1
    rw [e1, e2]
    exact Heap.get?_push_size _ rfl
  · have e : b = (s.heap.push { cls := .type "range", data := .fields #[.int lo t, .int hi u, .int 1 v] }).objs.size := by simpa using hb
    subst e
    exact I1.fpOk (Nat.le_refl _) (I1.hok.fresh (Nat.le_refl _))
noncomputable def iRng1 (ta : TA) : TI := fun σ H R => ta σ H fun vs H1 => ∃ j : Int, vs = [.int j] ∧ -(2 ^ 62) ≤ j ∧ j < 2 ^ 62 ∧ R (Itr 0 j.toNat) H1
noncomputable def iRng2 (ta : TA) : TI := fun σ H R => ta σ H fun vs H1 => ∃ i j : Int, vs = [.int i, .int j] ∧ (-(2 ^ 62) ≤ i ∧ i < 2 ^ 62 ∧ -(2 ^ 62) ≤ j ∧ j < 2 ^ 62) ∧ R (Itr i (j - i).toNat) H1
theorem pi_range1 {a : Expr} {ta : TA} {p pos : Pos} (hg : Gl X "range") (hm : X.mg "range" = none) (ha : PA X [a] ta) (hs : starEach [a] X.env = [(false, eval a X.env)] := by rfl) : PI X tg (.Call (.Name "range" p) [a] [] pos) (iRng1 ta) := by
  intro pins s σ H R I h
  refine Call_ (ld_blt I hg hm boot_range (PyProof.Rows.callWith_type1 (thn (ha pos pins s σ H _ I h) fun us s1 ⟨vs, H1, I1, r1, q1⟩ => ?_) hs rfl))
  obtain ⟨j, e, q1, q2, q⟩ := q1
  subst e
  cases r1 with
  | cons r rr =>
    cases rr
    obtain ⟨t, rfl⟩ := r
    exact call_range_1 (range_it I1 (by omega) (by omega) q1 q2 (by simpa using q))
theorem pi_range2 {a b : Expr} {ta : TA} {p pos : Pos} (hg : Gl X "range") (hm : X.mg "range" = none) (ha : PA X [a, b] ta) (hs : starEach [a, b] X.env = [(false, eval a X.env), (false, eval b X.env)] := by rfl) (hs2 : starEach [b] X.env = [(false, eval b X.env)] := by rfl) :
    PI X tg (.Call (.Name "range" p) [a, b] [] pos) (iRng2 ta) := by
  intro pins s σ H R I h
  refine Call_ (ld_blt I hg hm boot_range (PyProof.Rows.callWith_type1 (thn (ha pos pins s σ H _ I h) fun us s1 ⟨vs, H1, I1, r1, q1⟩ => ?_) (by rw [hs, hs2]) (by rw [hs2]; rfl)))
  obtain ⟨i, j, e, ⟨q1, q2, q3, q4⟩, q⟩ := q1
  subst e
  cases r1 with
  | cons r rr =>
    cases rr with
    | cons r' rr =>
      cases rr
      obtain ⟨t, rfl⟩ := r
      obtain ⟨t', rfl⟩ := r'
      exact call_range_2 (range_it I1 q1 q2 q3 q4 q)
noncomputable def tFor (wi : TI) (g : TG) (tb : TS) : TS := fun D σ H => wi σ H fun J H1 => ∃ W : Nat → Nat → St → Hp → Prop, (∃ m, W 0 m σ H1) ∧ ∀ i m σ H, W i m σ H →
  (J.stop i H ∧ D.nx σ H) ∨ (J.go i H ∧ ∃ N : St → Hp → Prop, (∀ σ' H', N σ' H' → ∃ m', m' < m ∧ W (i + 1) m' σ' H') ∧ ∀ x H', J.yld i H x H' → g x σ H' fun σ2 H2 => tb { D with nx := N, ct := N, bk := D.nx } σ2 H2)
noncomputable def pinsAt (fp : List Addr) (h : Heap) : List (Addr × Obj) := fp.filterMap fun b => (h.get? b).map fun o => (b, o)
theorem mem_pinsAt {fp : List Addr} {h : Heap} {b : Addr} {o : Obj} (hb : b ∈ fp) (e : h.get? b = some o) : (b, o) ∈ pinsAt fp h := List.mem_filterMap.mpr ⟨b, hb, by rw [e]; rfl⟩
theorem of_pinsAt {fp : List Addr} {h : Heap} {p : Addr × Obj} (hp : p ∈ pinsAt fp h) : p.1 ∈ fp ∧ h.get? p.1 = some p.2 := by
  obtain ⟨b, hb, e⟩ := List.mem_filterMap.mp hp
  cases q : h.get? b with
  | none => rw [q] at e; cases e
  | some o =>
    rw [q] at e
    have e' : (b, o) = p := Option.some.inj e
    subst e'
    exact ⟨hb, q⟩
theorem Inv.pinned {pins : List (Addr × Obj)} {σ : St} {H : Hp} {s : Shared} {fp : List Addr} (I : Inv X pins σ H s) (hf : ∀ b ∈ fp, FpOk X pins H b) (ho : ∀ b ∈ fp, ∃ o, s.heap.get? b = some o ∧ ∀ v, o.data ≠ .cell v) : Inv X (pins ++ pinsAt fp s.heap) σ H s :=
  I.pins_of fun p hp => (List.mem_append.mp hp).elim (fun z => I.pin p (List.mem_append_right _ z)) fun z => by
    obtain ⟨hb, e⟩ := of_pinsAt z
    obtain ⟨f0, f1, f2, _⟩ := hf p.1 hb
    obtain ⟨o, e', d⟩ := ho p.1 hb
    rw [e] at e'; cases e'
    exact ⟨e, f0, f1, f2, d⟩
theorem Inv.unpinned {pins pl : List (Addr × Obj)} {σ : St} {H : Hp} {s : Shared} (I : Inv X (pins ++ pl) σ H s) : Inv X pins σ H s := I.pins_of fun p hp => I.pin p (List.mem_append_right _ (List.mem_append_left _ hp))
theorem ps_for {iter : Expr} {body : List Stmt} {wi : TI} {g : TG} {tb : TS} {pos : Pos} (hp : PassesOwn (model X.prog X.w) X.A X.env X.xe) (hc : X.calm = true) (hi : PI X tg iter wi) (hg : PG X tg g) (hb : PSs X body tb)
    (hs : ∀ x, foldedSetIterable iter X.env x = pure x := by intro _; rfl) : PS X (.For tg iter body [] pos) (tFor wi g tb) := by
  intro pins s σ H D I h
  refine wpAny_For (thn (hi pins s σ H _ I h) fun v s1 h1 => thn h1 fun itv s2 h2 => ?_) hs
  refine hideG fun G_1 back_1 => ?_
  obtain ⟨it, fp, tn, J, H2, e, I2, T, st2, f2, W, ⟨m0, w0⟩, turn⟩ := h2
  refine back_1 ?_
  clear back_1 G_1
  subst e
  have stat : ∀ {H' : Hp}, (∀ b ∈ fp, H' b = none) → ∀ b ∈ fp, FpOk X pins H' b := fun hn b hb => ⟨hn b hb, (f2 b hb).2⟩
  refine codeAny_forLoop_any (fun n s' => ∃ i σ' H', Inv X pins σ' H' s' ∧ tn i s'.heap ∧ (∀ b ∈ fp, H' b = none) ∧ W i n σ' H') ?_ m0 ⟨0, σ, H2, I2, st2, fun b hb => (f2 b hb).1, w0⟩
  intro n s3 hz_2
  refine hideG fun G_2 back_2 => ?_
  obtain ⟨i, σ3, H3, I3, st3, fr3, w3⟩ := hz_2
  refine back_2 ?_
  clear back_2 G_2
  rcases turn i n σ3 H3 w3 with ⟨stop, qn⟩ | ⟨go, N, hN, step⟩
  · refine wpAny_passesOwn hp (thn (T.done X rfl rfl rfl hc i pins s3 σ3 H3 X.xe I3 (stat fr3) st3 stop) fun r s4 ⟨hr, I4⟩ => ?_)
    subst hr
    exact wpAny_execs_nil ⟨σ3, H3, I4, qn⟩
  · refine wpAny_passesOwn hp (thn (T.item X rfl rfl rfl hc i pins s3 σ3 H3 X.xe I3 (stat fr3) st3 go) fun r s4 ⟨u, hr, h4⟩ => ?_)
    subst hr
    refine wpAny_passesOwn hp (thn h4 fun _ s5 ⟨x, H5, I5, r5, y5, st5, fr5⟩ => ?_)
    have I5' := I5.pinned (stat fr5) (T.obj _ _ st5)
    refine wpAny_passesOwn hp (thn (hg _ s5 σ3 H5 x u _ I5' r5 (step x H5 y5)) fun _ s6 ⟨σ6, H6, I6, q6⟩ => ?_)
    refine wpAny_passesOwn hp (thn (hb _ s6 σ6 H6 _ I6 q6) fun f s7 q7 => ?_)
    have again : ∀ {σ7 : St} {H7 : Hp}, Inv X (pins ++ pinsAt fp s5.heap) σ7 H7 s7 → N σ7 H7 → ∃ m, m < n ∧ ∃ i σ' H', Inv X pins σ' H' s7 ∧ tn i s7.heap ∧ (∀ b ∈ fp, H' b = none) ∧ W i m σ' H' := fun {σ7 H7} I7 n7 => by
      refine hideG fun G_3 back_3 => ?_
      obtain ⟨m', hm, w7⟩ := hN σ7 H7 n7
      refine back_3 ?_
      clear back_3 G_3
      refine ⟨m', hm, i + 1, σ7, H7, I7.unpinned, T.keep _ _ _ st5 fun b hb o e => (I7.pin (b, o) (List.mem_append_right _ (List.mem_append_right _ (mem_pinsAt hb e)))).1, fun b hb => ?_, w7⟩
      refine hideG fun G_4 back_4 => ?_
      obtain ⟨o, e, d⟩ := T.obj _ _ st5 b hb
      refine back_4 ?_
      clear back_4 G_4
      exact (I7.pin (b, o) (List.mem_append_right _ (List.mem_append_right _ (mem_pinsAt hb e)))).2.1
    cases f with
    | next => obtain ⟨σ7, H7, I7, n7⟩ := q7; exact again I7 n7
    | cont => obtain ⟨σ7, H7, I7, n7⟩ := q7; exact again I7 n7
    | brk => obtain ⟨σ7, H7, I7, q7⟩ := q7; exact ⟨σ7, H7, I7.unpinned, q7⟩
    | ret v => obtain ⟨x7, σ7, H7, I7, r7, q7⟩ := q7; exact ⟨x7, σ7, H7, I7.unpinned, r7, q7⟩
end
theorem for_list {K : PySem.W.Frag} {a : Addr} {xs : List V} {g : TG} {tb : TS} {D : Ends} {σ : St} {H : Hp} (Pv : Nat → St → Hp → Prop) (h0 : Pv 0 σ H) (hl : ∀ i σ H, i ≤ xs.length → Pv i σ H → SqL K H a xs)
    (hs : ∀ i x σ H, xs[i]? = some x → Pv i σ H → g x σ H fun σ2 H2 => tb { D with nx := Pv (i + 1), ct := Pv (i + 1), bk := D.nx } σ2 H2) (hd : ∀ σ H, Pv xs.length σ H → D.nx σ H) :
    ∃ W : Nat → Nat → St → Hp → Prop, (∃ m, W 0 m σ H) ∧ ∀ i m σ H, W i m σ H →
      ((Itl K a).stop i H ∧ D.nx σ H) ∨ ((Itl K a).go i H ∧ ∃ N : St → Hp → Prop, (∀ σ' H', N σ' H' → ∃ m', m' < m ∧ W (i + 1) m' σ' H') ∧ ∀ x H', (Itl K a).yld i H x H' → g x σ H' fun σ2 H2 => tb { D with nx := N, ct := N, bk := D.nx } σ2 H2) := by
  refine ⟨fun i m σ H => m = xs.length - i ∧ i ≤ xs.length ∧ Pv i σ H, ⟨xs.length, by simp, Nat.zero_le _, h0⟩, ?_⟩
  rintro i m σ H ⟨rfl, hi, p⟩
  have q := hl i σ H hi p
  by_cases hlt : i < xs.length
  · refine .inr ⟨⟨xs, xs[i], q, by simp [hlt]⟩, Pv (i + 1), fun σ' H' p' => ⟨xs.length - (i + 1), by omega, rfl, hlt, p'⟩, fun x H' y => ?_⟩
    obtain ⟨e, y⟩ := y
    subst e
    exact hs i x σ _ (y xs q) p
  · have e : i = xs.length := by omega
    subst e
    exact .inl ⟨⟨xs, q, Nat.le_refl _⟩, hd σ H p⟩
theorem for_range {lo : Int} {n : Nat} {g : TG} {tb : TS} {D : Ends} {σ : St} {H : Hp} (Pv : Nat → St → Hp → Prop) (h0 : Pv 0 σ H)
    (hs : ∀ i σ H, i < n → Pv i σ H → g (.int (lo + i)) σ H fun σ2 H2 => tb { D with nx := Pv (i + 1), ct := Pv (i + 1), bk := D.nx } σ2 H2) (hd : ∀ σ H, Pv n σ H → D.nx σ H) :
    ∃ W : Nat → Nat → St → Hp → Prop, (∃ m, W 0 m σ H) ∧ ∀ i m σ H, W i m σ H →
      ((Itr lo n).stop i H ∧ D.nx σ H) ∨ ((Itr lo n).go i H ∧ ∃ N : St → Hp → Prop, (∀ σ' H', N σ' H' → ∃ m', m' < m ∧ W (i + 1) m' σ' H') ∧ ∀ x H', (Itr lo n).yld i H x H' → g x σ H' fun σ2 H2 => tb { D with nx := N, ct := N, bk := D.nx } σ2 H2) := by
  refine ⟨fun i m σ H => m = n - i ∧ i ≤ n ∧ Pv i σ H, ⟨n, by simp, Nat.zero_le _, h0⟩, ?_⟩
  rintro i m σ H ⟨rfl, hi, p⟩
  by_cases hlt : i < n
  · refine .inr ⟨hlt, Pv (i + 1), fun σ' H' p' => ⟨n - (i + 1), by omega, rfl, hlt, p'⟩, fun x H' y => ?_⟩
    obtain ⟨e, y⟩ := y
    subst e y
    exact hs i σ _ hlt p
  · have e : i = n := by omega
    subst e
    exact .inl ⟨Nat.le_refl _, hd σ H p⟩
end L2
namespace L2
open PySem PySem.Spec PyProof.Rows
noncomputable abbrev R2 := V → V → Hp → VK → Prop
noncomputable def OpR (X : Cx) (f : Value → Value → Sem Value) (r : R2) : Prop :=
  ∀ (pins : List (Addr × Obj)) (s : Shared) (σ : St) (H : Hp) (x y : V) (v u : Value) (Q : VK), Inv X pins σ H s → RelV x v → RelV y u → r x y H Q →
    wpAny (model X.prog X.w) X.A (f v u) (EP X pins σ Q) X.xe s
noncomputable def UnR (X : Cx) (f : Value → Sem Value) (r : V → Hp → VK → Prop) : Prop :=
  ∀ (pins : List (Addr × Obj)) (s : Shared) (σ : St) (H : Hp) (x : V) (v : Value) (Q : VK), Inv X pins σ H s → RelV x v → r x H Q →
    wpAny (model X.prog X.w) X.A (f v) (EP X pins σ Q) X.xe s
noncomputable def CallR (X : Cx) (f : Value) (r : List V → Hp → VK → Prop) : Prop :=
  ∀ (pins : List (Addr × Obj)) (s : Shared) (σ : St) (H : Hp) (xs : List V) (us : List Value) (Q : VK), Inv X pins σ H s → Vals xs us → r xs H Q →
    wpAny (model X.prog X.w) X.A (call f us) (EP X pins σ Q) X.xe s
noncomputable def TruR (X : Cx) (r : V → Hp → (Bool → Hp → Prop) → Prop) : Prop :=
  ∀ (pins : List (Addr × Obj)) (s : Shared) (σ : St) (H : Hp) (x : V) (v : Value) (Q : Bool → Hp → Prop), Inv X pins σ H s → RelV x v → r x H Q →
    wpAny (model X.prog X.w) X.A (truthy v) (TP X pins σ Q) X.xe s
noncomputable def tOp (r : R2) (ta tb : TE) : TE := fun σ H Q => ta σ H fun x H1 => tb σ H1 fun y H2 => r x y H2 Q
noncomputable def tUn (r : V → Hp → VK → Prop) (ta : TE) : TE := fun σ H Q => ta σ H fun x H1 => r x H1 Q
inductive RII (C : Int → Int → Prop) (g : Int → Int → V) (x : V) (y : V) (H : Hp) (Q : VK) : Prop
  | mk (i j) (h_0 : x = .int i) (h_1 : y = .int j) (h_2 : C i j) (h_3 : Q (g i j) H) : RII C g x y H Q
noncomputable def rI (C : Int → Int → Prop) (g : Int → Int → V) : R2 := fun x y H Q => RII C g x y H Q
inductive RI0I (g : Int → Int → V) (x : V) (y : V) (H : Hp) (Q : VK) : Prop
  | mk (i j) (h_0 : x = .int i) (h_1 : y = .int j) (h_2 : Q (g i j) H) : RI0I g x y H Q
noncomputable def rI0 (g : Int → Int → V) : R2 := fun x y H Q => RI0I g x y H Q
noncomputable def rU (g : Int → V) : V → Hp → VK → Prop := fun x H Q => ∃ i, x = .int i ∧ Q (g i) H
section
variable {X : Cx} {a b c : Expr} {ta tb tc : TE} {pos : Pos}
theorem binT (ha : PE X a ta) (hb : PE X b tb) {pins : List (Addr × Obj)} {s : Shared} {σ : St} {H : Hp} {R : V → V → Hp → Prop} (I : Inv X pins σ H s)
    (h : ta σ H fun x H1 => tb σ H1 fun y H2 => R x y H2) {Q : Value → Shared → Prop} {f : Value → Value → Sem Value}
    (hf : ∀ v u s2 x y H2, Inv X pins σ H2 s2 → RelV x v → RelV y u → R x y H2 → wpAny (model X.prog X.w) X.A (f v u) Q X.xe s2) :
    wpAny (model X.prog X.w) X.A (eval a X.env) (fun v s₁ => wpAny (model X.prog X.w) X.A (eval b X.env) (fun u s₂ => wpAny (model X.prog X.w) X.A (f v u) Q X.xe s₂) X.xe s₁) X.xe s := by
  refine thn (ha pins s σ H _ I h) fun v s1 ⟨x, H1, I1, r1, q1⟩ => ?_
  refine thn (hb pins s1 σ H1 _ I1 q1) fun u s2 ⟨y, H2, I2, r2, q2⟩ => ?_
  exact hf v u s2 x y H2 I2 r1 r2 q2
theorem pe_op {op : Operator} {r : R2} (ho : OpR X (binaryOp op) r) (ha : PE X a ta) (hb : PE X b tb) : PE X (.BinOp a op b pos) (tOp r ta tb) := by
  intro pins s σ H Q I h
  exact wpAny_BinOp (binT ha hb I h fun v u s2 x y H2 I2 rx ry q => ho pins s2 σ H2 x y v u Q I2 rx ry q)
theorem pe_un {op : UnaryOp} {r : V → Hp → VK → Prop} (ho : UnR X (unaryOp op) r) (ha : PE X a ta) : PE X (.UnaryOp op a pos) (tUn r ta) := by
  intro pins s σ H Q I h
  exact UnaryOp_ (thn (ha pins s σ H _ I h) fun v s1 ⟨x, H1, I1, r1, q1⟩ => ho pins s1 σ H1 x v Q I1 r1 q1)
theorem opI {f : Value → Value → Sem Value} {C : Int → Int → Prop} {g : Int → Int → Int}
    (rule : ∀ (i j : Int) (t u : Tok) (s : Shared) (Q : Value → Shared → Prop) (E : Value → Shared → Prop), C i j → Q (.int (g i j) s.toks) { s with toks := s.toks + 1 } → wpAny (model X.prog X.w) X.A (f (.int i t) (.int j u)) Q E s) :
    OpR X f (rI C fun i j => .int (g i j)) := by
  intro pins s σ H x y v u Q I rx ry h
  obtain ⟨i, j, rfl, rfl, hc, q⟩ := h
  obtain ⟨t, rfl⟩ := rx
  obtain ⟨t', rfl⟩ := ry
  exact rule i j t t' s _ _ hc ⟨.int (g i j), H, I.tok _, ⟨_, rfl⟩, q⟩
theorem opI0 {f : Value → Value → Sem Value} {g : Int → Int → Int}
    (rule : ∀ (i j : Int) (t u : Tok) (s : Shared) (Q : Value → Shared → Prop) (E : Value → Shared → Prop), Q (.int (g i j) s.toks) { s with toks := s.toks + 1 } → wpAny (model X.prog X.w) X.A (f (.int i t) (.int j u)) Q E s) :
    OpR X f (rI0 fun i j => .int (g i j)) := by
  intro pins s σ H x y v u Q I rx ry h
  obtain ⟨i, j, rfl, rfl, q⟩ := h
  obtain ⟨t, rfl⟩ := rx
  obtain ⟨t', rfl⟩ := ry
  exact rule i j t t' s _ _ ⟨.int (g i j), H, I.tok _, ⟨_, rfl⟩, q⟩
theorem opB0 {f : Value → Value → Sem Value} {g : Int → Int → Bool}
    (rule : ∀ (i j : Int) (t u : Tok) (s : Shared) (Q : Value → Shared → Prop) (E : Value → Shared → Prop), Q (.bool (g i j)) s → wpAny (model X.prog X.w) X.A (f (.int i t) (.int j u)) Q E s) :
    OpR X f (rI0 fun i j => .bl (g i j)) := by
  intro pins s σ H x y v u Q I rx ry h
  obtain ⟨i, j, rfl, rfl, q⟩ := h
  obtain ⟨t, rfl⟩ := rx
  obtain ⟨t', rfl⟩ := ry
  exact rule i j t t' s _ _ ⟨.bl (g i j), H, I, rfl, q⟩
noncomputable def CDiv (i j : Int) : Prop := 0 < j ∧ j < 1073741824
noncomputable def CMul (i j : Int) : Prop := (-(2 ^ 64) < i ∧ i < 2 ^ 64) ∨ (-(2 ^ 64) < j ∧ j < 2 ^ 64)
theorem CMul.ok {i j : Int} (h : CMul i j) : IntMulOk i j := by
  rcases h with ⟨h1, h2⟩ | ⟨h1, h2⟩
  · exact .of_left (intBits_le_64 h1 h2)
  · exact .of_right (intBits_le_64 h1 h2)
theorem op_add : OpR X (binaryOp .Add) (rI0 fun i j => .int (i + j)) := opI0 fun _ _ _ _ _ _ _ q => add_int q
theorem op_sub : OpR X (binaryOp .Sub) (rI0 fun i j => .int (i - j)) := opI0 fun _ _ _ _ _ _ _ q => sub_int q
theorem op_mul : OpR X (binaryOp .Mult) (rI CMul fun i j => .int (i * j)) := opI fun _ _ _ _ _ _ _ hc q => mul_int q hc.ok
theorem op_fdiv : OpR X (binaryOp .FloorDiv) (rI CDiv fun i j => .int (i / j)) := opI fun i j _ _ _ _ _ hc q => by
  have h1 : (0 : Int) < j := hc.1
  have h2 : j < 1073741824 := hc.2
  exact floordiv_int (by omega) (by rw [Int.fdiv_eq_ediv_of_nonneg i (by omega)]; exact q) (.inl (PyProof.noPylong_small (by omega)))
theorem op_mod : OpR X (binaryOp .Mod) (rI (fun _ j => 0 < j) fun i j => .int (i % j)) := opI fun i j _ _ _ _ _ hc q => by
  have h1 : (0 : Int) < j := hc
  exact mod_int' (by omega) (by rw [Int.fmod_eq_emod_of_nonneg i (by omega)]; exact q)
theorem unI {f : Value → Sem Value} {g : Int → Int}
    (rule : ∀ (i : Int) (t : Tok) (s : Shared) (Q : Value → Shared → Prop) (E : Value → Shared → Prop), Q (.int (g i) s.toks) { s with toks := s.toks + 1 } → wpAny (model X.prog X.w) X.A (f (.int i t)) Q E s) :
    UnR X f (rU fun i => .int (g i)) := by
  intro pins s σ H x v Q I rx h
  obtain ⟨i, rfl, q⟩ := h
  obtain ⟨t, rfl⟩ := rx
  exact rule i t s _ _ ⟨.int (g i), H, I.tok _, ⟨_, rfl⟩, q⟩
theorem un_neg : UnR X (unaryOp .USub) (rU fun i => .int (-i)) := unI fun _ _ _ _ _ q => neg_int q
end
noncomputable def scal : V → V → Bool
  | .non, .non => true | .non, .int _ => true | .int _, .non => true | .non, .bl _ => true | .bl _, .non => true | .non, .str _ => true | .str _, .non => true
  | .int _, .int _ => true | .bl _, .bl _ => true | .str _, .str _ => true | .byt _, .byt _ => true
  | .int _, .str _ => true | .str _, .int _ => true | .bl _, .str _ => true | .str _, .bl _ => true
  | _, _ => false
noncomputable def rEq : R2 := fun x y H Q => scal x y = true ∧ Q (.bl (decide (x = y))) H
noncomputable def rNe : R2 := fun x y H Q => scal x y = true ∧ Q (.bl (!decide (x = y))) H
theorem dec_int {i j : Int} : decide (V.int i = V.int j) = (i == j) := by
  rw [Bool.eq_iff_iff]
  simp
theorem dec_bl {i j : Bool} : decide (V.bl i = V.bl j) = (i == j) := by
  rw [Bool.eq_iff_iff]
  simp
theorem dec_str {i j : Str} : decide (V.str i = V.str j) = (i == j) := by
  rw [Bool.eq_iff_iff]
  simp
theorem dec_byt {i j : Array UInt8} : decide (V.byt i = V.byt j) = (i.toList == j.toList) := by
  rw [Bool.eq_iff_iff]
  cases i
  cases j
  simp
section
variable {X : Cx} {a b c : Expr} {ta tb tc : TE} {pos : Pos}
theorem fin_bl {pins : List (Addr × Obj)} {σ : St} {H : Hp} {s : Shared} {Q : VK} {k k' : Bool} (I : Inv X pins σ H s) (q : Q (.bl k) H) (e : k = k') : EP X pins σ Q (.bool k') s := by
  subst e
  exact ⟨.bl k, H, I, rfl, q⟩
theorem op_eq : OpR X (compareOp .Eq) rEq := by
  intro pins s σ H x y v u Q I rx ry h
  obtain ⟨hs, q⟩ := h
  cases x with
  | non =>
    cases rx
    cases y with
    | non => cases ry; exact PySem.EqNone.eq_none_none (fin_bl I q (by simp))
    | bl j => cases ry; exact PySem.EqNone.eq_none_bool (fin_bl I q (by simp))
    | int j => obtain ⟨t', rfl⟩ := ry; exact PySem.EqNone.eq_none_int (fin_bl I q (by simp))
    | str j => obtain ⟨t', rfl⟩ := ry; exact PySem.EqNone.eq_none_str (fin_bl I q (by simp))
    | _ => exact absurd (show false = true from hs) Bool.false_ne_true
  | bl i =>
    cases rx
    cases y with
    | non => cases ry; exact PySem.EqNone.eq_bool_none (fin_bl I q (by simp))
    | bl j => cases ry; exact eq_bool (fin_bl I q dec_bl)
    | str j => obtain ⟨t', rfl⟩ := ry; exact PySem.EqMixed.eq_bool_str (fin_bl I q (by simp))
    | _ => exact absurd (show false = true from hs) Bool.false_ne_true
  | int i =>
    obtain ⟨t, rfl⟩ := rx
    cases y with
    | non => cases ry; exact PySem.EqNone.eq_int_none (fin_bl I q (by simp))
    | int j => obtain ⟨t', rfl⟩ := ry; exact eq_int (fin_bl I q dec_int)
    | str j => obtain ⟨t', rfl⟩ := ry; exact PySem.EqMixed.eq_int_str (fin_bl I q (by simp))
    | _ => exact absurd (show false = true from hs) Bool.false_ne_true
  | str i =>
    obtain ⟨t, rfl⟩ := rx
    cases y with
    | non => cases ry; exact PySem.EqNone.eq_str_none (fin_bl I q (by simp))
    | bl j => cases ry; exact PySem.EqMixed.eq_str_bool (fin_bl I q (by simp))
    | int j => obtain ⟨t', rfl⟩ := ry; exact PySem.EqMixed.eq_str_int (fin_bl I q (by simp))
    | str j => obtain ⟨t', rfl⟩ := ry; exact eq_str (fin_bl I q dec_str)
    | _ => exact absurd (show false = true from hs) Bool.false_ne_true
  | byt i =>
    obtain ⟨t, rfl⟩ := rx
    cases y with
    | byt j => obtain ⟨t', rfl⟩ := ry; exact PySem.W.eq_bytes (fin_bl I q dec_byt)
    | _ => exact absurd (show false = true from hs) Bool.false_ne_true
  | _ => cases y <;> exact absurd (show false = true from hs) Bool.false_ne_true
theorem op_ne : OpR X (compareOp .NotEq) rNe := by
  intro pins s σ H x y v u Q I rx ry h
  obtain ⟨hs, q⟩ := h
  cases x with
  | non =>
    cases rx
    cases y with
    | non => cases ry; exact PySem.EqNone.ne_none_none (fin_bl I q (by simp))
    | bl j => cases ry; exact PySem.EqNone.ne_none_bool (fin_bl I q (by simp))
    | int j => obtain ⟨t', rfl⟩ := ry; exact PySem.EqNone.ne_none_int (fin_bl I q (by simp))
    | str j => obtain ⟨t', rfl⟩ := ry; exact PySem.EqNone.ne_none_str (fin_bl I q (by simp))
    | _ => exact absurd (show false = true from hs) Bool.false_ne_true
  | bl i =>
    cases rx
    cases y with
    | non => cases ry; exact PySem.EqNone.ne_bool_none (fin_bl I q (by simp))
    | bl j => cases ry; exact ne_bool (fin_bl I q (congrArg not dec_bl))
    | str j => obtain ⟨t', rfl⟩ := ry; exact PySem.EqMixed.ne_bool_str (fin_bl I q (by simp))
    | _ => exact absurd (show false = true from hs) Bool.false_ne_true
  | int i =>
    obtain ⟨t, rfl⟩ := rx
    cases y with
    | non => cases ry; exact PySem.EqNone.ne_int_none (fin_bl I q (by simp))
    | int j => obtain ⟨t', rfl⟩ := ry; exact ne_int (fin_bl I q (congrArg not dec_int))
    | str j => obtain ⟨t', rfl⟩ := ry; exact PySem.EqMixed.ne_int_str (fin_bl I q (by simp))
    | _ => exact absurd (show false = true from hs) Bool.false_ne_true
  | str i =>
    obtain ⟨t, rfl⟩ := rx
    cases y with
    | non => cases ry; exact PySem.EqNone.ne_str_none (fin_bl I q (by simp))
    | bl j => cases ry; exact PySem.EqMixed.ne_str_bool (fin_bl I q (by simp))
    | int j => obtain ⟨t', rfl⟩ := ry; exact PySem.EqMixed.ne_str_int (fin_bl I q (by simp))
    | str j => obtain ⟨t', rfl⟩ := ry; exact ne_str (fin_bl I q (congrArg not dec_str))
    | _ => exact absurd (show false = true from hs) Bool.false_ne_true
  | byt i =>
    obtain ⟨t, rfl⟩ := rx
    cases y with
    | byt j => obtain ⟨t', rfl⟩ := ry; exact PySem.W.ne_bytes (fin_bl I q (congrArg not dec_byt))
    | _ => exact absurd (show false = true from hs) Bool.false_ne_true
  | _ => cases y <;> exact absurd (show false = true from hs) Bool.false_ne_true
theorem op_lt : OpR X (compareOp .Lt) (rI0 fun i j => .bl (decide (i < j))) := opB0 fun _ _ _ _ _ _ _ q => lt_int q
theorem op_le : OpR X (compareOp .LtE) (rI0 fun i j => .bl (decide (i ≤ j))) := opB0 fun _ _ _ _ _ _ _ q => le_int q
theorem op_gt : OpR X (compareOp .Gt) (rI0 fun i j => .bl (decide (j < i))) := opB0 fun _ _ _ _ _ _ _ q => gt_int q
theorem op_in_str : OpR X (compareOp .In) (fun x y H Q => ∃ i j, x = .str i ∧ y = .str j ∧ Q (.bl (!(Builtin.Str.occurrences j i 0 j.length 1).isEmpty)) H) := by
  intro pins s σ H x y v u Q I rx ry h
  obtain ⟨i, j, rfl, rfl, q⟩ := h
  obtain ⟨t, rfl⟩ := rx
  obtain ⟨t', rfl⟩ := ry
  exact in_str (fin_bl I q rfl)
theorem nomark (b : Expr) {op : CmpOp} (h : op ≠ .In := by decide) (h2 : op ≠ .NotIn := by decide) : behindInMarks op b = false := by
  have e1 : (op == CmpOp.In) = false := by cases op <;> first | rfl | exact absurd rfl h
  have e2 : (op == CmpOp.NotIn) = false := by cases op <;> first | rfl | exact absurd rfl h2
  cases b <;> simp [behindInMarks, e1, e2]
theorem pe_cmpR {op : CmpOp} {r : R2} (ho : OpR X (compareOp op) r) (ha : PE X a ta) (hb : PE X b tb) (hm : behindInMarks op b = false) : PE X (.Compare a [op] [b] pos) (tOp r ta tb) := by
  intro pins s σ H Q I h
  exact wpAny_Compare1 (binT ha hb I h fun v u s2 x y H2 I2 rx ry q => ho pins s2 σ H2 x y v u Q I2 rx ry q) hm
noncomputable def tTest (t : TE) : TT := fun σ H Q => t σ H fun x H' => BlI x fun k => Q k H'
theorem pt_cmpR {op : CmpOp} {r : R2} (ho : OpR X (compareOp op) r) (ha : PE X a ta) (hb : PE X b tb) (hm : behindInMarks op b = false) : PT X (.Compare a [op] [b] pos) (tTest (tOp r ta tb)) := by
  intro pins s σ H Q I h
  refine wpAny_isTrue_Compare1 (thn (ha pins s σ H _ I h) fun v s1 ⟨x, H1, I1, r1, q1⟩ => thn (hb pins s1 σ H1 _ I1 q1) fun u s2 ⟨y, H2, I2, r2, q2⟩ =>
    thn (ho pins s2 σ H2 x y v u _ I2 r1 r2 q2) fun c s3 ⟨z, H3, I3, r3, k, e, q3⟩ => ?_) hm
  subst e
  cases r3
  exact wpAny_truthy_bool ⟨H3, I3, q3⟩
noncomputable def TruV (K : PySem.W.Frag) (x : V) (H : Hp) (k : Bool) : Prop :=
  match x with
  | .non => k = false
  | .bl b => k = b
  | .int i => k = (i != 0)
  | .str y => y.length ≤ sizeLine ∧ k = ((y.length : Int) != 0)
  | .byt y => y.size ≤ sizeLine ∧ k = ((y.size : Int) != 0)
  | .ref p => (∃ xs, SqL K H p xs ∧ k = !xs.isEmpty) ∨ (∃ xs, SqT K H p xs ∧ k = !xs.isEmpty) ∨ ∃ kvs, H p = some (.dK kvs) ∧ k = !kvs.isEmpty
  | _ => False
theorem isEmpty_kv {κ : Type} {kvs : List (κ × V)} {vs : List (κ × Value)} (r : KV kvs vs) : (!vs.isEmpty) = !kvs.isEmpty := by
  cases r <;> rfl
theorem isEmpty_of {xs : List V} {its : List Value} (r : Vals xs its) : (!its.toArray.isEmpty) = !xs.isEmpty := by
  cases r <;> simp
theorem line63 : (sizeLine : Nat) < 2 ^ 63 := by rw [sizeLine_eq]; decide
theorem tru_ok : TruR X (fun x H Q => ∃ k, TruV X.K x H k ∧ Q k H) := by
  intro pins s σ H x v Q I rx h
  obtain ⟨k, e, q⟩ := h
  have hl := line63
  have hs : sizeLine = 16777216 := sizeLine_eq
  cases x with
  | non =>
    cases rx
    have e' : k = false := e
    subst e'
    exact truthy_none ⟨H, I, q⟩
  | bl b =>
    cases rx
    have e' : k = b := e
    subst e'
    exact wpAny_truthy_bool ⟨H, I, q⟩
  | int i =>
    obtain ⟨t, rfl⟩ := rx
    have e' : k = (i != 0) := e
    subst e'
    exact PySem.P.truthy_int ⟨H, I, q⟩
  | str y =>
    obtain ⟨t, rfl⟩ := rx
    obtain ⟨hy, e'⟩ : y.length ≤ sizeLine ∧ k = ((y.length : Int) != 0) := e
    subst e'
    exact PySem.P.truthy_str (by omega) ⟨H, I.tok _, q⟩
  | byt y =>
    obtain ⟨t, rfl⟩ := rx
    obtain ⟨hy, e'⟩ : y.size ≤ sizeLine ∧ k = ((y.size : Int) != 0) := e
    subst e'
    exact PySem.W.truthy_bytes (by omega) ⟨H, I.tok _, q⟩
  | ref p =>
    cases rx
    have e' : (∃ xs, SqL X.K H p xs ∧ k = !xs.isEmpty) ∨ (∃ xs, SqT X.K H p xs ∧ k = !xs.isEmpty) ∨ ∃ kvs, H p = some (.dK kvs) ∧ k = !kvs.isEmpty := e
    rcases e' with ⟨xs, hx, e'⟩ | ⟨xs, hx, e'⟩ | ⟨kvs, hx, e'⟩
    · subst e'
      obtain ⟨its, r, pl, hz⟩ := I.list hx
      have hlen := r.length
      exact wpAny_truthy_list pl.isList (by simp only [List.size_toArray]; omega) ⟨H, I.tok _, by rw [isEmpty_of r]; exact q⟩
    · subst e'
      obtain ⟨its, r, pl, hz⟩ := I.tuple hx
      have hlen := r.length
      exact truthy_tuple pl (by simp only [List.size_toArray]; omega) ⟨H, I.tok _, by rw [isEmpty_of r]; exact q⟩
    · subst e'
      obtain ⟨hz, hS, vs, r, m⟩ : kvs.length ≤ sizeLine ∧ (p == sysModules) = false ∧ ∃ vs, KV kvs vs ∧ s.heap.DictOf (mixKind X.prog X.w) p vs := I.hok p _ hx
      have hlen : kvs.length = vs.length := Paired.length r
      exact wpAny_truthy_dict hS m (by omega) ⟨H, I.tok _, by rw [isEmpty_kv r]; exact q⟩
  | _ => exact (show False from e).elim
theorem pt_truth (ha : PE X a ta) (he : ∀ whole, isTrue a X.env whole = (do let v ← whole; standAt a.pos; holding [v] (truthy v))) :
    PT X a (fun σ H Q => ta σ H fun x H' => ∃ k, TruV X.K x H' k ∧ Q k H') := by
  intro pins s σ H Q I h
  exact isTrue_plain (thn (ha pins s σ H _ I h) fun v s1 ⟨x, H1, I1, r1, q1⟩ => tru_ok pins s1 σ H1 x v Q I1 r1 q1) (he _)
inductive RAddS (x y : V) (H : Hp) (Q : VK) : Prop
  | mk (i j : Str) (h_0 : x = .str i) (h_1 : y = .str j) (h_2 : i.length + j.length ≤ sizeLine) (h_3 : Q (.str (i ++ j)) H) : RAddS x y H Q
theorem op_add_str : OpR X (binaryOp .Add) RAddS := by
  intro pins s σ H x y v u Q I rx ry h
  obtain ⟨i, j, rfl, rfl, hz, q⟩ := h
  obtain ⟨t, rfl⟩ := rx
  obtain ⟨t', rfl⟩ := ry
  exact add_str (fun t' tk => ⟨.str (i ++ j), H, I.tok _, ⟨_, rfl⟩, q⟩) hz
theorem vals1 {x : V} {us : List Value} (r : Vals [x] us) : ∃ u, us = [u] ∧ RelV x u := by
  cases r with
  | cons r1 r2 => cases r2; exact ⟨_, rfl, r1⟩
theorem vals2 {x y : V} {us : List Value} (r : Vals [x, y] us) : ∃ u w', us = [u, w'] ∧ RelV x u ∧ RelV y w' := by
  cases r with
  | cons r1 r2 =>
    cases r2 with
    | cons r3 r4 => cases r4; exact ⟨_, _, rfl, r1, r3⟩
theorem call_int1 : CallR X (.type "int") (fun xs H Q => (∃ i, xs = [.int i] ∧ Q (.int i) H) ∨ ∃ k, xs = [.bl k] ∧ Q (.int (if k then 1 else 0)) H) := by
  intro pins s σ H xs us Q I r h
  rcases h with ⟨i, rfl, q⟩ | ⟨k, rfl, q⟩
  · obtain ⟨u, rfl, t, rfl⟩ := vals1 r
    exact call_int_int ⟨.int i, H, I, ⟨_, rfl⟩, q⟩
  · obtain ⟨u, rfl, r1⟩ := vals1 r
    cases r1
    exact call_int_bool ⟨.int (if k then 1 else 0), H, I.tok _, ⟨_, rfl⟩, q⟩
end
end L2
namespace L2
open PySem PySem.Spec PyProof.Rows
structure ObjM (h : Heap) (x dx C : Addr) (mA : Str → Option Value) : Prop where
  obj : h.get? x = some (PySem.W.instObj C dx)
  ns : h.Ns1 dx mA
  ne : dx ≠ x
set_option tactic.hygienic true in
theorem lookIn_ns {h : Heap} {dx : Addr} {mA : Str → Option Value} (n : h.Ns1 dx mA) : ∃ od, h.get? dx = some od ∧ ∀ name, PySem.W.lookIn name od = some (mA name) := by
  obtain ⟨o, es, ep, ho, hd, hk, _, hm⟩ := n
  refine ⟨o, ho, fun name => ?_⟩
  have e := hm name
  unfold nsFind findBy at e
  rw [← Array.find?_toList] at e
  unfold PySem.W.lookIn
  rw [hd]
  dsimp only
  split
  · rename_i y q
    rw [q] at e
    exact congrArg some e
  · rename_i q
    rw [q] at e
    have a : es.toList.any (·.refKey) = false := by
      rw [List.any_eq_false]
      intro y hy
      obtain ⟨z, t, hkey⟩ := hk y (Array.mem_toList_iff.mp hy)
      simp [DictEntry.refKey, hkey]
    have a' : ¬ es.toList.any (·.refKey) = true := by rw [a]; exact Bool.false_ne_true
    rw [if_neg a']
    exact congrArg some e
theorem ObjM.look {h : Heap} {x dx C : Addr} {mA : Str → Option Value} (I : ObjM h x dx C mA) : ∃ od, PySem.W.InstAt h x (PySem.W.instObj C dx) C (some od) ∧ ∀ name, PySem.W.lookIn name od = some (mA name) :=
  let ⟨od, ho, hl⟩ := lookIn_ns I.ns
  ⟨od, ⟨I.obj, rfl, rfl, ho⟩, hl⟩
section
variable {prog : Program} {w : World} {A : Around} {E : Value → Shared → Prop} {s : Shared} {K : PySem.W.Frag} {x dx C f : Addr} {mA : Str → Option Value} {name : Str} {v : Value}
theorem get_map {expr : Bool} {Q : Value → Shared → Prop} (X : K.In s.heap) (I : ObjM s.heap x dx C mA) (hg : PySem.W.plainGet K C name = true) (hh : PySem.W.hasDictIn K C = true)
    (ha : PySem.W.findIn K (.ref C) name = some none) (hv : mA name = some v) (hv' : PySem.W.handedIn v = true) (h : Q v { s with toks := s.toks + 1 }) :
    wpAny (model prog w) A (getAttr (.ref x) name expr) Q E s := by
  obtain ⟨od, J, hl⟩ := I.look
  exact PySem.W.get_value X J (PySem.W.plainGet_of hg).1 (PySem.W.findObj_own hh ha rfl (by rw [hl, hv])) hv' h
theorem get_meth {pl : Sem Bool} {Q : Value × List Value → Shared → Prop} (X : K.In s.heap) (I : ObjM s.heap x dx C mA) (hg : PySem.W.plainGet K C name = true)
    (hf : PySem.W.findIn K (.ref C) name = some (some (.ref f))) (ht : PySem.W.isFn K (.ref f) = true) (hv : mA name = none) (h : Q (.ref f, [.ref x]) s) :
    wpAny (model prog w) A (getMethod (.ref x) name pl) Q E s := by
  obtain ⟨od, J, hl⟩ := I.look
  exact PySem.W.method_fn X J (PySem.W.plainGet_of hg).1 (PySem.W.plainGet_of hg).2 hf (beq_iff_eq.mp ht) (by show (PySem.W.lookIn name od).map (·.isSome) = some false; rw [hl, hv]; rfl) h
theorem set_map {ns : List Str} {Q : Unit → Shared → Prop} (X : K.In s.heap) (I : ObjM s.heap x dx C mA)
    (hs : PySem.W.findIn K (.ref C) "__setattr__" = some (some (.builtin "object.__setattr__"))) (hp : PySem.W.plainOver K C = true) (ht : PySem.W.takerIn K C name = some none) (hh : PySem.W.hasDictIn K C = true)
    (hw : PySem.Within mA ns) (hsz : ns.length ≤ sizeLine)
    (h : ∀ h', ObjM h' x dx C (fun y => if y = name then some v else mA y) → Heap.SameBut dx s.heap h' → Q () { s with heap := h', toks := s.toks + 2 }) :
    wpAny (model prog w) A (setAttr (.ref x) name v) Q E s := by
  obtain ⟨od, J, hl⟩ := I.look
  refine PySem.W.set_plain X J hs (PySem.W.osa_open (s := { s with toks := s.toks + 1 }) (r := none) X J hp ht fun b => ?_)
  obtain ⟨cd, hc, hd'⟩ := PySem.W.any_some hh
  have hx : s.heap.get? x = some ⟨.ref C, some dx, .plain, #[]⟩ := I.obj
  refine wpAny_bind (wpAny_pure (wpAny_bind (wpAny_bind (wpAny_loadPart hx (wpAny_bind (PySem.W.Looks.here (s := { s with toks := s.toks + 1 }) (PySem.W.looks_clsIn X hc) ?_))))))
  rw [hd']
  refine wpAny_pure (a := some dx) (wpAny_bind (wpAny_pure (wpAny_bind ?_)))
  refine wpAny_nsSet1 (s := { s with toks := s.toks + 1 }) I.ns fun h' hn2 hs2 => ?_
  obtain ⟨oD, esD, epD, hoD, hdD, hcD⟩ := hn2.count (PySem.Within.cons name v hw)
  refine wpAny_bind (wpAny_lookBehind hoD (by rw [hdD]; exact pastItsLine_dict (Nat.le_trans hcD (by rw [List.length_cons]; omega))) ?_)
  exact wpAny_pure (h _ ⟨(hs2.2 _ (Ne.symm I.ne)).trans I.obj, hn2, I.ne⟩ hs2)
theorem make_map {R : Result → Shared → Prop} {vs : List Value} {kw : List (Str × Value)} (X : K.In s.heap) (hm : PySem.W.makesIn K C = true)
    (hi : PySem.W.findIn K (.ref C) "__init__" = some (some (.ref f))) (hf : PySem.W.typeIn K (.ref f) = some (.type "function"))
    (h : codeAny (model prog w) (A.under (.builtin "type.__call__" ⟨.ref C :: vs, kw⟩)) (.call (.ref f) ⟨.ref (s.heap.objs.size + 1) :: vs, kw⟩) (PySem.W.InitBack (s.heap.objs.size + 1) R)
      { s with heap := (s.heap.push PySem.W.emptyDict).push (PySem.W.instObj C s.heap.objs.size) }) :
    codeAny (model prog w) A (.call (.ref C) ⟨vs, kw⟩) R s := by
  obtain ⟨hh, g, d, t, os⟩ := s
  exact PySem.W.make_core (PySem.W.makes_of X hm) (PySem.W.looks_findIn X hi) (fun self => PySem.W.bind_fn X self hf) (.inl rfl) h
end
noncomputable def putF (f : Str) (v : V) : List (Str × V) → List (Str × V)
  | [] => [(f, v)]
  | (g, x) :: r => if g = f then (g, v) :: r else (g, x) :: putF f v r
theorem lookup_putF (f g : Str) (v : V) : ∀ fs : List (Str × V), (putF f v fs).lookup g = if g = f then some v else fs.lookup g
  | [] => by
    show List.lookup g [(f, v)] = _
    by_cases h : g = f
    · have hb : (g == f) = true := beq_iff_eq.mpr h
      simp only [List.lookup, hb, if_pos h]
    · have hb : (g == f) = false := beq_eq_false_iff_ne.mpr h
      simp only [List.lookup, hb, if_neg h]
  | (k, x) :: r => by
    have ih := lookup_putF f g v r
    rw [show putF f v ((k, x) :: r) = (if k = f then (k, v) :: r else (k, x) :: putF f v r) from rfl]
    by_cases hk : k = f
    · rw [if_pos hk]
      by_cases h : g = k
      · have hb : (g == k) = true := beq_iff_eq.mpr h
        simp only [List.lookup, hb, if_pos (h.trans hk)]
      · have hb : (g == k) = false := beq_eq_false_iff_ne.mpr h
        simp only [List.lookup, hb, if_neg (fun e : g = f => h (e.trans hk.symm))]
    · rw [if_neg hk]
      by_cases h : g = k
      · have hb : (g == k) = true := beq_iff_eq.mpr h
        simp only [List.lookup, hb, if_neg (fun e : g = f => hk (h.symm.trans e))]
      · have hb : (g == k) = false := beq_eq_false_iff_ne.mpr h
        simp only [List.lookup, hb]
        exact ih
theorem keys_putF (f : Str) (v : V) : ∀ fs : List (Str × V), f ∈ (putF f v fs).map (·.1) ∧ ∀ g, g ∈ fs.map (·.1) → g ∈ (putF f v fs).map (·.1)
  | [] => ⟨by simp [putF], fun g h => by simp at h⟩
  | (k, x) :: r => by
    obtain ⟨i1, i2⟩ := keys_putF f v r
    rw [show putF f v ((k, x) :: r) = (if k = f then (k, v) :: r else (k, x) :: putF f v r) from rfl]
    by_cases hk : k = f
    · rw [if_pos hk]
      subst hk
      exact ⟨by simp, fun g h => by simpa using h⟩
    · rw [if_neg hk]
      refine ⟨?_, fun g h => ?_⟩
      · rw [List.map_cons]
        exact List.mem_cons_of_mem _ i1
      · rw [List.map_cons] at h ⊢
        rcases List.mem_cons.mp h with e | e
        · exact List.mem_cons.mpr (.inl e)
        · exact List.mem_cons_of_mem _ (i2 g e)
theorem length_putF (f : Str) (v : V) : ∀ fs : List (Str × V), (putF f v fs).length ≤ fs.length + 1
  | [] => by simp [putF]
  | (k, x) :: r => by
    have ih := length_putF f v r
    rw [show putF f v ((k, x) :: r) = (if k = f then (k, v) :: r else (k, x) :: putF f v r) from rfl]
    by_cases hk : k = f
    · rw [if_pos hk, List.length_cons, List.length_cons]; omega
    · rw [if_neg hk, List.length_cons, List.length_cons]; omega
theorem RelO.some_of {v : V} {o : Option Value} (r : RelO (some v) o) : ∃ u, o = some u ∧ RelV v u := by
  cases o with
  | none => exact (show False from r).elim
  | some u => exact ⟨u, rfl, r⟩
theorem RelO.none_of {o : Option Value} (r : RelO none o) : o = none := by
  cases o with
  | none => rfl
  | some u => exact (show False from r).elim
theorem handed_of {v : V} {u : Value} (r : RelV v u) : PySem.W.handedIn u = true := by
  cases v with
  | non => cases (show u = Value.none from r); rfl
  | bl b => cases (show u = Value.bool b from r); rfl
  | int i => obtain ⟨t, e⟩ := (show ∃ t, u = Value.int i t from r); cases e; rfl
  | str x => obtain ⟨t, e⟩ := (show ∃ t, u = Value.str x t from r); cases e; rfl
  | byt b => obtain ⟨t, e⟩ := (show ∃ t, u = Value.bytes b t from r); cases e; rfl
  | flt b => obtain ⟨t, e⟩ := (show ∃ t, u = Value.float b t from r); cases e; rfl
  | ref a => cases (show u = Value.ref a from r); rfl
  | ty n => cases (show u = Value.type n from r); rfl
section
variable {P : Program} {w : World} {H H' : Hp} {h h' : Heap} {a C dx : Addr} {fs fs' : List (Str × V)}
theorem ins_get (hok : HOk P w H h) (e : H a = some (.ins C dx fs)) : ∃ mA, ObjM h a dx C mA ∧ (∀ f, RelO (fs.lookup f) (mA f)) ∧ PySem.Within mA (fs.map (·.1)) ∧ fs.length ≤ 1000 ∧ H dx = some (.own a) := by
  obtain ⟨d, z, ne, ob, mA, n, r, q⟩ := (show ObjOk P w H h a (.ins C dx fs) from hok a _ e)
  exact ⟨mA, ⟨ob, n, ne⟩, r, q, z, d⟩
end
structure Cls (K : PySem.W.Frag) (C : Addr) : Prop where
  pg : PySem.W.plainGet K C Str.empty = true
  hd : PySem.W.hasDictIn K C = true
  po : PySem.W.plainOver K C = true
  sa : PySem.W.findIn K (.ref C) "__setattr__" = some (some (.builtin "object.__setattr__"))
theorem Cls.get {K : PySem.W.Frag} {C : Addr} (c : Cls K C) (f : Str) : PySem.W.plainGet K C f = true := c.pg
noncomputable def NoAttr (K : PySem.W.Frag) (C : Addr) (f : Str) : Prop := PySem.W.findIn K (.ref C) f = some none
theorem NoAttr.taker {K : PySem.W.Frag} {C : Addr} {f : Str} (n : NoAttr K C f) : PySem.W.takerIn K C f = some none := by
  unfold PySem.W.takerIn
  rw [show PySem.W.findIn K (.ref C) f = some none from n]
  rfl
structure Meth (K : PySem.W.Frag) (C : Addr) (m : Str) (f : Addr) : Prop where
  at_ : PySem.W.findIn K (.ref C) m = some (some (.ref f))
  fn : PySem.W.isFn K (.ref f) = true
  kp : PySem.W.keepIn K (.ref f) = true
section
variable {X : Cx} {pins : List (Addr × Obj)} {σ : St} {H : Hp} {s : Shared} {a C dx : Addr} {fs : List (Str × V)} {f : Str} {v : V} {A : Around} {E : Value → Shared → Prop}
theorem getattr_ok {b : Bool} {Q : Value → Shared → Prop} (I : Inv X pins σ H s) (e : H a = some (.ins C dx fs)) (c : Cls X.K C) (n : NoAttr X.K C f) (l : fs.lookup f = some v)
    (h : ∀ u s', Inv X pins σ H s' → RelV v u → Q u s') : wpAny (model X.prog X.w) A (getAttr (.ref a) f b) Q E s := by
  obtain ⟨mA, O, r, _, _, _⟩ := ins_get I.hok e
  obtain ⟨u, hu, ru⟩ := RelO.some_of (v := v) (o := mA f) (by rw [← l]; exact r f)
  exact get_map I.kIn O (c.get f) c.hd n hu (handed_of ru) (h u _ (I.tok _) ru)
theorem getmeth_ok {m : Str} {g : Addr} {pl : Sem Bool} {Q : Value × List Value → Shared → Prop} (I : Inv X pins σ H s) (e : H a = some (.ins C dx fs)) (c : Cls X.K C) (k : Meth X.K C m g) (l : fs.lookup m = none)
    (h : Q (.ref g, [.ref a]) s) : wpAny (model X.prog X.w) A (getMethod (.ref a) m pl) Q E s := by
  obtain ⟨mA, O, r, _, _, _⟩ := ins_get I.hok e
  have hn : mA m = none := RelO.none_of (by rw [← l]; exact r m)
  exact get_meth I.kIn O (c.get m) k.at_ k.fn hn h
theorem setattr_ok {y : V} {u : Value} {Q : Unit → Shared → Prop} (I : Inv X pins σ H s) (e : H a = some (.ins C dx fs)) (c : Cls X.K C) (n : NoAttr X.K C f) (hl : fs.length < 1000) (ry : RelV y u)
    (h : ∀ s', Inv X pins σ (upd H a (.ins C dx (putF f y fs))) s' → Q () s') : wpAny (model X.prog X.w) A (setAttr (.ref a) f u) Q E s := by
  obtain ⟨mA, O, r, wi, _, ho⟩ := ins_get I.hok e
  have hz : (fs.map (·.1)).length ≤ sizeLine := by rw [List.length_map, sizeLine_eq]; omega
  refine set_map I.kIn O c.sa c.po n.taker c.hd wi hz fun h' O' sb => h _ ?_
  have hd : ∃ o, h'.get? dx = some o := let ⟨o, _, _, e', _⟩ := O'.ns; ⟨o, e'⟩
  refine I.write (x := a) (e := dx) (by rw [e]; exact True.intro) (.inr ho) (fun b q hb z => (sb.2 b hb).trans z) hd ?_
  refine ⟨by rw [upd_ne O.ne]; exact ho, ?_, O.ne, O'.obj, _, O'.ns, fun g => ?_, fun g hg => ?_⟩
  · have := length_putF f y fs; omega
  · show RelO ((putF f y fs).lookup g) (if g = f then some u else mA g)
    rw [lookup_putF]
    by_cases q : g = f
    · rw [if_pos q, if_pos q]; exact ry
    · rw [if_neg q, if_neg q]; exact r g
  · by_cases q : g = f
    · rw [q]; exact (keys_putF f y fs).1
    · refine (keys_putF f y fs).2 g (wi g fun z => hg ?_)
      show (if g = f then some u else mA g) = none
      rw [if_neg q]; exact z
theorem Inv.made (I : Inv X pins σ H s) : Inv X pins σ (upd (upd H s.heap.objs.size (.own (s.heap.objs.size + 1))) (s.heap.objs.size + 1) (.ins C s.heap.objs.size []))
    { s with heap := (s.heap.push PySem.W.emptyDict).push (PySem.W.instObj C s.heap.objs.size) } := by
  have e1 : (s.heap.push PySem.W.emptyDict).get? s.heap.objs.size = some PySem.W.emptyDict := Heap.get?_push_size s.heap rfl
  have e2 : ((s.heap.push PySem.W.emptyDict).push (PySem.W.instObj C s.heap.objs.size)).get? (s.heap.objs.size + 1) = some (PySem.W.instObj C s.heap.objs.size) := by
    have := Heap.get?_push_size (s.heap.push PySem.W.emptyDict) (o := PySem.W.instObj C s.heap.objs.size) rfl
    rwa [Heap.size_push] at this
  have e3 : (s.heap.push PySem.W.emptyDict).Ns s.heap.objs.size (fun _ => none) := ⟨PySem.W.emptyDict, #[], _, e1, rfl, (fun e he => absurd he (by simp)), fun _ => rfl⟩
  have I1 := I.laid (a := s.heap.objs.size) (o := .own (s.heap.objs.size + 1)) (h' := s.heap.push PySem.W.emptyDict) (t' := s.toks) (fun b u q => Heap.get?_push_of_some _ q) (Nat.le_refl _) ⟨_, e1⟩
  refine I1.laid (a := s.heap.objs.size + 1) (o := .ins C s.heap.objs.size []) (t' := s.toks) (fun b u q => Heap.get?_push_of_some _ q) (Nat.le_of_eq (Heap.size_push _ _)) ?_
  have ne : s.heap.objs.size ≠ s.heap.objs.size + 1 := Nat.ne_of_lt (Nat.lt_succ_self _)
  refine ⟨by rw [upd_ne ne, upd_same], Nat.zero_le _, ne, e2, fun _ => none, (Heap.Ns1.of_empty e3).at fun o q => Heap.get?_push_of_some _ q, fun _ => True.intro, fun y hy => absurd rfl hy⟩
theorem attr_of {prog : Program} {w : World} {env : Env} {e : Expr} {f : Str} {pos : Pos} {s : Shared} {Q : Value → Shared → Prop} (hb : attributeBase e f env (eval e env) = eval e env)
    (h : wpAny (model prog w) A (eval e env) (fun o s₁ => wpAny (model prog w) A (getAttr o f true) Q E s₁) E s) : wpAny (model prog w) A (eval (.Attribute e f pos) env) Q E s :=
  Attribute_any_ h (by rw [arm_eval_Attribute, hb])
end
inductive FldI (K : PySem.W.Frag) (f : Str) (x : V) (H1 : Hp) (k : Addr → Addr → V → Prop) : Prop
  | mk (a C dx fs v) (h_0 : x = .ref a) (h_1 : H1 a = some (.ins C dx fs)) (h_2 : Cls K C) (h_3 : NoAttr K C f) (h_4 : fs.lookup f = some v) (q : k a C v) : FldI K f x H1 k
noncomputable def tFld (K : PySem.W.Frag) (ta : TE) (f : Str) : TE := fun σ H Q => ta σ H fun x H1 => FldI K f x H1 fun _ _ v => Q v H1
noncomputable def sFld (K : PySem.W.Frag) (ta tv : TE) (f : Str) : TS := fun D σ H => tv σ H fun y H1 => ta σ H1 fun x H2 => ∃ a C dx fs, x = .ref a ∧ H2 a = some (.ins C dx fs) ∧ Cls K C ∧ NoAttr K C f ∧ fs.length < 1000 ∧
  D.nx σ (upd H2 a (.ins C dx (putF f y fs)))
noncomputable def InOp (X : Cx) (op : Operator) (rd : V → V → Hp → VK → Prop) : Prop :=
  ∀ (pins : List (Addr × Obj)) (s : Shared) (σ : St) (H : Hp) (x y : V) (u v : Value) (Q : VK), Inv X pins σ H s → RelV x u → RelV y v → rd x y H Q → wpAny (model X.prog X.w) X.A (inplaceOp op u v) (EP X pins σ Q) X.xe s
noncomputable def sFldAug (K : PySem.W.Frag) (ta tv : TE) (rd : V → V → Hp → VK → Prop) (f : Str) : TS := fun D σ H => ta σ H fun x H1 => FldI K f x H1 fun a C v =>
  tv σ H1 fun y H2 => rd v y H2 fun z H3 => ∃ dx' fs', H3 a = some (.ins C dx' fs') ∧ fs'.length < 1000 ∧ D.nx σ (upd H3 a (.ins C dx' (putF f z fs')))
section
variable {X : Cx} {o e value : Expr} {f : Str} {pos pos' tpos : Pos} {ta tv : TE}
theorem pe_fld (he : PE X e ta) (hb : attributeBase e f X.env (eval e X.env) = eval e X.env) : PE X (.Attribute e f pos) (tFld X.K ta f) := by
  intro pins s σ H Q I h
  refine attr_of hb (thn (he pins s σ H _ I h) fun u s1 ⟨x, H1, I1, rx, a, C, dx, fs, v, ex, ea, c, n, l, q⟩ => ?_)
  subst ex
  obtain rfl : u = Value.ref a := rx
  exact getattr_ok I1 ea c n l fun u' s2 I2 ru => ⟨v, H1, I2, ru, q⟩
theorem ps_fld (ha : PE X o ta) (hv : PE X value tv) (hs : swapsWith value (some (.Attribute o f pos')) pos.line X.env = pure false) : PS X (.Assign [.Attribute o f pos'] value pos) (sFld X.K ta tv f) := by
  intro pins s σ H D I h
  refine plainObj_wpAny_Assign_Attribute (thn (hv pins s σ H _ I h) fun u s1 ⟨y, H1, I1, ry, q⟩ => thn (ha pins s1 σ H1 _ I1 q) fun ov s2 ⟨x, H2, I2, rx, a, C, dx, fs, ex, ea, c, n, l, q2⟩ => ?_) hs
  subst ex
  obtain rfl : ov = Value.ref a := rx
  exact setattr_ok I2 ea c n l ry fun s3 I3 => ⟨σ, _, I3, q2⟩
theorem ps_fldaug {op : Operator} {rd : V → V → Hp → VK → Prop} (ha : PE X o ta) (hv : PE X value tv) (hop : InOp X op rd) : PS X (.AugAssign (.Attribute o f tpos) op value pos) (sFldAug X.K ta tv rd f) := by
  intro pins s σ H D I h
  refine wpAny_AugAssign_AttributeAny (thn (ha pins s σ H _ I h) fun ov s1 ⟨x, H1, I1, rx, a, C, dx, fs, v, ex, ea, c, n, l, q⟩ => ?_)
  subst ex
  obtain rfl : ov = Value.ref a := rx
  refine getattr_ok I1 ea c n l fun u s2 I2 ru => thn (hv pins s2 σ H1 _ I2 q) fun w3 s3 ⟨y, H2, I3, ry, q3⟩ => thn (hop pins s3 σ H2 v y u w3 _ I3 ru ry q3) fun w4 s4 ⟨z, H3, I4, rz, dx', fs', ea', l', q4⟩ => ?_
  exact setattr_ok I4 ea' c n l' rz fun s5 I5 => ⟨σ, _, I5, q4⟩
noncomputable def rAdd : V → V → Hp → VK → Prop := fun x y H Q => ∃ i j, x = .int i ∧ y = .int j ∧ Q (.int (i + j)) H
theorem in_add : InOp X .Add rAdd := by
  rintro pins s σ H x y u v Q I rx ry ⟨i, j, rfl, rfl, q⟩
  obtain ⟨t, rfl⟩ := (show ∃ t, u = Value.int i t from rx)
  obtain ⟨t', rfl⟩ := (show ∃ t', v = Value.int j t' from ry)
  exact PyProof.Rows.iadd_int ⟨.int (i + j), H, I.tok _, ⟨_, rfl⟩, q⟩
end
section
variable {X : Cx} {pins : List (Addr × Obj)} {σ : St} {H : Hp} {s : Shared} {A : Around} {E : Value → Shared → Prop} {Q : Value → Shared → Prop} {c : Value} {b : Bool}
inductive TyOf (K : PySem.W.Frag) (H : Hp) : V → Value → Prop where
  | non : TyOf K H .non (.type "NoneType")
  | bl (x : Bool) : TyOf K H (.bl x) (.type "bool")
  | int (i : Int) : TyOf K H (.int i) (.type "int")
  | str (x : Str) : TyOf K H (.str x) (.type "str")
  | flt (x : UInt64) : TyOf K H (.flt x) (.type "float")
  | lst {a : Addr} {xs : List V} (e : H a = some (.lst xs)) : TyOf K H (.ref a) (.type "list")
  | frz {a : Addr} {o : Obj} {xs : List V} (e : H a = some (.frz o (.lst xs))) : TyOf K H (.ref a) (.type "list")
  | tup {a : Addr} {xs : List V} (e : H a = some (.tup xs)) : TyOf K H (.ref a) (.type "tuple")
  | dK {a : Addr} {kvs : List (Key × V)} (e : H a = some (.dK kvs)) : TyOf K H (.ref a) (.type "dict")
  | dT {a : Addr} {kvs : List (List Key × V)} (e : H a = some (.dT kvs)) : TyOf K H (.ref a) (.type "dict")
  | ins {a C dx : Addr} {fs : List (Str × V)} (e : H a = some (.ins C dx fs)) (cl : Cls K C) (ha : PySem.W.findIn K (.ref C) "__class__" = some (some (.builtin "object.__class__")))
      (hn : PySem.W.specialIn K (.builtin "object.__class__") "__get__" = some (some (.builtin "getset_descriptor.__get__"))) (htk : PySem.W.takesIn K (.builtin "object.__class__") = some true)
      (hm : PySem.W.mroIn K C (.type "object") = some true) : TyOf K H (.ref a) (.ref C)
theorem isinst_ok {x : V} {u t : Value} (I : Inv X pins σ H s) (rx : RelV x u) (ty : TyOf X.K H x t) (e : PySem.W.kitOne X.K t c = some b) (h : ∀ tk, Q (.bool b) { s with toks := tk }) :
    wpAny (model X.prog X.w) A (call (.builtin "isinstance") [u, c]) Q E s := by
  cases ty with
  | non => cases (show u = Value.none from rx); exact PySem.W.kia_one PySem.W.kitx_none I.kIn True.intro e (fun z => nomatch z) h
  | bl y => cases (show u = Value.bool y from rx); exact PySem.W.kia_one PySem.W.kitx_bool I.kIn True.intro e (fun z => nomatch z) h
  | int i => obtain ⟨t, q⟩ := (show ∃ t, u = Value.int i t from rx); cases q; exact PySem.W.kia_one PySem.W.kitx_int I.kIn True.intro e (fun z => nomatch z) h
  | str y => obtain ⟨t, q⟩ := (show ∃ t, u = Value.str y t from rx); cases q; exact PySem.W.kia_one PySem.W.kitx_str I.kIn True.intro e (fun z => nomatch z) h
  | flt y => obtain ⟨t, q⟩ := (show ∃ t, u = Value.float y t from rx); cases q; exact PySem.W.kia_one PySem.W.kitx_float I.kIn True.intro e (fun z => nomatch z) h
  | @lst a xs ea =>
    cases (show u = Value.ref a from rx)
    obtain ⟨_, _, n, _, h1⟩ := (show ObjOk X.prog X.w H s.heap a (.lst xs) from I.hok a _ ea)
    exact PySem.W.kia_one PySem.W.kitx_list I.kIn ⟨_, h1, rfl⟩ e (fun z => nomatch z) h
  | @frz a ob xs ea =>
    cases (show u = Value.ref a from rx)
    obtain ⟨_, _, _, n, _, h1⟩ := (show ObjOk X.prog X.w H s.heap a (.frz ob (.lst xs)) from I.hok a _ ea)
    exact PySem.W.kia_one PySem.W.kitx_list I.kIn ⟨_, h1, rfl⟩ e (fun z => nomatch z) h
  | @tup a xs ea =>
    cases (show u = Value.ref a from rx)
    obtain ⟨_, _, _, p⟩ := (show ObjOk X.prog X.w H s.heap a (.tup xs) from I.hok a _ ea)
    obtain ⟨o, h1, h2, _⟩ := p
    exact PySem.W.kia_one PySem.W.kitx_tuple I.kIn ⟨o, h1, h2⟩ e (fun z => nomatch z) h
  | @dK a kvs ea =>
    cases (show u = Value.ref a from rx)
    obtain ⟨_, _, vs, _, p⟩ := (show ObjOk X.prog X.w H s.heap a (.dK kvs) from I.hok a _ ea)
    obtain ⟨o, es, ep, h1, h2, _⟩ := p
    exact PySem.W.kia_one PySem.W.kitx_dict I.kIn ⟨o, h1, h2.1⟩ e (fun z => nomatch z) h
  | @dT a kvs ea =>
    cases (show u = Value.ref a from rx)
    obtain ⟨_, _, xs, _, o, es, ep, h1, h2, _⟩ := (show ObjOk X.prog X.w H s.heap a (.dT kvs) from I.hok a _ ea)
    exact PySem.W.kia_one PySem.W.kitx_dict I.kIn ⟨o, h1, h2.1⟩ e (fun z => nomatch z) h
  | @ins a C dx fs ea cl ha hn htk hm =>
    cases (show u = Value.ref a from rx)
    obtain ⟨mA, O, _⟩ := ins_get I.hok ea
    obtain ⟨od, J, _⟩ := O.look
    exact PySem.W.kia_one (PySem.W.kitx_own (cl.get _) cl.hd ha hn htk hm) I.kIn J e (fun z => nomatch z) h
end
end L2
namespace L2
open PySem PySem.Spec PyProof.Rows
structure Room (k : Nat) (A : Around) : Prop where
  hd : A.handled = none
  dp : A.depth + 3 * k + 5 < recursionLimit
  un : A.units + 16 * k + 200 < cLine
theorem Room.mono {j k : Nat} {A : Around} (r : Room k A) (h : j ≤ k) : Room j A := ⟨r.hd, by have := r.dp; omega, by have := r.un; omega⟩
theorem Room.deeper {k : Nat} {A : Around} (r : Room (k + 1) A) (env : Env) : Room k (A.deeper env) :=
  ⟨r.hd, by have := r.dp; show A.depth + 1 + 3 * k + 5 < _; omega, by have := r.un; show A.units + 3 + 16 * k + 200 < _; omega⟩
theorem make_depth {A : Around} {C : Addr} {us : List Value} {kw : List (Str × Value)} : (A.under (.builtin "type.__call__" ⟨.ref C :: us, kw⟩)).depth = A.depth + 1 := by
  first | rfl | simp [Around.under, Code.weight, Code.isCreation, Code.isGuard, Code.isCaller, Code.frames, Code.isFrame, guardIds]
theorem make_units {A : Around} {C : Addr} {us : List Value} {kw : List (Str × Value)} : (A.under (.builtin "type.__call__" ⟨.ref C :: us, kw⟩)).units = A.units + 1 := by
  first | rfl | simp [Around.under, Code.cUnits, Code.frames, Code.isFrame]
theorem Room.make {k : Nat} {A : Around} (r : Room (k + 1) A) (C : Addr) (us : List Value) (kw : List (Str × Value)) : Room k (A.under (.builtin "type.__call__" ⟨.ref C :: us, kw⟩)) :=
  ⟨r.hd, by have := r.dp; rw [make_depth]; omega, by have := r.un; rw [make_units]; omega⟩
theorem Room.depth {k : Nat} {A : Around} (r : Room k A) : A.depth < recursionLimit := by have := r.dp; omega
theorem Room.units {k : Nat} {A : Around} (r : Room k A) : A.units + 64 < cLine := by have := r.un; omega
noncomputable def tNil : TA := fun _ H Q => Q [] H
noncomputable def tCons (ta : TE) (tr : TA) : TA := fun σ H Q => ta σ H fun x H1 => tr σ H1 fun xs H2 => Q (x :: xs) H2
section
variable {X : Cx} {e : Expr} {es : List Expr} {te : TE} {t : TA} {pos : Pos}
theorem pa_nil : PA X [] tNil := fun _ _ _ _ H Q I h => Calls.spliced_nil ⟨[], H, I, .nil, h⟩
theorem pa_cons (ha : PE X e te) (hr : PA X es t) (hs : starEach (e :: es) X.env = (false, eval e X.env) :: starEach es X.env := by rfl) : PA X (e :: es) (tCons te t) := by
  intro pos pins s σ H Q I h
  rw [hs]
  show wpAny _ _ (spliced ((false, eval e X.env) :: backTo pos (starEach es X.env))) _ _ s
  refine Calls.spliced_cons (thn (ha pins s σ H _ I h) fun u s1 ⟨x, H1, I1, r1, q1⟩ => ?_)
  exact thn (hr pos pins s1 σ H1 _ I1 q1) fun us s2 ⟨xs, H2, I2, r2, q2⟩ => ⟨x :: xs, H2, I2, .cons r1 r2, q2⟩
noncomputable def tTup (t : TA) : TE := fun σ H Q => t σ H fun xs H1 => xs.length ≤ sizeLine ∧ ∀ p, H1 p = none → Q (.ref p) (upd H1 p (.tup xs))
noncomputable def tLst (t : TA) : TE := fun σ H Q => t σ H fun xs H1 => xs.length ≤ sizeLine ∧ ∀ p, H1 p = none → Q (.ref p) (upd H1 p (.lst xs))
theorem pe_tup {x1} (h : PA X es t) : PE X (.Tuple es x1 pos) (tTup t) := by
  intro pins s σ H Q I hq
  refine wpAny_Tuple_spliced (thn (h pos pins s σ H _ I hq) fun us s1 ⟨xs, H1, I1, r, z, q⟩ => ⟨by rw [← r.length]; exact z, ?_⟩)
  have hf : H1 s1.heap.objs.size = none := I1.hok.fresh (Nat.le_refl _)
  refine ⟨.ref s1.heap.objs.size, upd H1 s1.heap.objs.size (.tup xs), I1.laid (t' := s1.toks) (fun b u e => Heap.get?_push_of_some _ e) (Nat.le_refl _) ?_, rfl, q _ hf⟩
  exact ⟨z, us, r, ⟨_, Heap.get?_push_size _ rfl, rfl, _, rfl⟩⟩
theorem pe_lst (h : PA X es t) : PE X (.List es pos) (tLst t) := by
  intro pins s σ H Q I hq
  refine wpAny_List_spliced (thn (h pos pins s σ H _ I hq) fun us s1 ⟨xs, H1, I1, r, z, q⟩ => ⟨by rw [← r.length]; exact z, ?_⟩)
  have hf : H1 s1.heap.objs.size = none := I1.hok.fresh (Nat.le_refl _)
  refine ⟨.ref s1.heap.objs.size, upd H1 s1.heap.objs.size (.lst xs), I1.laid (t' := s1.toks) (fun b u e => Heap.get?_push_of_some _ e) (Nat.le_refl _) ?_, rfl, q _ hf⟩
  exact ⟨z, us, 0, r, Heap.get?_push_size _ rfl⟩
end
noncomputable abbrev Sp := List V → Hp → VK → XK → Prop
noncomputable abbrev CXT := List Env → Hp → Shared → XK → Value → Shared → Prop
structure Env0 (P : Program) (w : World) (K : PySem.W.Frag) (mg : Str → Option Value) (base : Heap) (A : Around) (outer : List Env) (s : Shared) (H : Hp) : Prop where
  frames : A.frames = some outer
  mod : Mod K mg base
  bs : ∀ b o, base.get? b = some o → s.heap.get? b = some o ∧ H b = none
  bsz : base.objs.size ≤ s.heap.objs.size
  funs : s.heap.FunFrames base outer
  frf : ∀ b ∈ frs outer, H b = none
  hok : HOk P w H s.heap
  bare : AllBare s.gens
noncomputable def CE (outer : List Env) (P : Program) (w : World) (H : Hp) (s : Shared) (Q : VK) (u : Value) (s' : Shared) : Prop :=
  ∃ v H', s'.os = s.os ∧ AllBare s'.gens ∧ Un (frs outer) [] H H' s.heap s'.heap ∧ HOk P w H' s'.heap ∧ RelV v u ∧ Q v H'
noncomputable def CR (CX : CXT) (outer : List Env) (P : Program) (w : World) (H : Hp) (s : Shared) (Q : VK) (E : XK) (r : Result) (s' : Shared) : Prop :=
  match r with
  | .ok (.ret u) => CE outer P w H s Q u s'
  | .ok _ => False
  | .error e => CX outer H s E e s'
structure FnOk (P : Program) (w : World) (K : PySem.W.Frag) (mg : Str → Option Value) (base : Heap) (CX : CXT) (k : Nat) (f : Addr) (fd : FuncData) (ps : List Str) (sp : Sp) : Prop where
  len : ∀ vs H Q E, sp vs H Q E → vs.length = ps.length
  run : ∀ (A : Around) (outer : List Env) (s : Shared) (H : Hp) (args : Args) (us : List Value) (vs : List V) (Q : VK) (E : XK), Room k A → Env0 P w K mg base A outer s H → BindsTo s fd args (ps.zip us) → Vals vs us → sp vs H Q E →
    codeAny (model P w) A (.call (.ref f) args) (CR CX outer P w H s Q E) s
theorem FnOk.mono {P : Program} {w : World} {K : PySem.W.Frag} {mg : Str → Option Value} {base : Heap} {CX : CXT} {j k : Nat} {f : Addr} {fd : FuncData} {ps : List Str} {sp : Sp} (F : FnOk P w K mg base CX j f fd ps sp) (h : j ≤ k) :
    FnOk P w K mg base CX k f fd ps sp := ⟨F.len, fun A outer s H args us vs Q E hr => F.run A outer s H args us vs Q E (hr.mono h)⟩
theorem Env0.make {P : Program} {w : World} {K : PySem.W.Frag} {mg : Str → Option Value} {base : Heap} {A : Around} {outer : List Env} {s : Shared} {H : Hp} (e : Env0 P w K mg base A outer s H) (C : Addr) (us : List Value) (kw : List (Str × Value)) :
    Env0 P w K mg base (A.under (.builtin "type.__call__" ⟨.ref C :: us, kw⟩)) outer s H := ⟨by first | exact e.frames | (simpa [Around.under, Code.envs, Code.isFrame, pushEnvs] using e.frames), e.mod, e.bs, e.bsz, e.funs, e.frf, e.hok, e.bare⟩
section
variable {X : Cx} {pins : List (Addr × Obj)} {σ : St} {H : Hp} {s s' : Shared}
theorem Inv.env0 (I : Inv X pins σ H s) : Env0 X.prog X.w X.K X.mg X.base X.A X.stack s H :=
  ⟨I.ok.frames, I.ok.mod, I.bs, Nat.le_trans I.ok.bsz I.sz, I.stack, I.stkFree, I.hok, I.bare⟩
theorem Inv.after {Q : VK} {u : Value} (I : Inv X pins σ H s) (h : CE X.stack X.prog X.w H s Q u s') : EP X pins σ Q u s' := by
  obtain ⟨v, H', os, bare, un, hok, r, q⟩ := h
  obtain ⟨hh, g, d, t, os'⟩ := s'
  obtain rfl : os' = s.os := os
  exact ⟨v, H', I.call (h' := hh) (g' := g) (d' := d) (t' := t) (ch := []) un hok bare (fun b z => absurd z (by simp)), r, q⟩
end
noncomputable def tCall (sp : Sp) (dvs : List V) (E : XK) (t : TA) : TE := fun σ H Q => t σ H fun vs H1 => sp (vs ++ dvs) H1 Q E
inductive MethI (C : Addr) (m : Str) (x : V) (H1 : Hp) (q : Prop) : Prop
  | mk (a dx fs) (h_0 : x = .ref a) (h_1 : H1 a = some (.ins C dx fs)) (h_2 : fs.lookup m = none) (h_3 : q) : MethI C m x H1 q
noncomputable def tMeth (C : Addr) (m : Str) (sp : Sp) (dvs : List V) (E : XK) (ta : TE) (t : TA) : TE := fun σ H Q => ta σ H fun x H1 => MethI C m x H1 (t σ H1 fun vs H2 => sp (x :: (vs ++ dvs)) H2 Q E)
noncomputable def tMake (C : Addr) (sp : Sp) (dvs : List V) (E : XK) (t : TA) : TE := fun σ H Q => t σ H fun vs H1 => ∀ x dx, H1 x = none → H1 dx = none → dx ≠ x →
  sp (.ref x :: (vs ++ dvs)) (upd (upd H1 dx (.own x)) x (.ins C dx [])) (fun v H2 => v = .non ∧ Q (.ref x) H2) E
noncomputable def Binds (K : PySem.W.Frag) (fd : FuncData) (ps : List Str) (ds : List Value) : Prop :=
  ∀ (s : Shared) (us : List Value), K.In s.heap → (us ++ ds).length = ps.length → BindsTo s fd ⟨us, []⟩ (ps.zip (us ++ ds))
theorem Binds.all {K : PySem.W.Frag} {fd : FuncData} {ps : List Str} (h : ∀ us : List Value, us.length = ps.length → bindArgs fd ⟨us, []⟩ = pure (ps.zip us)) : Binds K fd ps [] := fun s us _ hl => by
  rw [List.append_nil] at hl ⊢
  exact .of_eq (h us hl)
noncomputable def Passes (CX : CXT) (X : Cx) (E : XK) : Prop := ∀ (pins : List (Addr × Obj)) (σ : St) (H : Hp) (s : Shared) (e : Value) (s' : Shared), Inv X pins σ H s → CX X.stack H s E e s' → X.xe e s'
section
variable {X : Cx} {CX : CXT} {k : Nat} {f C : Addr} {fd : FuncData} {ps : List Str} {sp : Sp} {dvs : List V} {ds : List Value} {E : XK} {x m : Str} {p pos apos : Pos} {e o : Expr} {es : List Expr} {ta : TE} {t : TA}
theorem run_fn {pins : List (Addr × Obj)} {σ : St} {H : Hp} {s : Shared} {Q : VK} {us : List Value} {vs : List V} (F : FnOk X.prog X.w X.K X.mg X.base CX k f fd ps sp) (hr : Room k X.A) (hb : Binds X.K fd ps ds) (hd : Vals dvs ds) (hx : Passes CX X E)
    (I : Inv X pins σ H s) (r : Vals vs us) (h : sp (vs ++ dvs) H Q E) : wpAny (model X.prog X.w) X.A (call (.ref f) us) (EP X pins σ Q) X.xe s := by
  have r2 : Vals (vs ++ dvs) (us ++ ds) := r.append hd
  have hl : (us ++ ds).length = ps.length := by rw [← r2.length]; exact F.len _ _ _ _ h
  refine wpAny_call (codeAny_mono (F.run X.A X.stack s H ⟨us, []⟩ (us ++ ds) (vs ++ dvs) Q E hr I.env0 (hb s us I.kIn hl) r2 h) fun r s' hq => ?_)
  cases r with
  | error e => exact hx pins σ H s e s' I hq
  | ok fl =>
    cases fl with
    | ret u => exact I.after hq
    | next => exact False.elim hq
    | brk => exact False.elim hq
    | cont => exact False.elim hq
theorem pe_call (F : FnOk X.prog X.w X.K X.mg X.base CX k f fd ps sp) (hr : Room k X.A) (hg : Gl X x) (hm : X.mg x = some (.ref f)) (hk : PySem.W.keepIn X.K (.ref f) = true) (hb : Binds X.K fd ps ds) (hd : Vals dvs ds) (hx : Passes CX X E)
    (ha : PA X (e :: es) t) (hdb : (x == ("__debug__" : Str)) = false := by decide) (he : starEach (e :: es) X.env = (false, eval e X.env) :: starEach es X.env := by rfl) (hpl : (backTo pos (starEach es X.env)).any (·.1) = false := by rfl) :
    PE X (.Call (.Name x p) (e :: es) [] pos) (tCall sp dvs E t) := by
  intro pins s σ H Q I h
  refine wpAny_Call_Name_kw (ld_glob I hg hm ?_ hdb)
  refine PySem.W.callWith_K (h₀ := X.base) I.ok.mod.kin hk (thn (ha pos pins s σ H _ I h) fun us s1 ⟨vs, H1, I1, r, q⟩ => ⟨I1.kIn, ?_⟩) he hpl
  exact run_fn F hr hb hd hx I1 r q
theorem pe_meth {pl : Sem Bool} (he : PE X o ta) (c : Cls X.K C) (hm : Meth X.K C m f) (F : FnOk X.prog X.w X.K X.mg X.base CX k f fd ps sp) (hr : Room k X.A) (hb : Binds X.K fd ps ds) (hd : Vals dvs ds) (hx : Passes CX X E) (ha : PA X (e :: es) t)
    (hst : starEach (e :: es) X.env = (false, eval e X.env) :: starEach es X.env := by rfl) (hpl : (backTo pos (starEach es X.env)).any (·.1) = false := by rfl)
    (ht : eval (.Call (.Attribute o m apos) (e :: es) [] pos) X.env = (do
      let ov ← eval o X.env
      standAt apos.atName
      let (f, first) ← holding [ov] (getMethod ov m pl)
      callWith pos f first (backTo pos (starEach (e :: es) X.env)) (backToKw pos (keywordEach [] X.env))) := by rfl) :
    PE X (.Call (.Attribute o m apos) (e :: es) [] pos) (tMeth C m sp dvs E ta t) := by
  intro pins s σ H Q I h
  refine PySem.W.methodCall_KW (pl := pl) (thn (he pins s σ H _ I h) fun u s1 ⟨x, H1, I1, rx, a, dx, fs, ex, ea, l, q⟩ => ?_) ht
  subst ex
  obtain rfl : u = Value.ref a := rx
  refine getmeth_ok I1 ea c hm l ?_
  refine PySem.W.callWith_K (first := [.ref a]) (h₀ := X.base) I.ok.mod.kin hm.kp (thn (ha pos pins s1 σ H1 _ I1 q) fun us s2 ⟨vs, H2, I2, r, q2⟩ => ⟨I2.kIn, ?_⟩) hst hpl
  exact run_fn (us := .ref a :: us) (vs := .ref a :: vs) F hr hb hd hx I2 (.cons rfl r) q2
theorem pe_meth0 {pl : Sem Bool} (he : PE X o ta) (c : Cls X.K C) (hm : Meth X.K C m f) (F : FnOk X.prog X.w X.K X.mg X.base CX k f fd ps sp) (hr : Room k X.A) (hb : Binds X.K fd ps ds) (hd : Vals dvs ds) (hx : Passes CX X E)
    (ht : eval (.Call (.Attribute o m apos) [] [] pos) X.env = (do
      let ov ← eval o X.env
      standAt apos.atName
      let (f, first) ← holding [ov] (getMethod ov m pl)
      callWith pos f first (backTo pos (starEach [] X.env)) (backToKw pos (keywordEach [] X.env))) := by rfl) :
    PE X (.Call (.Attribute o m apos) [] [] pos) (tMeth C m sp dvs E ta tNil) := by
  intro pins s σ H Q I h
  refine PySem.W.methodCall_KW (pl := pl) (thn (he pins s σ H _ I h) fun u s1 ⟨x, H1, I1, rx, a, dx, fs, ex, ea, l, q⟩ => ?_) ht
  subst ex
  obtain rfl : u = Value.ref a := rx
  refine getmeth_ok I1 ea c hm l ?_
  exact PySem.W.callWith_K0 (first := [.ref a]) I1.kIn hm.kp (run_fn (us := [.ref a]) (vs := [.ref a]) F hr hb hd hx I1 (.cons rfl .nil) q)
structure Mk (K : PySem.W.Frag) (C f : Addr) : Prop where
  makes : PySem.W.makesIn K C = true
  init : PySem.W.findIn K (.ref C) "__init__" = some (some (.ref f))
  fn : PySem.W.isFn K (.ref f) = true
  kp : PySem.W.keepIn K (.ref C) = true
theorem run_make {pins : List (Addr × Obj)} {σ : St} {H : Hp} {s : Shared} {Q : VK} {us : List Value} {vs : List V} (M : Mk X.K C f) (F : FnOk X.prog X.w X.K X.mg X.base CX k f fd ps sp) (hr : Room (k + 1) X.A) (hb : Binds X.K fd ps ds) (hd : Vals dvs ds)
    (hx : Passes CX X E) (I : Inv X pins σ H s) (r : Vals vs us)
    (h : ∀ x dx, H x = none → H dx = none → dx ≠ x → sp (.ref x :: (vs ++ dvs)) (upd (upd H dx (.own x)) x (.ins C dx [])) (fun v H2 => v = .non ∧ Q (.ref x) H2) E) :
    wpAny (model X.prog X.w) X.A (call (.ref C) us) (EP X pins σ Q) X.xe s := by
  have hq := h (s.heap.objs.size + 1) s.heap.objs.size (I.hok.fresh (Nat.le_succ _)) (I.hok.fresh (Nat.le_refl _)) (Nat.ne_of_lt (Nat.lt_succ_self _))
  have I2 := Inv.made (C := C) I
  have r2 : Vals (V.ref (s.heap.objs.size + 1) :: (vs ++ dvs)) (Value.ref (s.heap.objs.size + 1) :: (us ++ ds)) := .cons rfl (r.append hd)
  have hl : (Value.ref (s.heap.objs.size + 1) :: us ++ ds).length = ps.length := by
    have e := r2.length
    rw [F.len _ _ _ _ hq] at e
    exact e.symm
  refine wpAny_call (make_map (f := f) I.kIn M.makes M.init (beq_iff_eq.mp M.fn) (codeAny_mono (F.run _ X.stack _ _ ⟨Value.ref (s.heap.objs.size + 1) :: us, []⟩ (Value.ref (s.heap.objs.size + 1) :: (us ++ ds)) _ _ E (hr.make C us [])
    (I2.env0.make C us []) (hb _ (Value.ref (s.heap.objs.size + 1) :: us) I2.kIn hl) r2 hq) fun r s' hq' => ?_))
  cases r with
  | error e => exact hx pins σ _ _ e s' I2 hq'
  | ok fl =>
    cases fl with
    | ret u =>
      obtain ⟨v, H', I3, rv, ev, q3⟩ := I2.after hq'
      subst ev
      exact ⟨rv, ⟨V.ref (s.heap.objs.size + 1), H', I3, rfl, q3⟩⟩
    | next => exact False.elim hq'
    | brk => exact False.elim hq'
    | cont => exact False.elim hq'
end
section
variable {X : Cx} {CX : CXT} {k : Nat} {f C : Addr} {fd : FuncData} {ps ks : List Str} {sp : Sp} {E : XK} {x m : Str} {p pos apos kpos : Pos} {e o : Expr} {es : List Expr} {kws : List Keyword} {te ta : TE} {t tk : TA} {nm : Option Str}
variable {g : List Value → List Value → List Value} {gV : List V → List V → List V}
end
structure FnScope (N P : List Str) (sc : Scope) : Prop where
  kind : sc.kind = .function
  co : sc.isCoroutine = false
  gen : sc.isGenerator = false
  nd : N.Nodup
  pre : N.take P.length = P
  par : ∀ x ∈ P, sc.names.lookup x = some .local ∨ sc.names.lookup x = some .cell
  nofree : ∀ y ∈ sc.names, y.2 ≠ .free
theorem bindL_out {kindOf : Str → Option NameKind} {x : Str} : ∀ {binds : List (Str × Value)} {m : Str → Option Value}, (∀ v, (x, v) ∉ binds) → bindL kindOf binds m x = m x
  | [], _, _ => rfl
  | (n, v) :: r, m, h => by
    unfold bindL
    rw [bindL_out fun w hw => h w (List.mem_cons_of_mem _ hw)]
    split
    · have : x ≠ n := by rintro rfl; exact h v List.mem_cons_self
      simp [this]
    · rfl
theorem bindC_out {kindOf : Str → Option NameKind} {x : Str} : ∀ {binds : List (Str × Value)} {m : Str → Option Value}, (∀ v, (x, v) ∉ binds) → bindC kindOf binds m x = m x
  | [], _, _ => rfl
  | (n, v) :: r, m, h => by
    unfold bindC
    rw [bindC_out fun w hw => h w (List.mem_cons_of_mem _ hw)]
    split
    · rfl
    · have : x ≠ n := by rintro rfl; exact h v List.mem_cons_self
      simp [this]
theorem bindL_get {kindOf : Str → Option NameKind} {x : Str} {v : Value} : ∀ {P : List Str} {vs : List Value} {i : Nat} {m : Str → Option Value}, P.Nodup → P[i]? = some x → vs[i]? = some v → kindOf x = some .local →
    bindL kindOf (P.zip vs) m x = some v
  | [], _, _, _, _, h, _, _ => by simp at h
  | _ :: _, [], _, _, _, _, h, _ => by simp at h
  | p :: P, w :: vs, 0, m, nd, h1, h2, hk => by
    simp at h1 h2; subst h1; subst h2
    show bindL kindOf ((p, w) :: P.zip vs) m p = _
    unfold bindL
    rw [bindL_out fun v hv => (List.nodup_cons.mp nd).1 (List.of_mem_zip hv).1, if_pos hk]
    simp
  | p :: P, w :: vs, i + 1, m, nd, h1, h2, hk => by
    show bindL kindOf ((p, w) :: P.zip vs) m x = _
    unfold bindL
    exact bindL_get (i := i) (List.nodup_cons.mp nd).2 (by simpa using h1) (by simpa using h2) hk
theorem bindC_get {kindOf : Str → Option NameKind} {x : Str} {v : Value} : ∀ {P : List Str} {vs : List Value} {i : Nat} {m : Str → Option Value}, P.Nodup → P[i]? = some x → vs[i]? = some v → kindOf x ≠ some .local →
    bindC kindOf (P.zip vs) m x = some v
  | [], _, _, _, _, h, _, _ => by simp at h
  | _ :: _, [], _, _, _, _, h, _ => by simp at h
  | p :: P, w :: vs, 0, m, nd, h1, h2, hk => by
    simp at h1 h2; subst h1; subst h2
    show bindC kindOf ((p, w) :: P.zip vs) m p = _
    unfold bindC
    rw [bindC_out fun v hv => (List.nodup_cons.mp nd).1 (List.of_mem_zip hv).1, if_neg hk]
    simp
  | p :: P, w :: vs, i + 1, m, nd, h1, h2, hk => by
    show bindC kindOf ((p, w) :: P.zip vs) m x = _
    unfold bindC
    exact bindC_get (i := i) (List.nodup_cons.mp nd).2 (by simpa using h1) (by simpa using h2) hk
noncomputable def start (N : List Str) (vs : List V) : St := vs.map some ++ List.replicate (N.length - vs.length) none
noncomputable def cxOf (CX : CXT) (P : Program) (w : World) (K : PySem.W.Frag) (mg : Str → Option Value) (base : Heap) (N : List Str) (qual : Str) (scope : Scope) (f : Addr) (cd : Value) (A : Around) (outer : List Env) (s : Shared) (H : Hp) (E : XK) : Cx where
  prog := P
  w := w
  K := K
  mg := mg
  base := base
  A := A.deeper (envOfC qual scope s.heap.objs.size f cd)
  N := N
  s₀ := s
  H₀ := H
  env := envOfC qual scope s.heap.objs.size f cd
  outer := outer
  stack := envOfC qual scope s.heap.objs.size f cd :: outer
  ex := []
  calm := true
  fn := fun _ => true
  pn := []
  xe := fun e s' => wpAny (model P w) (A.deeper (envOfC qual scope s.heap.objs.size f cd)) (leaving (envOfC qual scope s.heap.objs.size f cd) e) (fun _ s'' => CX outer H s E e s'') (fun e' s'' => CX outer H s E e' s'') s'
theorem cell_has {sc : Scope} {n : Nat} {x : Str} (h : sc.names.lookup x = some .cell) : ∃ c, (cellsFrom n sc.names []).lookup x = some c := by
  have q := PySem.W.cellsFrom_some sc.names n [] (.inl h)
  exact Option.isSome_iff_exists.mp q
theorem inv_start {CX : CXT} {P : Program} {w : World} {K : PySem.W.Frag} {mg : Str → Option Value} {base : Heap} {N ps : List Str} {qual : Str} {scope : Scope} {f : Addr} {cd : Value} {A : Around} {outer : List Env} {s s1 : Shared} {H : Hp} {E : XK} {us : List Value} {vs : List V}
    (S : FnScope N ps scope) (hd : A.handled = none) (e0 : Env0 P w K mg base A outer s H) (hl : vs.length = ps.length) (r : Vals vs us)
    (x : InCallC s s.heap.objs.size (bindL (envOfC qual scope s.heap.objs.size f cd).kindOf (ps.zip us) fun _ => none) (cellsFrom (s.heap.objs.size + 1) scope.names []) (bindC (envOfC qual scope s.heap.objs.size f cd).kindOf (ps.zip us) fun _ => none) s1) :
    Inv (cxOf CX P w K mg base N qual scope f cd A outer s H E) [] (start N vs) H s1 := by
  have hpl : ps.length ≤ N.length := by have := congrArg List.length S.pre; rw [List.length_take] at this; omega
  obtain ⟨h1, tk, rfl, hk⟩ := x.done
  have noA : ∀ b : Addr, b ∉ (cxOf CX P w K mg base N qual scope f cd A outer s H E).ex := fun b z => absurd (show b ∈ ([] : List Addr) from z) (by simp)
  refine ⟨⟨e0.mod, S.kind, rfl, rfl, Nat.le_refl _, fun y z c h1 h2 => ?_, fun y hy => ?_, fun y c _ h => ?_, fun _ => hd, Around.frames_deeper e0.frames, .inr ⟨rfl, rfl⟩, fun b z => absurd z (noA b), e0.bs, e0.bsz, fun b _ _ => noA b, fun b z => absurd z (noA b), e0.funs, e0.frf⟩,
    rfl, e0.bare, Un.kept hk, ⟨_, x.toInCall.ns, fun i y v h1 h2 h3 => ?_⟩, fun y c h => ⟨_, x.cell y c h⟩, e0.hok.fresh (Nat.le_refl _), fun y c h => ?_, fun p hp => absurd (show p ∈ ([] : List (Addr × Obj)) from hp) (by simp), e0.hok.kept hk, ?_⟩
  · exact name_of_addr x.apart (PySem.mem_of_lookup h1) (PySem.mem_of_lookup h2)
  · have hy : scope.names.lookup y = some .cell ∨ scope.names.lookup y = some .free := hy
    rcases hy with hy | hy
    · exact cell_has hy
    · exact absurd rfl (S.nofree _ (PySem.mem_of_lookup hy))
  · exact Nat.le_of_lt (x.above y c (PySem.mem_of_lookup h))
  · have hi : i < vs.length := by
      unfold start at h2
      by_cases hi : i < vs.length
      · exact hi
      · rw [List.getElem?_append_right (by simpa using hi)] at h2
        rw [List.getElem?_replicate] at h2
        split at h2 <;> cases h2
    have ha : vs[i]? = some v := by
      unfold start at h2
      rw [List.getElem?_append_left (by simpa using hi), List.getElem?_map] at h2
      cases e : vs[i]? with
      | none => rw [e] at h2; cases h2
      | some a => rw [e] at h2; cases h2; rfl
    obtain ⟨u, hu, rv⟩ := r.get ha
    have hp : ps[i]? = some y := by
      rw [← S.pre, List.getElem?_take_of_lt (by omega)]; exact h1
    have ndP : ps.Nodup := by rw [← S.pre]; exact S.nd.sublist (List.take_sublist _ _)
    refine ⟨u, rv, ?_⟩
    rcases S.par y (List.mem_of_getElem? hp) with k | k
    · exact .inl ⟨k, bindL_get ndP hp hu k⟩
    · obtain ⟨c, e⟩ := cell_has (n := s.heap.objs.size + 1) k
      refine .inr ⟨.inl k, c, e, ?_⟩
      have q := x.cell y c e
      rw [bindC_get ndP hp hu (by show scope.names.lookup y ≠ _; rw [k]; decide)] at q
      exact q
  · exact e0.hok.fresh (Nat.le_of_lt (x.above y c (PySem.mem_of_lookup h)))
  · unfold start
    show _ = N.length
    rw [List.length_append, List.length_map, List.length_replicate]
    omega
theorem fn_of {CX : CXT} {P : Program} {w : World} {K : PySem.W.Frag} {mg : Str → Option Value} {base : Heap} {k : Nat} {f : Addr} {name qual : Str} {params : Arguments} {body : List Stmt} {scope : Scope} {dV kV doc pm cdv ct oc : Value} {an od : Option Addr}
    {osl : Array (Option Value)} {N ps : List Str} {sp : Sp} (lk : K.lookup f = some ⟨oc, od, .func (PySem.W.fnOf name qual params body scope dV kV doc pm an cdv ct), osl⟩) (hcd : PySem.W.codeIn K cdv qual = true) (S : FnScope N ps scope)
    (len : ∀ vs H Q E, sp vs H Q E → vs.length = ps.length)
    (hbody : ∀ (A : Around) (outer : List Env) (s : Shared) (H : Hp) (vs : List V) (Q : VK) (E : XK), Room k (A.deeper (envOfC qual scope s.heap.objs.size f cdv)) → sp vs H Q E →
      ∃ t, PSs (cxOf CX P w K mg base N qual scope f cdv A outer s H E) body t ∧ t { nx := fun _ H' => Q .non H', rt := Q } (start N vs) H) :
    FnOk P w K mg base CX (k + 1) f (PySem.W.fnOf name qual params body scope dV kV doc pm an cdv ct) ps sp := by
  refine ⟨len, fun A outer s H args us vs Q E hr e0 hb r hsp => ?_⟩
  have hl := len _ _ _ _ hsp
  have KX : K.In s.heap := e0.mod.kin.keeps fun b o e => (e0.bs b o e).1
  have lim : s.heap.NoLimit := e0.mod.nolimit.keeps fun b o e => (e0.bs b o e).1
  have hkind : ∀ y ∈ ps.zip us, scope.names.lookup y.1 = some .local ∨ (scope.names.lookup y.1 = some .cell ∧ ((cellsFrom (s.heap.objs.size + 1) scope.names []).lookup y.1).isSome = true) := fun ⟨n, v⟩ hy => by
    rcases S.par n (List.of_mem_zip hy).1 with q | q
    · exact .inl q
    · exact .inr ⟨q, PySem.W.cellsFrom_some _ _ _ (.inl q)⟩
  refine codeAny_call_function hr.depth (KX _ _ lk) rfl S.co S.gen rfl (PySem.W.codeRec_of KX hcd) (hb _ _ _ _ ?_)
  refine wpAny_newFunctionEnv_cells S.kind hkind fun env he s1 x => ?_
  subst he
  refine ⟨lim.keeps x.toInCall.keep, codeAny_func ?_⟩
  obtain ⟨t, ht, hq⟩ := hbody A outer s H vs Q E (hr.deeper _) hsp
  have I : Inv (cxOf CX P w K mg base N qual scope f cdv A outer s H E) [] (start N vs) H s1 := inv_start S hr.hd e0 hl r x
  refine wpAny_mono (ht [] s1 (start N vs) H _ I hq) (fun fl s' hs => ?_) fun e s' hs => hs
  have fin : ∀ {σ' : St} {H' : Hp} {v : V} {u : Value}, Inv (cxOf CX P w K mg base N qual scope f cdv A outer s H E) [] σ' H' s' → RelV v u → Q v H' → CE outer P w H s Q u s' :=
    fun {σ' H' v u} J rv q => ⟨v, H', J.os, J.bare, J.base, J.hok, rv, q⟩
  cases fl with
  | ret u =>
    obtain ⟨v, σ', H', J, rv, q⟩ := hs
    exact fin J rv q
  | next =>
    obtain ⟨σ', H', J, q⟩ := hs
    exact fin (v := V.non) (u := Value.none) J rfl q
  | brk =>
    obtain ⟨_, _, _, q⟩ := hs
    exact False.elim q
  | cont =>
    obtain ⟨_, _, _, q⟩ := hs
    exact False.elim q
end L2
namespace L2
open PySem PySem.Spec PyProof.Rows
section
variable {X : Cx} {x : Str} {p pos : Pos} {e : Expr} {es : List Expr} {t : TA} {id T : String} {r : List V → Hp → VK → Prop}
noncomputable def tCB (r : List V → Hp → VK → Prop) (t : TA) : TE := fun σ H Q => t σ H fun vs H1 => r vs H1 Q
theorem pe_callB (hc : CallR X (.builtin id) r) (hg : Gl X x) (hm : X.mg x = none) (hv : bootBuiltins x = some (.builtin id)) (ha : PA X (e :: es) t) (hn : x ≠ "__name__" := by decide) (hdb : (x == ("__debug__" : Str)) = false := by decide)
    (he : starEach (e :: es) X.env = (false, eval e X.env) :: starEach es X.env := by rfl) (hpl : (backTo pos (starEach es X.env)).any (·.1) = false := by rfl) : PE X (.Call (.Name x p) (e :: es) [] pos) (tCB r t) := by
  intro pins s σ H Q I h
  refine wpAny_Call_Name_kw (ld_blt I hg hm hv ?_ hn hdb)
  exact PyProof.Rows.callWith_builtin1 (thn (ha pos pins s σ H _ I h) fun us s1 ⟨vs, H1, I1, r1, q1⟩ => hc pins s1 σ H1 vs us Q I1 r1 q1) he hpl
theorem pe_callTy (hc : CallR X (.type T) r) (hg : Gl X x) (hm : X.mg x = none) (hv : bootBuiltins x = some (.type T)) (ha : PA X (e :: es) t) (hn : x ≠ "__name__" := by decide) (hdb : (x == ("__debug__" : Str)) = false := by decide)
    (he : starEach (e :: es) X.env = (false, eval e X.env) :: starEach es X.env := by rfl) (hpl : (backTo pos (starEach es X.env)).any (·.1) = false := by rfl) : PE X (.Call (.Name x p) (e :: es) [] pos) (tCB r t) := by
  intro pins s σ H Q I h
  refine wpAny_Call_Name_kw (ld_blt I hg hm hv ?_ hn hdb)
  exact PyProof.Rows.callWith_type1 (thn (ha pos pins s σ H _ I h) fun us s1 ⟨vs, H1, I1, r1, q1⟩ => hc pins s1 σ H1 vs us Q I1 r1 q1) he hpl
end
end L2
namespace HT
open PySem PyProof.Rows
section
open PySem.SeqAt
open PySem.AutoSeq1 (wpAny_loadPart')
open PySem.MeetsSeq PySem.MeetsSeq2 PySem.MeetsSeq3
end
section
variable {prog : Program} {w : World} {A : Around} {E : Value → Shared → Prop} {s : Shared}
noncomputable def sIx (n d : Nat) : Option Int → Nat
  | none => d
  | some v => if v < 0 then (v + (n : Int)).toNat else min v.toNat n
theorem sIx_none (n d : Nat) : sIx n d none = d := rfl
theorem sIx_nat (n d k : Nat) : sIx n d (some (k : Int)) = min k n := by
  show (if (k : Int) < 0 then ((k : Int) + (n : Int)).toNat else min (k : Int).toNat n) = min k n
  rw [if_neg (by omega), Int.toNat_natCast]
end
end HT
namespace L2
open PySem PySem.Spec PyProof.Rows
noncomputable abbrev TO := St → Hp → (Option Int → Hp → Prop) → Prop
noncomputable def PO (X : Cx) (e : Option Expr) (t : TO) : Prop :=
  ∀ (pins : List (Addr × Obj)) (s : Shared) (σ : St) (H : Hp) (Q : Option Int → Hp → Prop), Inv X pins σ H s → t σ H Q →
    wpAny (model X.prog X.w) X.A (evalPart e X.env) (fun u s' => ∃ o H', Inv X pins σ H' s' ∧ IsPart u o ∧ Q o H') X.xe s
noncomputable def tNoPart : TO := fun _ H Q => Q none H
inductive IntI (x : V) (k : Int → Prop) : Prop
  | mk (i : Int) (h : x = .int i) (q : k i) : IntI x k
noncomputable def tPart (t : TE) : TO := fun σ H Q => t σ H fun x H1 => IntI x fun i => Q (some i) H1
section
variable {X : Cx} {e : Expr} {te : TE} {lo hi : Option Expr} {tl th : TO} {pos p2 : Pos}
theorem po_none : PO X none tNoPart := by
  intro pins s σ H Q I h
  rw [evalPart_none]
  exact wpAny_pure ⟨none, H, I, .none, h⟩
theorem po_some (h : PE X e te) : PO X (some e) (tPart te) := by
  intro pins s σ H Q I hw
  rw [evalPart_some]
  refine thn (h pins s σ H _ I hw) fun u s1 ⟨x, H1, I1, r1, q1⟩ => ?_
  obtain ⟨i, rfl, q⟩ := q1
  obtain ⟨t, rfl⟩ := r1
  exact ⟨some i, H1, I1, .int i t, q⟩
noncomputable def SlR (X : Cx) (r : V → Option Int → Option Int → Hp → VK → Prop) : Prop :=
  ∀ (pins : List (Addr × Obj)) (s : Shared) (σ : St) (H : Hp) (x : V) (v vl vu : Value) (lo hi : Option Int) (sl : Addr) (Q : VK), Inv X pins σ H s → RelV x v → s.heap.IsSliceOf sl vl vu .none → IsPart vl lo → IsPart vu hi → r x lo hi H Q →
    ∃ T id, typeLookup (.type T) "__getitem__" = pure (some (.builtin id)) ∧ s.TypeIs v T ∧ wpAny (model X.prog X.w) X.A (getItem v (.ref sl)) (EP X pins σ Q) X.xe s
noncomputable def tSl (r : V → Option Int → Option Int → Hp → VK → Prop) (te : TE) (tl th : TO) : TE := fun σ H Q => te σ H fun x H1 => tl σ H1 fun l H2 => th σ H2 fun u H3 => r x l u H3 Q
theorem pe_slice {r : V → Option Int → Option Int → Hp → VK → Prop} (hr : SlR X r) (he : PE X e te) (hl : PO X lo tl) (hu : PO X hi th) : PE X (.Subscript e (.Slice lo hi none p2) pos) (tSl r te tl th) := by
  intro pins s σ H Q I h
  refine Subscript_ (thn (he pins s σ H _ I h) fun v s1 ⟨x, H1, I1, r1, q1⟩ => ?_)
  refine wpAny_Slice (thn (hl pins s1 σ H1 _ I1 q1) fun vl s2 ⟨l, H2, I2, pl, q2⟩ => thn (hu pins s2 σ H2 _ I2 q2) fun vu s3 ⟨u, H3, I3, pu, q3⟩ => ?_)
  rw [evalPart_none]
  refine wpAny_pure ?_
  have I4 : Inv X pins σ H3 { s3 with heap := s3.heap.push { cls := .type "slice", data := .fields #[vl, vu, .none] } } := I3.kept (t' := s3.toks) fun b ob q => Heap.get?_push_of_some _ q
  obtain ⟨T, id, hT, ht, hg⟩ := hr pins { s3 with heap := s3.heap.push { cls := .type "slice", data := .fields #[vl, vu, .none] } } σ H3 x v vl vu l u s3.heap.objs.size Q I4 r1 (Heap.IsSliceOf.new ..) pl pu q3
  show wpAny (model X.prog X.w) X.A (subscriptTail e (.Slice lo hi none p2) v (.ref s3.heap.objs.size)) (EP X pins σ Q) X.xe { s3 with heap := s3.heap.push { cls := .type "slice", data := .fields #[vl, vu, .none] } }
  exact tail_any (ops := [.ref s3.heap.objs.size, v]) ht hT hg (by with_unfolding_all rfl)
noncomputable def cutV (xs : List V) (lo hi : Option Int) : List V := (xs.drop (HT.sIx xs.length 0 lo)).take (HT.sIx xs.length xs.length hi - HT.sIx xs.length 0 lo)
theorem cutV_length (xs : List V) (lo hi : Option Int) : (cutV xs lo hi).length ≤ xs.length := by
  unfold cutV
  rw [List.length_take, List.length_drop]
  omega
end
end L2
namespace L2
open PySem PySem.Spec PyProof.Rows
noncomputable def ixN (n : Nat) (i : Int) : Option Nat := if 0 ≤ i then (if i < n then some i.toNat else none) else if -(n : Int) ≤ i then some (i + n).toNat else none
noncomputable def atI {α : Type} (xs : List α) (i : Int) : Option α := (ixN xs.length i).bind fun j => xs[j]?
theorem ixN_seq {n : Nat} {i : Int} {j : Nat} (h : ixN n i = some j) : seqIndex? i n = some j ∧ j < n ∧ -(n : Int) ≤ i ∧ i < n := by
  unfold ixN at h
  by_cases h0 : 0 ≤ i
  · rw [if_pos h0] at h
    by_cases h1 : i < n
    · rw [if_pos h1] at h
      have e : i.toNat = j := Option.some.inj h
      exact ⟨by rw [seqIndex_of h0 h1, e], by omega, by omega, h1⟩
    · rw [if_neg h1] at h; cases h
  · rw [if_neg h0] at h
    by_cases h1 : -(n : Int) ≤ i
    · rw [if_pos h1] at h
      have e : (i + n).toNat = j := Option.some.inj h
      exact ⟨by rw [seqIndex_neg (by omega) h1, e], by omega, h1, by omega⟩
    · rw [if_neg h1] at h; cases h
theorem atI_get {α : Type} {xs : List α} {i : Int} {v : α} (h : atI xs i = some v) : ∃ j, seqIndex? i xs.length = some j ∧ xs[j]? = some v ∧ j < xs.length ∧ -(xs.length : Int) ≤ i ∧ i < xs.length := by
  unfold atI at h
  cases e : ixN xs.length i with
  | none => rw [e] at h; cases h
  | some j =>
    rw [e] at h
    obtain ⟨h1, h2, h3, h4⟩ := ixN_seq e
    exact ⟨j, h1, h, h2, h3, h4⟩
theorem atI_nat {α : Type} {xs : List α} {j : Nat} {v : α} (h : xs[j]? = some v) : atI xs (j : Int) = some v := by
  have hj : j < xs.length := (List.getElem?_eq_some_iff.mp h).1
  have e : ixN xs.length (j : Int) = some j := by
    unfold ixN
    rw [if_pos (by omega), if_pos (by omega)]; simp
  unfold atI; rw [e]; exact h
theorem atI_last {α : Type} (xs : List α) (v : α) : atI (xs ++ [v]) (-1) = some v := by
  have hl : (xs ++ [v]).length = xs.length + 1 := by simp
  have e : ixN (xs ++ [v]).length (-1) = some xs.length := by
    unfold ixN
    rw [hl, if_neg (by decide), if_pos (by omega)]
    congr 1
    omega
  unfold atI
  rw [e]
  show (xs ++ [v])[xs.length]? = some v
  simp
noncomputable def PlainIx (b : Expr) : Prop := ∀ o i, subscripted b false o i = operate [o, i] (getItem o i)
noncomputable def IxR (X : Cx) (r : R2) : Prop :=
  ∀ (value slice : Expr) (pins : List (Addr × Obj)) (s : Shared) (σ : St) (H : Hp) (x y : V) (v u : Value) (Q : VK), Inv X pins σ H s → RelV x v → RelV y u → r x y H Q →
    subscripted slice false v u = operate [v, u] (getItem v u) → wpAny (model X.prog X.w) X.A (subscriptTail value slice v u) (EP X pins σ Q) X.xe s
noncomputable def MtR (X : Cx) (id : String) (r : V → List V → Hp → VK → Prop) : Prop :=
  ∀ (pins : List (Addr × Obj)) (s : Shared) (σ : St) (H : Hp) (x : V) (xs : List V) (v : Value) (us : List Value) (Q : VK), Inv X pins σ H s → RelV x v → Vals xs us → r x xs H Q →
    wpAny (model X.prog X.w) X.A (call (.builtin id) (v :: us)) (EP X pins σ Q) X.xe s
section
variable {X : Cx} {a b : Expr} {ta tb : TE} {pos : Pos}
theorem pe_ix {r : R2} (hr : IxR X r) (ha : PE X a ta) (hb : PE X b tb) (hs : PlainIx b) : PE X (.Subscript a b pos) (tOp r ta tb) := by
  intro pins s σ H Q I h
  exact Subscript_ (binT ha hb I h fun v u s2 x y H2 I2 rx ry q => hr a b pins s2 σ H2 x y v u Q I2 rx ry q (hs _ _))
inductive RIxLI (K : PySem.W.Frag) (x : V) (y : V) (H : Hp) (Q : VK) : Prop
  | mk (p xs i v) (h_0 : x = .ref p) (h_1 : y = .int i) (h_2 : SqL K H p xs) (h_3 : atI xs i = some v) (h_4 : Q v H) : RIxLI K x y H Q
noncomputable def rIxL (K : PySem.W.Frag) : R2 := fun x y H Q => RIxLI K x y H Q
inductive RIxTI (K : PySem.W.Frag) (x : V) (y : V) (H : Hp) (Q : VK) : Prop
  | mk (p xs i v) (h_0 : x = .ref p) (h_1 : y = .int i) (h_2 : SqT K H p xs) (h_3 : atI xs i = some v) (h_4 : Q v H) : RIxTI K x y H Q
noncomputable def rIxT (K : PySem.W.Frag) : R2 := fun x y H Q => RIxTI K x y H Q
inductive RIxSI  (x : V) (y : V) (H : Hp) (Q : VK) : Prop
  | mk (z i c) (h_0 : x = .str z) (h_1 : y = .int i) (h_2 : z.length ≤ sizeLine) (h_3 : atI z.cps.toList i = some c) (h_4 : Q (.str ⟨#[c]⟩) H) : RIxSI  x y H Q
noncomputable def rIxS  : R2 := fun x y H Q => RIxSI  x y H Q
theorem ix_list : IxR X (rIxL X.K) := by
  intro value slice pins s σ H x y v u Q I rx ry h hs
  obtain ⟨p, xs, i, z, rfl, rfl, hq, he, q⟩ := h
  cases rx
  obtain ⟨t, rfl⟩ := ry
  obtain ⟨its, r, pl, hz⟩ := I.list hq
  obtain ⟨j, h1, h2, h3, h4, h5⟩ := atI_get he
  obtain ⟨w, ew, rw'⟩ := r.get h2
  have hl := r.length
  have hn := line63
  have fin : EP X pins σ Q w s := ⟨z, H, I, rw', q⟩
  by_cases h0 : 0 ≤ i
  · have hj : i.toNat = j := by
      rw [seqIndex_of h0 h5] at h1
      exact Option.some.inj h1
    exact item_listR pl.isList h0 (by omega) (by rw [hj]; simpa using ew) fin hs
  · have hj : (i + (its.toArray.size : Int)).toNat = j := by
      rw [seqIndex_neg (by omega) h4] at h1
      rw [List.size_toArray, ← hl]
      exact Option.some.inj h1
    exact subscriptTail_builtinR (x := w) pl.isList.typeIs slot_list_getitem.lookup
      (wpAny_getItem_list_neg (Q := fun r s' => r = w ∧ EP X pins σ Q r s') pl.isList (by omega) (by rw [List.size_toArray] <;> omega) (by omega) (by rw [hj]; simpa using ew) ⟨rfl, fin⟩) hs
theorem ix_tup : IxR X (rIxT X.K) := by
  intro value slice pins s σ H x y v u Q I rx ry h hs
  obtain ⟨p, xs, i, z, rfl, rfl, hq, he, q⟩ := h
  cases rx
  obtain ⟨t, rfl⟩ := ry
  obtain ⟨its, r, pl, hz⟩ := I.tuple hq
  obtain ⟨j, h1, h2, h3, h4, h5⟩ := atI_get he
  obtain ⟨w, ew, rw'⟩ := r.get h2
  have hl := r.length
  have hn := line63
  have fin : EP X pins σ Q w s := ⟨z, H, I, rw', q⟩
  exact subscriptTail_builtinR (x := w) pl.typeIs slot_tuple_getitem.lookup
    (getItem_tuple (j := j) (Q := fun r s' => r = w ∧ EP X pins σ Q r s') pl (by omega) (by omega) (by rw [List.size_toArray, ← hl]; exact h1) (by simpa using ew) ⟨rfl, fin⟩) hs
theorem ix_str : IxR X rIxS := by
  intro value slice pins s σ H x y v u Q I rx ry h hs
  obtain ⟨z, i, c, rfl, rfl, hz, he, q⟩ := h
  obtain ⟨t, rfl⟩ := rx
  obtain ⟨t', rfl⟩ := ry
  obtain ⟨j, h1, h2, h3, h4, h5⟩ := atI_get he
  have hl : z.cps.toList.length = z.length := by simp [Str.length]
  rw [hl] at h1 h4 h5
  have hn := line63
  exact tail_any (typeIs_str s z t) slot_str_getitem.lookup (getItem_str (c := c) (by
    have e1 : decide (i < -(2 ^ 63 : Int)) = false := decide_eq_false (by omega)
    have e2 : decide (i ≥ 2 ^ 63) = false := decide_eq_false (by omega)
    rw [e1, e2, Bool.or_false]) (by rw [h1]; simpa using h2) ⟨.str ⟨#[c]⟩, H, I.tok _, ⟨_, rfl⟩, q⟩) hs
theorem mapSeq_set (its : List Value) (n j : Nat) (u : Value) : Obj.mapSeq (·.setIfInBounds j u) { cls := .type "list", data := .seq its.toArray n } = { cls := .type "list", data := .seq (its.set j u).toArray n } := by
  simp [Obj.mapSeq]
theorem Inv.lst {pins : List (Addr × Obj)} {σ : St} {H : Hp} {s : Shared} {p : Addr} {xs : List V} (I : Inv X pins σ H s) (h : H p = some (.lst xs)) :
    ∃ (its : List Value) (n : Nat), Vals xs its ∧ s.heap.get? p = some { cls := .type "list", data := .seq its.toArray n } ∧ xs.length ≤ sizeLine := by
  obtain ⟨z, its, n, r, e⟩ := I.hok p _ h
  exact ⟨its, n, r, e, z⟩
theorem Inv.lstUpd {pins : List (Addr × Obj)} {σ : St} {H : Hp} {s : Shared} {p : Addr} {xs ys : List V} {its its' : List Value} {n n' : Nat} {f : Obj → Obj} (I : Inv X pins σ H s) (h : H p = some (.lst xs))
    (ho : s.heap.get? p = some { cls := .type "list", data := .seq its.toArray n }) (hf : f { cls := .type "list", data := .seq its.toArray n } = { cls := .type "list", data := .seq its'.toArray n' }) (r : Vals ys its') (hz : ys.length ≤ sizeLine) (t : Nat) :
    Inv X pins σ (upd H p (.lst ys)) { s with heap := s.heap.update p f, toks := t } := by
  have e : (s.heap.update p f).get? p = some { cls := .type "list", data := .seq its'.toArray n' } := by
    rw [Heap.get?_update_self f ho (by rw [hf] <;> rfl), hf]
  refine I.write (x := p) (e := p) (by rw [h]; trivial) (.inl rfl) (fun b u hb q => (Heap.get?_update_other _ _ (Ne.symm hb)).trans q) ⟨_, e⟩ ?_
  exact ⟨hz, its', n', r, e⟩
noncomputable def rSetL : V → V → V → Hp → (Hp → Prop) → Prop := fun o i v H Q => ∃ p xs k j, o = .ref p ∧ i = .int k ∧ H p = some (.lst xs) ∧ ixN xs.length k = some j ∧ Q (upd H p (.lst (xs.set j v)))
theorem set_list : PSet X rSetL := by
  intro pins s σ H o i v ov iv u Q I ro ri rv h
  obtain ⟨p, xs, k, j, rfl, rfl, hp, hj, q⟩ := h
  cases ro
  obtain ⟨t, rfl⟩ := ri
  obtain ⟨its, n, r, ho, hz⟩ := I.lst hp
  obtain ⟨h1, h2, h3, h4⟩ := ixN_seq hj
  have hl := r.length
  have hn := line63
  have I' : Inv X pins σ (upd H p (.lst (xs.set j v))) { s with heap := s.heap.update p (Obj.mapSeq (·.setIfInBounds j u)) } :=
    I.lstUpd hp ho (mapSeq_set its n j u) (r.set rv j) (by rw [List.length_set]; exact hz) s.toks
  by_cases h0 : 0 ≤ k
  · have hk : k.toNat = j := by
      rw [seqIndex_of h0 h4] at h1
      exact Option.some.inj h1
    exact PySem.W.ki_setAt ho h0 (by omega) (by rw [List.size_toArray, ← hl]; exact h4) (by rw [hk]; exact ⟨_, I', q⟩)
  · have hk : (k + (its.toArray.size : Int)).toNat = j := by
      rw [seqIndex_neg (by omega) h3] at h1
      rw [List.size_toArray, ← hl]
      exact Option.some.inj h1
    exact PySem.W.ki_setBack ho (by omega) (by rw [List.size_toArray, ← hl]; exact h3) (by omega) (by rw [hk]; exact ⟨_, I', q⟩)
theorem slice_bounds (lo hi : Option Int) (n : Nat) : (sliceBounds lo hi none n).1 = ((HT.sIx n 0 lo : Nat) : Int) ∧ (sliceBounds lo hi none n).2.1 = ((HT.sIx n n hi : Nat) : Int) ∧ (sliceBounds lo hi none n).2.2 = 1 := by
  refine ⟨?_, ?_, rfl⟩
  · cases lo with
    | none => simp [sliceBounds, HT.sIx]
    | some i =>
      simp only [sliceBounds, HT.sIx, Option.getD_none, show (1 : Int) > 0 by decide, if_true]
      by_cases h : i < 0
      · simp only [h, if_true] <;> omega
      · simp only [h, if_false] <;> omega
  · cases hi with
    | none => simp [sliceBounds, HT.sIx]
    | some i =>
      simp only [sliceBounds, HT.sIx, Option.getD_none, show (1 : Int) > 0 by decide, if_true]
      by_cases h : i < 0
      · simp only [h, if_true] <;> omega
      · simp only [h, if_false] <;> omega
theorem slicePick_cut (its : List Value) (lo hi : Option Int) : slicePick its.toArray lo hi none = ((its.drop (HT.sIx its.length 0 lo)).take (HT.sIx its.length its.length hi - HT.sIx its.length 0 lo)).toArray := by
  obtain ⟨h1, h2, h3⟩ := slice_bounds lo hi its.toArray.size
  unfold slicePick
  rw [h1, h2, h3]
  simp only [sliceRange_one, pick_run, List.size_toArray] <;> rfl
inductive RSlLI (K : PySem.W.Frag) (x : V) (lo : Option Int) (hi : Option Int) (H : Hp) (Q : VK) : Prop
  | mk (a xs) (h_0 : x = .ref a) (h_1 : SqL K H a xs) (h_2 : ∀ p, H p = none → Q (.ref p) (upd H p (.lst (cutV xs lo hi)))) : RSlLI K x lo hi H Q
noncomputable def rSlL (K : PySem.W.Frag) : V → Option Int → Option Int → Hp → VK → Prop := fun x lo hi H Q => RSlLI K x lo hi H Q
theorem sl_list : SlR X (rSlL X.K) := by
  intro pins s σ H x v vl vu lo hi sl Q I rx hs pl pu h
  obtain ⟨a, xs, rfl, hx, q⟩ := h
  cases rx
  obtain ⟨its, r, ht, hz⟩ := I.list hx
  have hlen := r.length
  refine ⟨"list", _, slot_list_getitem.lookup, ht.isList.typeIs, ?_⟩
  refine wpAny_getItem_list_slice ht.isList hs pl pu .none (by simp) ?_ (by rw [List.size_toArray] <;> omega)
  rw [slicePick_cut, ← hlen]
  refine ⟨.ref s.heap.objs.size, _, I.laid (t' := s.toks) (o := .lst (cutV xs lo hi)) (fun b ob q => Heap.get?_push_of_some _ q) (Nat.le_refl _) ?_, rfl, q _ (I.hok.fresh (Nat.le_refl _))⟩
  exact ⟨Nat.le_trans (cutV_length xs lo hi) hz, _, 0, (r.drop (HT.sIx xs.length 0 lo)).take (HT.sIx xs.length xs.length hi - HT.sIx xs.length 0 lo), Heap.get?_push_size _ rfl⟩
noncomputable def flatV : V → Bool
  | .non => true
  | .bl _ => true
  | .int _ => true
  | .str _ => true
  | _ => false
noncomputable def eqV : V → V → Bool
  | .non, .non => true
  | .bl a, .bl b => a == b
  | .bl a, .int b => (if a then 1 else 0) == b
  | .int a, .bl b => a == (if b then 1 else 0)
  | .int a, .int b => a == b
  | .str a, .str b => a == b
  | _, _ => false
theorem eqAt_V {A : Around} {s : Shared} {y x : V} {u v : Value} (ry : RelV y u) (rx : RelV x v) (fy : flatV y = true) (fx : flatV x = true) : SeqAt.EqAt A s u v (eqV y x) := by
  cases y with
  | non =>
    cases ry
    cases x with
    | non => cases rx; exact SeqAt.EqAt.same _
    | bl b => cases rx; exact SeqAt.EqAt.none_bool b
    | int b => obtain ⟨t, rfl⟩ := rx; exact SeqAt.EqAt.none_int b t
    | str b => obtain ⟨t, rfl⟩ := rx; exact SeqAt.EqAt.none_str b t
    | _ => exact absurd (show false = true from fx) Bool.false_ne_true
  | bl a =>
    cases ry
    cases x with
    | non => cases rx; exact SeqAt.EqAt.bool_none a
    | bl b => cases rx; exact SeqAt.EqAt.bool_bool a b
    | int b => obtain ⟨t, rfl⟩ := rx; exact SeqAt.EqAt.bool_int a b t
    | str b => obtain ⟨t, rfl⟩ := rx; exact SeqAt.EqAt.bool_str a b t
    | _ => exact absurd (show false = true from fx) Bool.false_ne_true
  | int a =>
    obtain ⟨t', rfl⟩ := ry
    cases x with
    | non => cases rx; exact SeqAt.EqAt.int_none a t'
    | bl b => cases rx; exact SeqAt.EqAt.int_bool a t' b
    | int b => obtain ⟨t, rfl⟩ := rx; exact SeqAt.EqAt.int_int a t' b t
    | str b => obtain ⟨t, rfl⟩ := rx; exact SeqAt.EqAt.int_str a t' b t
    | _ => exact absurd (show false = true from fx) Bool.false_ne_true
  | str a =>
    obtain ⟨t', rfl⟩ := ry
    cases x with
    | non => cases rx; exact SeqAt.EqAt.str_none a t'
    | bl b => cases rx; exact SeqAt.EqAt.str_bool a t' b
    | int b => obtain ⟨t, rfl⟩ := rx; exact SeqAt.EqAt.str_int a t' b t
    | str b => obtain ⟨t, rfl⟩ := rx; exact SeqAt.EqAt.str_str a t' b t
    | _ => exact absurd (show false = true from fx) Bool.false_ne_true
  | _ => exact absurd (show false = true from fy) Bool.false_ne_true
noncomputable def eqU (x : V) (u : Value) : Bool := match u with
  | .none => eqV .non x
  | .bool b => eqV (.bl b) x
  | .int i _ => eqV (.int i) x
  | .str z _ => eqV (.str z) x
  | _ => false
theorem eqU_of {x y : V} {u : Value} (r : RelV y u) (f : flatV y = true) : eqU x u = eqV y x := by
  cases y with
  | non => cases r; rfl
  | bl b => cases r; rfl
  | int i => obtain ⟨t, rfl⟩ := r; rfl
  | str z => obtain ⟨t, rfl⟩ := r; rfl
  | _ => exact absurd (show false = true from f) Bool.false_ne_true
theorem any_eqU {x : V} : ∀ {xs : List V} {us : List Value}, Vals xs us → xs.all flatV = true → us.any (eqU x) = xs.any fun y => eqV y x
  | _, _, .nil, _ => rfl
  | y :: xs, u :: us, .cons r t, f => by
    rw [List.all_cons, Bool.and_eq_true] at f
    rw [List.any_cons, List.any_cons, eqU_of r f.1, any_eqU t f.2]
theorem mem_eqAt {A : Around} {s : Shared} {x : V} {v : Value} (rx : RelV x v) (fx : flatV x = true) : ∀ {xs : List V} {us : List Value}, Vals xs us → xs.all flatV = true → ∀ u ∈ us, SeqAt.EqAt A s u v (eqU x u)
  | _, _, .nil, _ => fun u hu => by cases hu
  | y :: xs, u :: us, .cons r t, f => fun u' hu => by
    rw [List.all_cons, Bool.and_eq_true] at f
    rcases List.mem_cons.mp hu with rfl | hu
    · rw [eqU_of r f.1]; exact eqAt_V r rx f.1 fx
    · exact mem_eqAt rx fx t f.2 u' hu
noncomputable def inV (x : V) (xs : List V) : Bool := xs.any fun y => eqV y x
inductive RInI (K : PySem.W.Frag) (neg : Bool) (x : V) (y : V) (H : Hp) (Q : VK) : Prop
  | mk (p xs) (h_0 : y = .ref p) (h_1 : (SqL K H p xs ∨ SqT K H p xs)) (h_2 : flatV x = true) (h_3 : xs.all flatV = true) (h_4 : Q (.bl (if neg then !inV x xs else inV x xs)) H) : RInI K neg x y H Q
noncomputable def rIn (K : PySem.W.Frag) (neg : Bool) : R2 := fun x y H Q => RInI K neg x y H Q
theorem op_notIn_seq : OpR X (compareOp .NotIn) (rIn X.K true) := by
  intro pins s σ H x y v u Q I rx ry h
  obtain ⟨p, xs, rfl, hq, fx, fs, q⟩ := h
  cases ry
  rcases hq with hq | hq
  · obtain ⟨its, r, pl, hz⟩ := I.list hq
    refine SeqAt.notIn_listAt (eqU x) pl.isList (fun w hw => mem_eqAt rx fx r fs w (by simpa using hw)) ⟨.bl _, H, I, rfl, ?_⟩
    rw [show its.toArray.any (eqU x) = its.any (eqU x) by simp, any_eqU r fs]
    exact q
  · obtain ⟨its, r, pl, hz⟩ := I.tuple hq
    refine SeqAt.notIn_tupleAt (eqU x) pl (fun w hw => mem_eqAt rx fx r fs w (by simpa using hw)) ⟨.bl _, H, I, rfl, ?_⟩
    rw [show its.toArray.any (eqU x) = its.any (eqU x) by simp, any_eqU r fs]
    exact q
inductive RLenI (K : PySem.W.Frag) (xs : List V) (H : Hp) (Q : VK) : Prop
  | mk (p : Addr) (ys : List V) (h_0 : xs = [.ref p]) (h_1 : SqL K H p ys ∨ SqT K H p ys) (h_2 : Q (.int ys.length) H) : RLenI K xs H Q
theorem call_len_seq : CallR X (.builtin "len") (RLenI X.K) := by
  intro pins s σ H xs us Q I r h
  obtain ⟨p, ys, rfl, hq, q⟩ := h
  obtain ⟨u, rfl, rx⟩ := vals1 r
  cases rx
  have hn := line63
  rcases hq with hq | hq
  · obtain ⟨its, r', pl, hz⟩ := I.list hq
    have hlen := r'.length
    exact Calls.call_len_list pl.isList (by simp only [List.size_toArray] <;> omega) ⟨.int ys.length, H, I.tok _, ⟨s.toks + 1, by rw [List.size_toArray, hlen]⟩, q⟩
  · obtain ⟨its, r', pl, hz⟩ := I.tuple hq
    have hlen := r'.length
    exact len_tuple pl (by simp only [List.size_toArray] <;> omega) ⟨.int ys.length, H, I.tok _, ⟨s.toks + 1, by rw [List.size_toArray, hlen]⟩, q⟩
inductive RLenS (xs : List V) (H : Hp) (Q : VK) : Prop
  | mk (z : Str) (h_0 : xs = [.str z]) (h_1 : z.length ≤ sizeLine) (h_2 : Q (.int z.length) H) : RLenS xs H Q
theorem call_len_str : CallR X (.builtin "len") RLenS := by
  intro pins s σ H xs us Q I r h
  obtain ⟨z, rfl, hz, q⟩ := h
  obtain ⟨u, rfl, t, rfl⟩ := vals1 r
  have hn := line63
  exact len_str (by omega) ⟨.int z.length, H, I.tok _, ⟨_, rfl⟩, q⟩
theorem call_list_of : CallR X (.type "list") (fun xs H Q => ∃ p ys, xs = [.ref p] ∧ (SqL X.K H p ys ∨ SqT X.K H p ys) ∧ ∀ l, H l = none → Q (.ref l) (upd H l (.lst ys))) := by
  intro pins s σ H xs us Q I r h
  obtain ⟨p, ys, rfl, hq, q⟩ := h
  obtain ⟨u, rfl, rx⟩ := vals1 r
  cases rx
  have fin : ∀ (its : List Value), Vals ys its → ys.length ≤ sizeLine → ∀ (h' : Heap) (c' : Nat), (∀ b o', s.heap.get? b = some o' → h'.get? b = some o') →
      h'.get? s.heap.objs.size = some { cls := .type "list", dict := none, data := .seq its.toArray c', slots := #[] } → EP X pins σ Q (.ref s.heap.objs.size) { s with heap := h' } := fun its r' hz h' c' kp e =>
    ⟨.ref s.heap.objs.size, _, I.laid (t' := s.toks) kp (Nat.le_refl _) (show ObjOk X.prog X.w _ h' _ (.lst ys) from ⟨hz, its, c', r', e⟩), rfl, q _ (I.hok.fresh (Nat.le_refl _))⟩
  rcases hq with hq | hq
  · obtain ⟨its, r', pl, hz⟩ := I.list hq
    have hlen := r'.length
    obtain ⟨o, ho, hc, n, hd⟩ := pl.isList
    exact call_list_seq p (.inl rfl) ho hc hd (fun h' c' kp e => fin its r' hz h' c' kp e) (by simp only [List.size_toArray] <;> omega)
  · obtain ⟨its, r', pl, hz⟩ := I.tuple hq
    have hlen := r'.length
    obtain ⟨o, ho, hc, n, hd⟩ := pl
    exact call_list_seq p (.inr rfl) ho hc hd (fun h' c' kp e => fin its r' hz h' c' kp e) (by simp only [List.size_toArray] <;> omega)
noncomputable def tyV (K : PySem.W.Frag) (T : String) (x : V) (H : Hp) : Prop := match x with
  | .str _ => T = "str"
  | .int _ => T = "int"
  | .ref p => (T = "list" ∧ ∃ xs, SqL K H p xs) ∨ (T = "tuple" ∧ ∃ o, K.lookup p = some o ∧ o.cls = .type "tuple" ∧ o.dict = none) ∨
      (T = "dict" ∧ ((∃ kvs, H p = some (.dK kvs)) ∨ ∃ kvs, H p = some (.dT kvs))) ∨ (T = "set" ∧ ∃ S n, H p = some (.set S n))
  | _ => False
theorem tyV_is {pins : List (Addr × Obj)} {σ : St} {H : Hp} {s : Shared} {T : String} {x : V} {v : Value} (I : Inv X pins σ H s) (r : RelV x v) (ty : tyV X.K T x H) :
    s.TypeIs v T ∧ ∀ a, v = .ref a → ∃ ob, s.heap.get? a = some ob ∧ ob.dict = none := by
  cases x with
  | str z =>
    obtain ⟨t, rfl⟩ := r
    cases (show T = "str" from ty)
    exact ⟨typeIs_str s z t, fun _ e => nomatch e⟩
  | int i =>
    obtain ⟨t, rfl⟩ := r
    cases (show T = "int" from ty)
    exact ⟨typeIs_int s i t, fun _ e => nomatch e⟩
  | ref p =>
    cases r
    rcases ty with ⟨rfl, xs, hq⟩ | ⟨rfl, o, hk, hc, hd⟩ | ⟨rfl, hk⟩ | ⟨rfl, S, n, hk⟩
    · obtain ⟨its, _, pl, _⟩ := I.list hq
      refine ⟨pl.isList.typeIs, fun a e => ?_⟩
      cases e
      obtain ⟨o, n, e, c, hd, _⟩ := pl
      exact ⟨o, e, hd⟩
    · refine ⟨⟨o, I.kIn p o hk, hc⟩, fun a e => ?_⟩
      cases e
      exact ⟨o, I.kIn _ o hk, hd⟩
    · have z : ∃ o, s.heap.get? p = some o ∧ o.ExactDict := by
        rcases hk with ⟨kvs, hk⟩ | ⟨kvs, hk⟩
        · obtain ⟨_, _, _, _, o, _, _, e, ex, _⟩ := I.hok p _ hk
          exact ⟨o, e, ex⟩
        · obtain ⟨_, _, _, _, o, _, _, e, ex, _⟩ := I.hok p _ hk
          exact ⟨o, e, ex⟩
      obtain ⟨o, e, ex⟩ := z
      refine ⟨⟨o, e, ex.1⟩, fun a e2 => ?_⟩
      cases e2
      exact ⟨o, e, ex.2.1⟩
    · obtain ⟨o, _, _, _, e, ex, _⟩ := I.hok p _ hk
      refine ⟨⟨o, e, ex.1⟩, fun a e2 => ?_⟩
      cases e2
      exact ⟨o, e, ex.2.1⟩
  | _ => exact False.elim ty
noncomputable def tBM0 (K : PySem.W.Frag) (T : String) (r : V → List V → Hp → VK → Prop) (to : TE) : TE := fun σ H Q => to σ H fun x H1 => tyV K T x H1 ∧ r x [] H1 Q
noncomputable def tBM (K : PySem.W.Frag) (T : String) (r : V → List V → Hp → VK → Prop) (to : TE) (t : TA) : TE := fun σ H Q => to σ H fun x H1 => tyV K T x H1 ∧ t σ H1 fun xs H2 => r x xs H2 Q
variable {o e : Expr} {es : List Expr} {to : TE} {t : TA} {name : Str} {apos cpos : Pos} {T id : String} {r : V → List V → Hp → VK → Prop}
theorem pe_bm0 (pa : PlainAttrs T) (slot : Slot T name id) (hty : typeOf (.builtin id) = pure (.type "method_descriptor")) (hm : MtR X id r) (ho : PE X o to)
    (hbase : attributeBase o name X.env (eval o X.env) = eval o X.env := by rfl) (hline : (apos.endLine == cpos.line) = true := by rfl) : PE X (.Call (.Attribute o name apos) [] [] cpos) (tBM0 X.K T r to) := by
  intro pins s σ H Q I h
  refine wpAny_Call_method0_late hbase hline (thn (ho pins s σ H _ I h) fun v s1 ⟨x, H1, I1, r1, ty, q1⟩ => ?_)
  obtain ⟨h1, h2⟩ := tyV_is I1 r1 ty
  exact ⟨T, id, pa, slot, hty, h1, h2, Calls.callWith_builtin rfl (PySem.evalArgs_none (hm pins s1 σ H1 x [] v [] Q I1 r1 .nil q1))⟩
theorem pe_bm (pa : PlainAttrs T) (slot : Slot T name id) (hty : typeOf (.builtin id) = pure (.type "method_descriptor")) (hm : MtR X id r) (ho : PE X o to) (ha : PA X (e :: es) t)
    (hbase : attributeBase o name X.env (eval o X.env) = eval o X.env := by rfl)
    (hfew : ((backTo cpos (starEach (e :: es) X.env)).all (fun x => !x.1) && (backToKw cpos (keywordEach [] X.env)).all (fun x => x.1.isSome)
      && decide ((e :: es).length + ([] : List Keyword).length + (if ([] : List Keyword).isEmpty then 0 else 1) < 30)) = true := by rfl)
    (hline : (apos.endLine == cpos.line) = true := by rfl) (hs : starEach (e :: es) X.env = (false, eval e X.env) :: starEach es X.env := by rfl) (hplain : (backTo cpos (starEach es X.env)).any (·.1) = false := by rfl) :
    PE X (.Call (.Attribute o name apos) (e :: es) [] cpos) (tBM X.K T r to t) := by
  intro pins s σ H Q I h
  refine wpAny_Call_method_late hbase hfew hline rfl (thn (ho pins s σ H _ I h) fun v s1 ⟨x, H1, I1, r1, ty, q1⟩ => ?_)
  obtain ⟨h1, h2⟩ := tyV_is I1 r1 ty
  refine ⟨T, id, pa, slot, hty, h1, h2, ?_⟩
  have hA := ha cpos pins s1 σ H1 _ I1 q1
  rw [hs] at hA ⊢
  refine Calls.callWith_builtin (by show (false || (backTo cpos (starEach es X.env)).any (·.1)) = false; rw [hplain] <;> rfl) (Calls.evalArgs_plain ?_)
  exact thn hA fun us s2 ⟨vs, H2, I2, r2, q2⟩ => hm pins s2 σ H2 x vs v us Q I2 r1 r2 q2
end
end L2
namespace L2
open PySem PySem.Spec PyProof.Rows
noncomputable def MtM (X : Cx) (id : String) (r : V → List V → Hp → VK → Prop) : Prop :=
  ∀ (pins : List (Addr × Obj)) (s : Shared) (σ : St) (H : Hp) (x : V) (xs : List V) (v : Value) (us : List Value) (Q : VK), Inv X pins σ H s → RelV x v → Vals xs us → r x xs H Q →
    wpAny (model X.prog X.w) X.A (call (.builtin id) (v :: us)) (EP X pins σ Q) X.xe s
theorem Vals.one : ∀ {x : V} {us : List Value}, Vals [x] us → ∃ u, us = [u] ∧ RelV x u
  | _, _, .cons r .nil => ⟨_, rfl, r⟩
theorem Vals.zero : ∀ {us : List Value}, Vals [] us → us = []
  | _, .nil => rfl
theorem Vals.dropLast {xs : List V} {us : List Value} (h : Vals xs us) : Vals xs.dropLast us.dropLast := by
  induction h with
  | nil => exact .nil
  | cons r t ih =>
    cases t with
    | nil => exact .nil
    | cons q t' => exact .cons r ih
theorem erase_last {α : Type} (l : List α) : l.eraseIdx (l.length - 1) = l.dropLast := by
  induction l with
  | nil => rfl
  | cons a r ih =>
    cases r with
    | nil => rfl
    | cons b r =>
      have e : (a :: b :: r).length - 1 = ((b :: r).length - 1) + 1 := by
        have h1 : (a :: b :: r).length = r.length + 2 := rfl
        have h2 : (b :: r).length = r.length + 1 := rfl
        omega
      rw [e, List.eraseIdx_cons_succ, ih]
      all_goals rfl
section
variable {X : Cx} {pins : List (Addr × Obj)} {σ : St} {H : Hp} {s : Shared} {l b : Addr} {xs ys zs : List V}
theorem Inv.lset {its its' : List Value} {n : Nat} {f : Array Value → Array Value} {t' : Nat} (I : Inv X pins σ H s) (hH : H l = some (.lst xs))
    (e : s.heap.get? l = some { cls := .type "list", data := .seq its.toArray n }) (hf : f its.toArray = its'.toArray) (hv : Vals ys its') (hz : ys.length ≤ sizeLine) :
    Inv X pins σ (upd H l (.lst ys)) { s with heap := s.heap.update l (Obj.mapSeq f), toks := t' } := by
  have q := PySem.IsL.update e f
  rw [hf] at q
  refine I.write (x := l) (e := l) (by rw [hH]; exact trivial) (.inl rfl) (fun b' u hb hu => (Heap.get?_update_other s.heap (Obj.mapSeq f) (Ne.symm hb)).trans hu) ⟨_, q⟩ ?_
  exact ⟨hz, its', _, hv, q⟩
theorem Inv.lnew {its : List Value} {t' : Nat} (I : Inv X pins σ H s) (hv : Vals ys its) (hz : ys.length ≤ sizeLine) :
    Inv X pins σ (upd H s.heap.objs.size (.lst ys)) { s with heap := s.heap.push { cls := .type "list", data := .seq its.toArray }, toks := t' } :=
  I.laid (fun _ _ q => Heap.get?_push_of_some _ q) (Nat.le_refl _) ⟨hz, its, 0, hv, Heap.get?_push_size _ rfl⟩
theorem Inv.fresh (I : Inv X pins σ H s) : H s.heap.objs.size = none := I.hok.fresh (Nat.le_refl _)
theorem Inv.lstM (I : Inv X pins σ H s) (hH : H l = some (.lst xs)) : xs.length ≤ sizeLine ∧ ∃ (its : List Value) (n : Nat), Vals xs its ∧ xs.length = its.length ∧ s.heap.get? l = some { cls := .type "list", data := .seq its.toArray n } := by
  obtain ⟨z, its, n, r, e⟩ := I.hok l _ hH
  exact ⟨z, its, n, r, r.length, e⟩
theorem notLongL {n : Nat} (h : n ≤ sizeLine) : Builtin.List.listTooLong n = false := by
  unfold Builtin.List.listTooLong
  exact decide_eq_false (by omega)
end
section
variable {X : Cx}
inductive RAppendI  (x : V) (vs : List V) (H : Hp) (Q : VK) : Prop
  | mk (l xs y) (h_0 : x = .ref l) (h_1 : vs = [y]) (h_2 : H l = some (.lst xs)) (h_3 : xs.length < sizeLine) (h_4 : Q .non (upd H l (.lst (xs ++ [y])))) : RAppendI  x vs H Q
noncomputable def rAppend  : V → List V → Hp → VK → Prop := fun x vs H Q => RAppendI  x vs H Q
theorem mt_append : MtM X "list.append" rAppend := by
  intro pins s σ H x vs v us Q I rx rv h
  obtain ⟨l, xs, y, rfl, rfl, hH, hz, q⟩ := h
  cases rx
  obtain ⟨u, rfl, ru⟩ := rv.one
  obtain ⟨z, its, n, r, hl, e⟩ := I.lstM hH
  refine call_meets F.slot_list_append ⟨_, e, rfl⟩ F.entry_list_append (F.args_list_append_2 _ _) (PySem.list_append l its.toArray n u (by rw [List.size_toArray]; omega)) ⟨e, ?_⟩
  refine ⟨.non, _, I.lset (its' := its ++ [u]) hH e (by simp) (r.append (.cons ru .nil)) ?_, rfl, q⟩
  rw [List.length_append, List.length_singleton]
  omega
inductive RExtendI  (x : V) (vs : List V) (H : Hp) (Q : VK) : Prop
  | mk (l b xs zs) (h_0 : x = .ref l) (h_1 : vs = [.ref b]) (h_2 : H l = some (.lst xs)) (h_3 : H b = some (.lst zs)) (h_4 : xs.length + zs.length ≤ sizeLine) (h_5 : Q .non (upd H l (.lst (xs ++ zs)))) : RExtendI  x vs H Q
noncomputable def rExtend  : V → List V → Hp → VK → Prop := fun x vs H Q => RExtendI  x vs H Q
theorem mt_extend : MtM X "list.extend" rExtend := by
  intro pins s σ H x vs v us Q I rx rv h
  obtain ⟨l, b, xs, zs, rfl, rfl, hH, hB, hz, q⟩ := h
  cases rx
  obtain ⟨u, rfl, ru⟩ := rv.one
  cases ru
  obtain ⟨z, its, n, r, hl, e⟩ := I.lstM hH
  obtain ⟨z2, its2, n2, r2, hl2, e2⟩ := I.lstM hB
  have hsz : its.toArray.size + its2.toArray.size ≤ sizeLine := by rw [List.size_toArray, List.size_toArray]; omega
  have hlong : ¬ (!its.toArray.isEmpty && Builtin.List.listTooLong (its.toArray.size + its2.toArray.size)) = true := by
    rw [notLongL hsz, Bool.and_false]
    exact Bool.false_ne_true
  refine call_meets F.slot_list_extend ⟨_, e, rfl⟩ F.entry_list_extend (F.args_list_extend_2 _ _)
    (AutoSeq1.list_extend_list_list_0 l its.toArray n b its2.toArray n2 hlong (by rw [List.size_toArray]; omega) (by omega)) ⟨e, e2, ?_⟩
  refine ⟨.non, _, I.lset (its' := its ++ its2) hH e (by simp) (r.append r2) ?_, rfl, q⟩
  rw [List.length_append]
  omega
inductive RPopI  (x : V) (vs : List V) (H : Hp) (Q : VK) : Prop
  | mk (l xs y) (h_0 : x = .ref l) (h_1 : vs = []) (h_2 : H l = some (.lst xs)) (h_3 : xs[xs.length - 1]? = some y) (h_4 : Q y (upd H l (.lst xs.dropLast))) : RPopI  x vs H Q
noncomputable def rPop  : V → List V → Hp → VK → Prop := fun x vs H Q => RPopI  x vs H Q
theorem mt_pop : MtM X "list.pop" rPop := by
  intro pins s σ H x vs v us Q I rx rv h
  obtain ⟨l, xs, y, rfl, rfl, hH, hy, q⟩ := h
  cases rx
  have hus := rv.zero
  subst hus
  obtain ⟨z, its, n, r, hl, e⟩ := I.lstM hH
  obtain ⟨u, hu, ru⟩ := r.get hy
  have hy' : its.toArray[its.toArray.size - 1]? = some u := by
    show its.toArray[its.length - 1]? = some u
    rw [← Array.getElem?_toList, ← hl]
    exact hu
  refine call_meets F.slot_list_pop ⟨_, e, rfl⟩ F.entry_list_pop (F.args_list_pop_1 _) (MeetsSeq.list_pop_last l its.toArray n u hy' (by rw [List.size_toArray]; omega)) ⟨e, ?_⟩
  refine ⟨y, _, I.lset (its' := its.dropLast) hH e ?_ r.dropLast ?_, ru, q⟩
  · show its.toArray.eraseIdxIfInBounds (its.toArray.size - 1) = its.dropLast.toArray
    rw [List.size_toArray, List.eraseIdxIfInBounds_toArray, erase_last]
  · rw [List.length_dropLast]
    omega
inductive RCatI  (x : V) (y : V) (H : Hp) (Q : VK) : Prop
  | mk (l b xs zs) (h_0 : x = .ref l) (h_1 : y = .ref b) (h_2 : H l = some (.lst xs)) (h_3 : H b = some (.lst zs)) (h_4 : xs.length + zs.length ≤ sizeLine) (h_5 : ∀ p, H p = none → Q (.ref p) (upd H p (.lst (xs ++ zs)))) : RCatI  x y H Q
noncomputable def rCat  : R2 := fun x y H Q => RCatI  x y H Q
theorem op_cat : OpR X (binaryOp .Add) rCat := by
  intro pins s σ H x y v u Q I rx ry h
  obtain ⟨l, b, xs, zs, rfl, rfl, hH, hB, hz, q⟩ := h
  cases rx
  cases ry
  obtain ⟨z, its, n, r, hl, e⟩ := I.lstM hH
  obtain ⟨z2, its2, n2, r2, hl2, e2⟩ := I.lstM hB
  refine PySem.P.add_list e e2 ?_ (by rw [List.size_toArray, List.size_toArray]; omega)
  have ea : its.toArray ++ its2.toArray = (its ++ its2).toArray := by simp
  rw [ea]
  exact ⟨.ref _, _, I.lnew (t' := s.toks) (r.append r2) (by rw [List.length_append]; omega), rfl, q _ I.fresh⟩
end
section
variable {prog : Program} {w : World} {A : Around} {E : Value → Shared → Prop} {s : Shared}
end
section
variable {X : Cx}
end
end L2
namespace Att
open PySem PySem.W PySem.Calls PyProof.Rows
theorem ints_of_wellAll {P : Params} {h : Heap} : ∀ (ns : List Int) (vs : List Value), WellAll P h vs (ns.map WData.int) → IntsAre vs ns := by
  intro ns
  induction ns with
  | nil =>
    intro vs w
    rw [List.map_nil] at w
    cases w
    exact .nil
  | cons n ns ih =>
    intro vs w
    rw [List.map_cons] at w
    cases w with
    | cons a b =>
      cases a
      exact .cons _ _ (ih _ b)
theorem script_of {l : OpenLaw} {n : Nat} (hn : l.most = some n) {P : Params} {h : Heap} {args : List WData} {vals : List Value}
    (hpre : l.row.toRowW.claim.pre args = true) (hwl : WellAll P h vals args) :
    ∃ a vs ns, vals = [Value.ref a] ∧ args = [WData.list (ns.map WData.int)] ∧ h.get? a = some { cls := .type "list", data := .seq vs.toArray } ∧ IntsAre vs ns ∧ ns.length ≤ n := by
  have hsh : WShape.hasAll [] args [.list .int] = true := (pre_splitW hpre).1
  have hc : l.pre.holds [] { args := args } = true := (pre_splitW hpre).2
  obtain ⟨d, r, rfl, h1, h2⟩ := hasAllW_cons hsh
  obtain rfl := hasAllW_nil h2
  obtain ⟨xs, rfl, h3⟩ := hasW_list h1
  obtain ⟨ns, rfl⟩ := items_int h3
  have hlen : ns.length ≤ n := by
    unfold OpenLaw.pre at hc
    have h4 : (WTm.not (.lt (.lit (.int (n : Int))) (.len (.arg 0)))).holds [] { args := [.list (ns.map .int)] } = true := by
      have h4 := (holds_andW hc).1
      rw [hn] at h4
      exact h4
    have h5 := condW_of h4 (w_not (w_lt w_lit (w_len_list (w_arg rfl))))
    rw [List.length_map] at h5
    refine Nat.le_of_not_lt fun q => ?_
    have q' : (n : Int) < ((ns.length : Nat) : Int) := by omega
    first
      | (rw [decide_eq_true q'] at h5; exact absurd h5 (by decide))
      | (simp at h5; omega)
  cases hwl with
  | cons w1 w2 =>
    cases w2
    cases w1 with
    | list ho hall => exact ⟨_, _, ns, rfl, rfl, ho, ints_of_wellAll ns _ hall, hlen⟩
theorem post_true (l : OpenLaw) (args : List WData) : l.row.toRowW.claim.post args (.bool true) args = true :=
  postW_of (r := l.row.toRowW) (X := (true == true))
    (show WShape.has [] (.bool true) .bool = true by first | rfl | decide | simp [WShape.has, WShape.arms, WShape.armsAll])
    (show (WTm.eq .res (.lit (.bool true))).value [] { args := args, res := some (.bool true), after := args } = some (.bool (true == true)) from w_eq_bool (w_res rfl) w_lit) rfl
section
variable {prog : Program} {w : World} {A : Around} {E : Value → Shared → Prop} {s : Shared} {K : Frag}
end
end Att
namespace L2
open PySem PySem.Spec PyProof.Rows
theorem vals_ints : ∀ {vs : List Value} {ns : List Int}, IntsAre vs ns → Vals (ns.map V.int) vs
  | _, _, .nil => .nil
  | _, _, .cons n t h => .cons ⟨t, rfl⟩ (vals_ints h)
noncomputable def Only (H : Hp) : Prop := ∀ b, H b = none ∨ ∃ o xs, H b = some (.frz o (.lst xs))
end L2
namespace L2
open PySem PySem.Spec PyProof.Rows
end L2
namespace L2
open PySem PySem.Spec PyProof.Rows
noncomputable def defArgs (s : Stmt) : Arguments := match s with
  | .FunctionDef _ a _ _ _ _ _ _ _ _ => a
  | _ => { posonlyargs := [], args := [], vararg := none, kwonlyargs := [], kw_defaults := [], kwarg := none, defaults := [] }
noncomputable def defBody (s : Stmt) : List Stmt := match s with
  | .FunctionDef _ _ b _ _ _ _ _ _ _ => b
  | _ => []
noncomputable def defScope (s : Stmt) : Scope := match s with
  | .FunctionDef _ _ _ _ _ _ sc _ _ _ => sc
  | _ => { kind := .function, names := [], isGenerator := false, isCoroutine := false }
noncomputable abbrev CX0 : CXT := fun _ _ _ _ _ _ => False
noncomputable abbrev E0 : XK := fun _ _ _ => False
theorem pass0 {X : Cx} : Passes CX0 X E0 := fun _ _ _ _ _ _ _ h => h.elim
structure Fun (K : PySem.W.Frag) (x qual : Str) (st : Stmt) (f : Addr) (fd : FuncData) : Prop where
  ex : ∃ (oc : Value) (od : Option Addr) (kV doc pm : Value) (an : Option Addr) (cdv ct : Value) (osl : Array (Option Value)),
    fd = PySem.W.fnOf x qual (defArgs st) (defBody st) (defScope st) .none kV doc pm an cdv ct ∧ K.lookup f = some ⟨oc, od, .func fd, osl⟩ ∧ PySem.W.codeIn K cdv qual = true
  kp : PySem.W.keepIn K (.ref f) = true
section
variable {P : Program} {w : World} {K : PySem.W.Frag} {mg : Str → Option Value} {base : Heap}
theorem Fun.ok {x qual : Str} {st : Stmt} {f : Addr} {fd : FuncData} {N ps : List Str} {k : Nat} {sp : Sp} (F : Fun K x qual st f fd) (S : FnScope N ps (defScope st)) (len : ∀ vs H Q E, sp vs H Q E → vs.length = ps.length)
    (hbody : ∀ (cdv : Value) (A : Around) (outer : List Env) (s : Shared) (H : Hp) (vs : List V) (Q : VK) (E : XK), Room k (A.deeper (envOfC qual (defScope st) s.heap.objs.size f cdv)) → sp vs H Q E →
      ∃ t, PSs (cxOf CX0 P w K mg base N qual (defScope st) f cdv A outer s H E).nox (defBody st) t ∧ t { nx := fun _ H' => Q .non H', rt := Q } (start N vs) H) : FnOk P w K mg base CX0 (k + 1) f fd ps sp := by
  obtain ⟨oc, od, kV, doc, pm, an, cdv, ct, osl, rfl, lk, hcd⟩ := F.ex
  refine fn_of lk hcd S len fun A outer s H vs Q E hr hsp => ?_
  obtain ⟨t, h, q⟩ := hbody cdv A outer s H vs Q E hr hsp
  exact ⟨t, h.nox, q⟩
theorem Fun.binds {x qual : Str} {st : Stmt} {f : Addr} {fd : FuncData} {ps : List Str} (F : Fun K x qual st f fd)
    (h : ∀ (kV doc pm : Value) (an : Option Addr) (cdv ct : Value) (us : List Value), us.length = ps.length → bindArgs (PySem.W.fnOf x qual (defArgs st) (defBody st) (defScope st) .none kV doc pm an cdv ct) ⟨us, []⟩ = pure (ps.zip us)) : Binds K fd ps [] := by
  obtain ⟨oc, od, kV, doc, pm, an, cdv, ct, osl, rfl, lk, hcd⟩ := F.ex
  exact .all (h kV doc pm an cdv ct)
theorem fun_mk {x qual : Str} {st : Stmt} {f : Addr} {oc : Value} {od an : Option Addr} {osl : Array (Option Value)} {kV doc pm cdv ct : Value} (l : K.lookup f = some ⟨oc, od, .func (PySem.W.fnOf x qual (defArgs st) (defBody st) (defScope st) .none kV doc pm an cdv ct), osl⟩)
    (c : PySem.W.codeIn K cdv qual = true) (k : PySem.W.keepIn K (.ref f) = true) : Fun K x qual st f (PySem.W.fnOf x qual (defArgs st) (defBody st) (defScope st) .none kV doc pm an cdv ct) := ⟨⟨oc, od, kV, doc, pm, an, cdv, ct, osl, rfl, l, c⟩, k⟩
end
theorem hu_of {A : Around} {k : Nat} (hr : Room k A) : A.units + 1 < cLine := Nat.lt_of_le_of_lt (Nat.add_le_add_left (by decide : 1 ≤ 64) _) hr.units
section
variable {X : Cx}
noncomputable def visB : Option NameKind → Bool
  | some .local => true
  | some .cell => true
  | some .free => true
  | _ => false
theorem vis_of {sc : Scope} {x : Str} (h : visB (sc.names.lookup x) = true) : Vis sc x := by
  unfold Vis
  generalize sc.names.lookup x = o at h
  cases o with
  | none => cases h
  | some k => cases k <;> first | exact .inl rfl | exact .inr (.inl rfl) | exact .inr (.inr rfl) | cases h
theorem pv (i : Nat) {x : Str} {pos : Pos} (hN : X.N[i]? = some x := by rfl) (hv : visB (X.env.scope.names.lookup x) = true := by rfl) (hd : (x == ("__debug__" : Str)) = false := by decide)
    (hcd : (x == ("__classdict__" : Str)) = false := by decide) : PE X (.Name x pos) (tVar i) := pe_var hN (vis_of hv) hd hcd
end
theorem iteF {A B : Prop} (h : B) : if false = true then A else B := by
  rw [if_neg Bool.false_ne_true]
  exact h
theorem iteT {A B : Prop} (h : A) : if true = true then A else B := by
  rw [if_pos rfl]
  exact h
theorem ite2 {c A B : Prop} [Decidable c] (h1 : c → A) (h2 : ¬ c → B) : if c then A else B := by
  by_cases h : c
  · rw [if_pos h]
    exact h1 h
  · rw [if_neg h]
    exact h2 h
noncomputable def Same (H H' : Hp) : Prop := ∀ b o, H b = some o → H' b = some o
theorem Same.refl (H : Hp) : Same H H := fun _ _ h => h
theorem Same.trans {H H1 H2 : Hp} (a : Same H H1) (b : Same H1 H2) : Same H H2 := fun c o h => b c o (a c o h)
theorem Same.free {H H' : Hp} (e : Same H H') {l : Addr} (h : H' l = Option.none) : H l = Option.none := by
  cases q : H l with
  | none => rfl
  | some o =>
    rw [e l o q] at h
    cases h
theorem Same.seq {K : PySem.W.Frag} {H H' : Hp} {a : Addr} {xs : List V} (e : Same H H') (h : SqL K H a xs) : SqL K H' a xs := by
  rcases h with (h | ⟨o, h⟩) | h
  · exact .inl (.inl (e _ _ h))
  · exact .inl (.inr ⟨o, e _ _ h⟩)
  · exact .inr h
end L2
set_option Elab.async false
set_option linter.all false
set_option maxRecDepth 100000
namespace L2
open PySem PySem.Spec PyProof.Rows
noncomputable def cxComp (X : Cx) (scope : Scope) (cl : List (Str × Addr)) (N : List Str) (fp : List Addr) (s : Shared) (H : Hp) : Cx :=
  { X with N := N, s₀ := s, H₀ := H, env := compEnvC scope cl s.heap.objs.size X.env, outer := X.stack, stack := X.stack, ex := fp, fn := fun _ => false, calm := true, pn := [], xe := fun _ _ => False }
structure CompOk (X : Cx) (scope : Scope) (x : Str) (cl : List (Str × Addr)) (fr : List (Str × Nat)) : Prop where
  clos : closureFor scope X.env = pure cl
  nocell : ∀ y ∈ scope.names, y.2 ≠ .cell
  kind : scope.kind = .function
  names : ∀ y ∈ scope.names, y.2 = .local → scope.names.lookup y.1 = some .local
  hx : scope.names.lookup x = some .local
  sub : ∀ y c, cl.lookup y = some c → X.env.cells.lookup y = some c
  has : ∀ y, ((relabel scope X.env).names.lookup y = some .cell ∨ (relabel scope X.env).names.lookup y = some .free) → ∃ c, cl.lookup y = some c
  free : ∀ p ∈ fr, X.N[p.2]? = some p.1 ∧ X.env.kindOf p.1 = some .cell ∧ ((relabel scope X.env).names.lookup p.1 = some .cell ∨ (relabel scope X.env).names.lookup p.1 = some .free)
  nd : (x :: fr.map (·.1)).Nodup
theorem relabel_has {scope : Scope} {env : Env} {y : Str} {k : NameKind} (h : (relabel scope env).names.lookup y = some k) (hk : k = .cell ∨ k = .free) : ∃ p ∈ scope.names, p.1 = y ∧ (p.2 = .free ∨ p.2 = .cell) := by
  have m := PySem.mem_of_lookup h
  have m' : (y, k) ∈ scope.names.map fun (n, k) => if (k == NameKind.free && env.scope.kind == .function && env.kindOf n == some .cell) then (n, NameKind.cell) else (n, k) := m
  obtain ⟨⟨n, k'⟩, hp, e⟩ := List.mem_map.mp m'
  refine ⟨(n, k'), hp, ?_⟩
  dsimp only at e
  split at e
  · rename_i c
    rw [Bool.and_eq_true, Bool.and_eq_true] at c
    cases e
    exact ⟨rfl, .inl (by simpa using c.1.1)⟩
  · cases e
    exact ⟨rfl, hk.symm⟩
theorem CompOk.of {X : Cx} {scope : Scope} {x : Str} {cl : List (Str × Addr)} {fr : List (Str × Nat)} (clos : closureFor scope X.env = pure cl) (nocell : ∀ y ∈ scope.names, y.2 ≠ .cell) (kind : scope.kind = .function)
    (names : ∀ y ∈ scope.names, y.2 = .local → scope.names.lookup y.1 = some .local) (hx : scope.names.lookup x = some .local) (sub : ∀ y c, cl.lookup y = some c → X.env.cells.lookup y = some c)
    (has : ∀ p ∈ scope.names, p.2 = .free → ∃ c, cl.lookup p.1 = some c)
    (free : ∀ p ∈ fr, X.N[p.2]? = some p.1 ∧ X.env.kindOf p.1 = some .cell ∧ ((relabel scope X.env).names.lookup p.1 = some .cell ∨ (relabel scope X.env).names.lookup p.1 = some .free)) (nd : (x :: fr.map (·.1)).Nodup) : CompOk X scope x cl fr :=
  ⟨clos, nocell, kind, names, hx, sub, fun y h => by
    have key : ∃ p ∈ scope.names, p.1 = y ∧ (p.2 = .free ∨ p.2 = .cell) := by
      rcases h with h | h
      · exact relabel_has h (.inl rfl)
      · exact relabel_has h (.inr rfl)
    obtain ⟨p, hp, rfl, e⟩ := key
    rcases e with e | e
    · exact has p hp e
    · exact absurd e (nocell p hp), free, nd⟩
theorem CompOk.none {X : Cx} {scope : Scope} {x : Str} (nofree : ∀ y ∈ scope.names, y.2 ≠ .free) (nocell : ∀ y ∈ scope.names, y.2 ≠ .cell) (kind : scope.kind = .function)
    (names : ∀ y ∈ scope.names, y.2 = .local → scope.names.lookup y.1 = some .local) (hx : scope.names.lookup x = some .local) : CompOk X scope x [] [] :=
  .of (closureFor_none nofree) nocell kind names hx (fun _ _ z => nomatch z) (fun p hp e => absurd e (nofree p hp)) (fun _ z => nomatch z) (by simp)
noncomputable abbrev frv (fr : List (Str × Nat)) (σ : St) : St := fr.map fun p => (σ[p.2]?).join
section
variable {X : Cx} {pins : List (Addr × Obj)} {σ : St} {H : Hp} {s : Shared} {scope : Scope} {x : Str} {cl : List (Str × Addr)} {fr : List (Str × Nat)} {fp : List Addr}
theorem inv_comp (I : Inv X pins σ H s) (hc : X.calm = true) (ok : CompOk X scope x cl fr) (hf : ∀ b ∈ fp, FpOk X pins H b) (hb : ∀ b ∈ fp, b < s.heap.objs.size) {h1 : Heap} {t : Nat} {m : Str → Option Value}
    (hns : h1.Ns s.heap.objs.size m) (hk : ∀ b o, s.heap.get? b = some o → h1.get? b = some o) :
    Inv (cxComp X scope cl (x :: fr.map (·.1)) fp s H) [] (none :: frv fr σ) H { s with heap := h1, toks := t } := by
  have exL : ∀ b ∈ fp, b ≠ s.heap.objs.size := fun b hb' => Nat.ne_of_lt (hb b hb')
  have okc : (cxComp X scope cl (x :: fr.map (·.1)) fp s H).Ok :=
    { mod := I.ok.mod
      kind := ok.kind
      glob := I.ok.glob
      blt := I.ok.blt
      above := Nat.le_refl _
      inj := fun y z c h1 h2 => I.ok.inj y z c (ok.sub y c h1) (ok.sub z c h2)
      has := ok.has
      cab := fun y c z _ => absurd z (by intro q; cases q)
      hd := fun _ => I.ok.hd hc
      frames := I.ok.frames
      stk := .inl rfl
      exf := fun b hb' => ⟨exL b hb', fun y c e => (hf b hb').2.2.2.2.1 y c (ok.sub y c e)⟩
      bs := I.bs
      bsz := Nat.le_trans I.ok.bsz I.sz
      noex := fun b o e hb' => by
        rcases (hf b hb').2.2.2.1 with z | z
        · exact I.ok.noex b o e z
        · exact absurd (Nat.lt_of_lt_of_le (Heap.lt_size e) (Nat.le_trans I.ok.bsz z)) (Nat.lt_irrefl _)
      exfs := fun b hb' z => by
        rcases List.mem_cons.mp (I.stkSub b z) with e | e
        · exact (hf b hb').2.1 e
        · exact (hf b hb').2.2.1 e
      funs := I.stack
      frf := I.stkFree }
  refine ⟨okc, rfl, I.bare, Un.kept hk, ⟨m, hns, fun i y v e1 e2 e3 => ?_⟩, fun y c e => ?_, I.hok.fresh (Nat.le_refl _), fun y c e => I.freeC y c (ok.sub y c e), fun p hp => absurd (show p ∈ ([] : List (Addr × Obj)) from hp) (by simp), I.hok.kept hk, by show (none :: frv fr σ).length = (x :: fr.map (·.1)).length; simp⟩
  · cases i with
    | zero =>
      have e2' : some (none : Option V) = some (some v) := e2
      cases e2'
    | succ i =>
      have e1' : (fr.map (·.1))[i]? = some y := e1
      have e2' : (frv fr σ)[i]? = some (some v) := e2
      rw [List.getElem?_map] at e1' e2'
      cases ep : fr[i]? with
      | none => rw [ep] at e1'; cases e1'
      | some p =>
        rw [ep] at e1' e2'
        have e1'' : p.1 = y := Option.some.inj e1'
        have e2'' : (σ[p.2]?).join = some v := Option.some.inj e2'
        obtain ⟨a1, a2, a3⟩ := ok.free p (List.mem_of_getElem? ep)
        subst e1''
        have es : σ[p.2]? = some (some v) := by
          cases q : σ[p.2]? with
          | none => rw [q] at e2''; cases e2''
          | some w' =>
            rw [q] at e2''
            have z : w' = some v := e2''
            rw [z]
        obtain ⟨m', hn', hl'⟩ := I.loc
        have a2' : X.env.scope.names.lookup p.1 = some .cell := a2
        obtain ⟨u, r, l⟩ := hl' p.2 p.1 v a1 es (.inr (.inl a2'))
        refine ⟨u, r, ?_⟩
        rcases l with ⟨z, _⟩ | ⟨_, c, ec, ic⟩
        · rw [a2] at z; cases z
        · obtain ⟨c', ec'⟩ := ok.has p.1 a3
          have := ok.sub p.1 c' ec'
          rw [ec] at this
          cases this
          obtain ⟨o, ho, hd⟩ := ic
          exact .inr ⟨a3, c, ec', o, hk c o ho, hd⟩
  · obtain ⟨v, o, ho, hd⟩ := I.cell y c (ok.sub y c e)
    exact ⟨v, o, hk c o ho, hd⟩
theorem comp_back {N : List Str} {pins' : List (Addr × Obj)} {σ' : St} {H' : Hp} {s' : Shared} (I : Inv X pins σ H s) (hf : ∀ b ∈ fp, FpOk X pins H b) (J : Inv (cxComp X scope cl N fp s H) pins' σ' H' s') : Inv X pins σ H' s' :=
  I.call' J.os J.base J.hok J.bare fun b hb => ⟨(hf b hb).2.2.2.1, (hf b hb).2.1, (hf b hb).2.2.2.2.1, (hf b hb).2.2.2.2.2⟩
end
noncomputable def CompRun (J : It) (te : TE) (vs : St) (D : Addr) (Q : Hp → Prop) (H : Hp) : Prop :=
  ∃ W : Nat → Nat → List V → Hp → Prop, (∃ m, W 0 m [] H) ∧ ∀ i m ys H, W i m ys H → H D = some (.lst ys) ∧
    ((J.stop i H ∧ Q H) ∨ (J.go i H ∧ ∀ x H1, J.yld i H x H1 → te (some x :: vs) H1 fun y H2 => H2 D = some (.lst ys) ∧ ys.length < sizeLine ∧ ∃ m', m' < m ∧ W (i + 1) m' (ys ++ [y]) (upd H2 D (.lst (ys ++ [y])))))
noncomputable def tComp (wi : TI) (fr : List (Str × Nat)) (te : TE) : TE := fun σ H Q => wi σ H fun J H1 => ∀ D, H1 D = none → CompRun J te (frv fr σ) D (fun H2 => Q (.ref D) H2) (upd H1 D (.lst []))
section
variable {X : Cx} {elt iter : Expr} {x : Str} {px pos : Pos} {scope : Scope} {cl : List (Str × Addr)} {fr : List (Str × Nat)} {wi : TI} {te : TE}
theorem comp_block {pins : List (Addr × Obj)} {σ : St} {H2 : Hp} {s2 : Shared} {it : Addr} {fp : List Addr} {tn : Nat → Heap → Prop} {J : It} {Qf : Addr → Hp → Prop} {E : Value → Shared → Prop} {RR : Value → Addr → Result → Shared → Prop}
    (hc : X.calm = true) (ok : CompOk X scope x cl fr) (he : ∀ fp s H, PE (cxComp X scope cl (x :: fr.map (·.1)) fp s H) elt te)
    (I2 : Inv X pins σ H2 s2) (T : Turn X.prog X.w X.K (.Name x px) J fp it tn) (st2 : tn 0 s2.heap) (f2 : ∀ b ∈ fp, FpOk X pins H2 b)
    (run : ∀ D, H2 D = none → CompRun J te (frv fr σ) D (Qf D) (upd H2 D (.lst [])))
    (hRR : ∀ D C H' s', Inv X pins σ H' s' → Qf D H' → (∃ m, s'.heap.Ns C m) → FpOk X pins H' C → RR (.ref D) C (.ok .next) s') :
    wpAny (model X.prog X.w) X.A (newList []) (fun acc s₃ => wpAny (model X.prog X.w) X.A (newFunctionEnv scope X.env.globals cl [] X.env.qual none .none (some X.env)) (fun cenv s₄ =>
      codeAny (model X.prog X.w) X.A (.compStart (.ListComp elt [⟨.Name x px, iter, [], 0⟩] scope pos) 0 (.ref it) acc { cenv with scope := relabel scope X.env }) (RR acc cenv.locals) s₄) E s₃) E s2 := by
  refine wpAny_newObj_type (wpAny_newFunctionEnv ok.nocell (by intro y hy; simp at hy) (fun h₁ hns₁ hsb₁ => ?_) ok.kind)
  dsimp only at hns₁ hsb₁ ⊢
  have I3 : Inv X pins σ (upd H2 s2.heap.objs.size (.lst [])) { s2 with heap := s2.heap.push { cls := .type "list", data := .seq ([] : List Value).toArray }, toks := s2.toks } := I2.lnew .nil (Nat.zero_le _)
  have hD : H2 s2.heap.objs.size = none := I2.fresh
  have hfp2 : ∀ b ∈ fp, b < s2.heap.objs.size := fun b hb => by
    refine hideG fun G_1 back_1 => ?_
    obtain ⟨o, e, _⟩ := T.obj _ _ st2 b hb
    refine back_1 ?_
    clear back_1 G_1
    exact Heap.lt_size e
  have f3 : ∀ b ∈ fp, FpOk X pins (upd H2 s2.heap.objs.size (.lst [])) b := fun b hb => ⟨by rw [upd_ne (Nat.ne_of_lt (hfp2 b hb))]; exact (f2 b hb).1, (f2 b hb).2⟩
  refine hideG fun G_2 back_2 => ?_
  obtain ⟨W, ⟨m0, w0⟩, turn⟩ := run s2.heap.objs.size hD
  refine back_2 ?_
  clear back_2 G_2
  generalize hs3 : ({ s2 with heap := s2.heap.push { cls := .type "list", data := .seq ([] : List Value).toArray }, toks := s2.toks } : Shared) = s3 at I3
  have e3 : s3.heap = s2.heap.push { cls := .type "list", data := .seq ([] : List Value).toArray } := by rw [← hs3]
  have hfp3 : ∀ b ∈ fp, b < s3.heap.objs.size := fun b hb => by rw [e3, Heap.size_push]; exact Nat.lt_succ_of_lt (hfp2 b hb)
  have hk1 : ∀ b o, s3.heap.get? b = some o → h₁.get? b = some o := fun b o e => by
    rw [e3] at e
    exact hsb₁.extBut b o (Nat.ne_of_lt (Heap.lt_size e)) (Heap.get?_push_of_some _ e)
  have hns : h₁.Ns s3.heap.objs.size (fun y => ([] : List (Str × Value)).reverse.lookup y) := by rw [e3]; exact hns₁
  have I4 := inv_comp (t := s2.toks + ([] : List (Str × Value)).length) I3 hc ok f3 hfp3 hns hk1
  have st4 : tn 0 h₁ := T.keep _ _ _ st2 fun b hb o e => hk1 b o (by rw [e3]; exact Heap.get?_push_of_some _ e)
  have es4 : ({ s2 with heap := h₁, toks := s2.toks + ([] : List (Str × Value)).length } : Shared) = { s3 with heap := h₁, toks := s2.toks + ([] : List (Str × Value)).length } := by rw [← hs3]
  have hC : (s2.heap.push { cls := .type "list", data := .seq ([] : List Value).toArray }).objs.size = s3.heap.objs.size := by rw [e3]
  have fpc : ∀ {H' : Hp}, (∀ b ∈ fp, H' b = none) → ∀ b ∈ fp, FpOk (cxComp X scope cl (x :: fr.map (·.1)) fp s3 (upd H2 s2.heap.objs.size (.lst []))) [] H' b := fun {H'} hn b hb =>
    ⟨hn b hb, Nat.ne_of_lt (hfp3 b hb), I4.ok.exfs b hb, .inl hb, (I4.ok.exf b hb).2, fun p hp => absurd (show p ∈ ([] : List (Addr × Obj)) from hp) (by simp)⟩
  have loop : codeAny (model X.prog X.w) X.A (.compLoop (.ListComp elt [⟨.Name x px, iter, [], 0⟩] scope pos) 0 (.ref it) (.ref s2.heap.objs.size) (compEnvC scope cl s3.heap.objs.size X.env)) (RR (.ref s2.heap.objs.size) s3.heap.objs.size)
      { s3 with heap := h₁, toks := s2.toks + ([] : List (Str × Value)).length } := by
    refine codeAny_loop rfl (fun n s' => ∃ i ys H' a, Inv (cxComp X scope cl (x :: fr.map (·.1)) fp s3 (upd H2 s2.heap.objs.size (.lst []))) [] (a :: frv fr σ) H' s' ∧ tn i s'.heap ∧ (∀ b ∈ fp, H' b = none) ∧ W i n ys H') ?_ m0 ⟨0, [], _, none, I4, st4, fun b hb => (f3 b hb).1, w0⟩
    intro n s' hz_2
    refine hideG fun G_3 back_3 => ?_
    obtain ⟨i, ys, H', a, J', st', fr', w'⟩ := hz_2
    refine back_3 ?_
    clear back_3 G_3
    show wpAny _ _ ((compTurn (.ListComp elt [⟨.Name x px, iter, [], 0⟩] scope pos) 0 (.ref it) (.ref s2.heap.objs.size) (compEnvC scope cl s3.heap.objs.size X.env)).onRaise (fun x => do noteFrame x (compEnvC scope cl s3.heap.objs.size X.env); theTreesLotGoes x)) _ _ s'
    refine wpAny_noted ?_
    rw [compTurn_list1]
    refine hideG fun G_4 back_4 => ?_
    obtain ⟨hDl, q⟩ := turn i n ys H' w'
    refine back_4 ?_
    clear back_4 G_4
    rcases q with ⟨stop, fin⟩ | ⟨go, step⟩
    · refine wpAny_bind (wpAny_standAt (wpAny_bind (thn (T.done (cxComp X scope cl (x :: fr.map (·.1)) fp s3 (upd H2 s2.heap.objs.size (.lst []))) rfl rfl rfl rfl i [] s' _ H' _ J' (fpc fr') st' stop) fun r s1 ⟨hr, J1⟩ => ?_)))
      subst hr
      refine wpAny_pure ?_
      have back := comp_back I3 f3 J1
      refine hideG fun G_5 back_5 => ?_
      obtain ⟨m, hm, _⟩ := J1.loc
      refine back_5 ?_
      clear back_5 G_5
      exact hRR _ _ H' s1 back fin ⟨m, hm⟩ (I3.fpOk (Nat.le_refl _) J1.free)
    · refine wpAny_bind (wpAny_standAt (wpAny_bind (thn (T.item (cxComp X scope cl (x :: fr.map (·.1)) fp s3 (upd H2 s2.heap.objs.size (.lst []))) rfl rfl rfl rfl i [] s' _ H' _ J' (fpc fr') st' go) fun r s1 ⟨u, hr, h4⟩ => ?_)))
      subst hr
      refine wpAny_bind (thn h4 fun _ s5 ⟨x5, H5, J5, r5, y5, st5, fr5⟩ => ?_)
      have J5' := J5.pinned (fpc fr5) (T.obj _ _ st5)
      have hg : PG (cxComp X scope cl (x :: fr.map (·.1)) fp s3 (upd H2 s2.heap.objs.size (.lst []))) (.Name x px) (gName 0) := pg_name ok.nd rfl (.inl (lookup_relabel_local ok.hx)) (.inr (lookup_relabel_local ok.hx))
      refine wpAny_bind (wpAny_mono (hg _ s5 _ H5 x5 u (fun σ6 H6 => σ6 = some x5 :: frv fr σ ∧ H6 = H5) J5' r5 ⟨rfl, rfl⟩) (fun _ s6 h6 => ?_) fun _ _ f => f.elim)
      refine hideG fun G_6 back_6 => ?_
      obtain ⟨σ6, H6, J6, rfl, rfl⟩ := h6
      refine back_6 ?_
      clear back_6 G_6
      refine wpAny_bind (wpAny_bind (wpAny_mono (he fp s3 (upd H2 s2.heap.objs.size (.lst [])) _ s6 _ H6 _ J6 (step x5 H6 y5)) (fun y s7 h7 => ?_) fun _ _ f => f.elim))
      refine hideG fun G_7 back_7 => ?_
      obtain ⟨yv, H7, J7, r7, hD7, hz7, m', hm', w7⟩ := h7
      refine back_7 ?_
      clear back_7 G_7
      refine wpAny_bind (wpAny_mono (mt_append (X := cxComp X scope cl (x :: fr.map (·.1)) fp s3 (upd H2 s2.heap.objs.size (.lst []))) _ s7 _ H7 (.ref s2.heap.objs.size) [yv] (.ref s2.heap.objs.size) [y] (fun v H8 => H8 = upd H7 s2.heap.objs.size (.lst (ys ++ [yv]))) J7 rfl (.cons r7 .nil) ⟨_, ys, yv, rfl, rfl, hD7, hz7, rfl⟩) (fun v8 s8 h8 => ?_) fun _ _ f => f.elim)
      refine hideG fun G_8 back_8 => ?_
      obtain ⟨v8, H8, J8, r8, rfl⟩ := h8
      refine back_8 ?_
      clear back_8 G_8
      refine wpAny_pure (wpAny_pure ⟨rfl, m', hm', i + 1, ys ++ [yv], _, some x5, J8.unpinned, T.keep _ _ _ st5 fun b hb o e => (J8.pin (b, o) (List.mem_append_right _ (List.mem_append_right _ (mem_pinsAt hb e)))).1, fun b hb => ?_, w7⟩)
      refine hideG fun G_9 back_9 => ?_
      obtain ⟨o, e, d⟩ := T.obj _ _ st5 b hb
      refine back_9 ?_
      clear back_9 G_9
      exact (J8.pin (b, o) (List.mem_append_right _ (List.mem_append_right _ (mem_pinsAt hb e)))).2.1
  have fin : codeAny (model X.prog X.w) X.A (.compStart (.ListComp elt [⟨.Name x px, iter, [], 0⟩] scope pos) 0 (.ref it) (.ref s2.heap.objs.size) (compEnvC scope cl s3.heap.objs.size X.env)) (RR (.ref s2.heap.objs.size) s3.heap.objs.size)
      { s3 with heap := h₁, toks := s2.toks + ([] : List (Str × Value)).length } := codeAny_compStart_list loop (T.self _ 0 _ _ _ st4 loop)
  rw [← es4, ← hC] at fin
  exact fin
theorem pe_comp (hc : X.calm = true) (hi : PI X (.Name x px) iter wi) (ok : CompOk X scope x cl fr) (he : ∀ fp s H, PE (cxComp X scope cl (x :: fr.map (·.1)) fp s H) elt te)
    (hs : ∀ x, foldedSetIterable iter X.env x = pure x := by intro _; rfl) : PE X (.ListComp elt [⟨.Name x px, iter, [], 0⟩] scope pos) (tComp wi fr te) := by
  intro pins s σ H Q I h
  rw [eval_ListComp]
  refine wpAny_comprehension_free (use := none) rfl hs ok.clos ok.kind ok.names (thn (hi pins s σ H _ I h) fun v s1 h1 => thn h1 fun itv s2 h2 => ?_)
  obtain ⟨it, fp, tn, J, H2, rfl, I2, T, st2, f2, R⟩ := h2
  refine comp_block (RR := fun acc C => compPost (model X.prog X.w) X.A X.xe none (EP X pins σ Q) acc C) hc ok he I2 T st2 f2 (Qf := fun D H' => Q (.ref D) H') R ?_
  intro D C H' s' I' q ⟨m, hm⟩ f'
  obtain ⟨f0, f1, _, f3, f4, f5⟩ := f'
  exact ⟨m, hm, fun h' sb => ⟨.ref D, H', I'.turned (t' := s'.toks) (fun b o hb e => (sb.2 b hb).trans e) f0 f1 f3 f4 f5, rfl, q⟩⟩
end
end L2
set_option Elab.async false
set_option linter.all false
set_option maxRecDepth 100000
namespace L2
open PySem PySem.Spec PyProof.Rows
theorem strsAre_of : ∀ {xs : List Str} {us : List Value}, Vals (xs.map V.str) us → StrsAre us xs
  | [], _, .nil => .nil
  | x :: xs, _, .cons r t => by
    obtain ⟨k, rfl⟩ := r
    exact .cons x k (strsAre_of t)
section
variable {X : Cx}
inductive RJoinI (K : PySem.W.Frag) (x : V) (vs : List V) (H : Hp) (Q : VK) : Prop
  | mk (sep p xs) (h_0 : x = .str sep) (h_1 : vs = [.ref p]) (h_2 : SqL K H p (xs.map V.str)) (h_3 : (xs.map (·.length)).sum + xs.length * sep.length ≤ 16777216) (h_4 : Q (.str (Str.join sep xs)) H) : RJoinI K x vs H Q
noncomputable def rJoin (K : PySem.W.Frag) : V → List V → Hp → VK → Prop := fun x vs H Q => RJoinI K x vs H Q
theorem mt_join : MtR X "str.join" (rJoin X.K) := by
  intro pins s σ H x xs v us Q I rx rxs h
  obtain ⟨sep, p, ts, rfl, rfl, hq, hz, q⟩ := h
  obtain ⟨t, rfl⟩ := rx
  obtain ⟨u, rfl, ru⟩ := rxs.one
  cases ru
  obtain ⟨its, rv, pl, _⟩ := I.list hq
  refine join_list pl.isList (by simpa using strsAre_of rv) hz fun t' k => ⟨.str (Str.join sep ts), H, I.tok k, ⟨t', ?_⟩, q⟩
  show Value.str (Txt.join sep ts) t' = _
  rw [Txt.join, StrLaws.glued_eq_join]
inductive RIsI (K : PySem.W.Frag) (xs : List V) (H : Hp) (Q : VK) : Prop
  | mk (x : V) (T : String) (t : Value) (b : Bool) (h_0 : xs = [x, .ty T]) (h_1 : TyOf K H x t) (h_2 : PySem.W.kitOne K t (.type T) = some b) (h_3 : Q (.bl b) H) : RIsI K xs H Q
theorem call_isinst : CallR X (.builtin "isinstance") (RIsI X.K) := by
  intro pins s σ H xs us Q I r h
  obtain ⟨x, T, t, b, rfl, ty, e, q⟩ := h
  obtain ⟨u, w', rfl, ru, rw'⟩ := vals2 r
  cases (show w' = Value.type T from rw')
  exact isinst_ok I ru ty e fun tk => ⟨.bl b, H, I.tok tk, rfl, q⟩
theorem eqAtL {A : Around} {s : Shared} {xs ys : List V} {us ws : List Value} (hx : Vals xs us) (hy : Vals ys ws) (fx : xs.all flatV = true) (fy : ys.all flatV = true) (j : Nat) (h1 : j < us.toArray.size) (h2 : j < ws.toArray.size) :
    SeqAt.EqAt A s us.toArray[j] ws.toArray[j] (eqV (xs.getD j .non) (ys.getD j .non)) := by
  have l1 := hx.length
  have l2 := hy.length
  have h1' : j < xs.length := by rw [l1]; simpa using h1
  have h2' : j < ys.length := by rw [l2]; simpa using h2
  obtain ⟨u, eu, ru⟩ := hx.get (List.getElem?_eq_getElem h1')
  obtain ⟨w', ew, rw'⟩ := hy.get (List.getElem?_eq_getElem h2')
  have a1 : us.toArray[j] = u := by
    have := (List.getElem?_eq_some_iff.mp eu).2
    simpa using this
  have a2 : ws.toArray[j] = w' := by
    have := (List.getElem?_eq_some_iff.mp ew).2
    simpa using this
  rw [a1, a2]
  have b1 : xs.getD j .non = xs[j] := by simp [List.getD, List.getElem?_eq_getElem h1']
  have b2 : ys.getD j .non = ys[j] := by simp [List.getD, List.getElem?_eq_getElem h2']
  rw [b1, b2]
  exact eqAt_V ru rw' (List.all_eq_true.mp fx _ (List.getElem_mem h1')) (List.all_eq_true.mp fy _ (List.getElem_mem h2'))
noncomputable def eqVs : List V → List V → Bool
  | [], [] => true
  | x :: xs, y :: ys => eqV x y && eqVs xs ys
  | _, _ => false
theorem eqVs_range : ∀ (xs ys : List V), xs.length = ys.length → (List.range xs.length).all (fun j => eqV (xs.getD j .non) (ys.getD j .non)) = eqVs xs ys
  | [], [], _ => rfl
  | x :: xs, y :: ys, h => by
    have ih := eqVs_range xs ys (by simpa using h)
    rw [List.length_cons, List.range_succ_eq_map, List.all_cons, List.all_map]
    show (eqV x y && _) = (eqV x y && eqVs xs ys)
    rw [← ih]
    rfl
  | [], _ :: _, h => by simp at h
  | _ :: _, [], h => by simp at h
theorem eqVs_len : ∀ (xs ys : List V), xs.length ≠ ys.length → eqVs xs ys = false
  | [], [], h => absurd rfl h
  | x :: xs, y :: ys, h => by
    show (eqV x y && eqVs xs ys) = false
    rw [eqVs_len xs ys (by simpa using h), Bool.and_false]
  | [], _ :: _, _ => rfl
  | _ :: _, [], _ => rfl
theorem eqVs_strs : ∀ (xs ys : List Str), eqVs (xs.map V.str) (ys.map V.str) = decide (xs = ys)
  | [], [] => rfl
  | x :: xs, y :: ys => by
    show (eqV (.str x) (.str y) && eqVs (xs.map V.str) (ys.map V.str)) = _
    rw [eqVs_strs xs ys]
    show ((x == y) && decide (xs = ys)) = _
    by_cases h : x = y
    · subst h; by_cases h' : xs = ys <;> simp [h']
    · simp [h]
  | [], _ :: _ => by simp [eqVs]
  | _ :: _, [] => by simp [eqVs]
inductive REqLI (K : PySem.W.Frag) (neg : Bool) (x : V) (y : V) (H : Hp) (Q : VK) : Prop
  | mk (p q xs ys) (h_0 : x = .ref p) (h_1 : y = .ref q) (h_2 : SqL K H p xs) (h_3 : SqL K H q ys) (h_4 : xs.all flatV = true) (h_5 : ys.all flatV = true) (h_6 : Q (.bl (if neg then !eqVs xs ys else eqVs xs ys)) H) : REqLI K neg x y H Q
noncomputable def rEqL (K : PySem.W.Frag) (neg : Bool) : R2 := fun x y H Q => REqLI K neg x y H Q
theorem op_neL (hu : X.A.units < cLine) : OpR X (compareOp .NotEq) (rEqL X.K true) := by
  intro pins s σ H x y v u Q I rx ry h
  obtain ⟨p, q, xs, ys, rfl, rfl, hp, hq, fx, fy, k⟩ := h
  cases rx; cases ry
  obtain ⟨us, rv, pl, _⟩ := I.list hp
  obtain ⟨ws, rw', pl', _⟩ := I.list hq
  have l1 := rv.length
  have l2 := rw'.length
  by_cases e : xs.length = ys.length
  · have z : us.toArray.size = xs.length := by simp; omega
    refine SeqAt.RcNeAt.lists pl.isList pl'.isList (by simp; omega) hu (fun j h1 h2 => eqAtL rv rw' fx fy j h1 h2) _ _ _ _ ⟨.bl _, H, I, rfl, ?_⟩
    rw [z, eqVs_range xs ys e]
    exact k
  · refine SeqAt.RcNeAt.lists_lengths pl.isList pl'.isList (by simp; omega) hu _ _ _ _ ⟨.bl true, H, I, rfl, ?_⟩
    have k' : Q (.bl (!eqVs xs ys)) H := k
    rw [eqVs_len xs ys e] at k'
    exact k'
inductive REqNI (K : PySem.W.Frag) (neg : Bool) (x : V) (y : V) (H : Hp) (Q : VK) : Prop
  | mk (p q xs) (h_0 : x = .ref p) (h_1 : y = .ref q) (h_2 : SqL K H p xs) (h_3 : SqL K H q []) (h_4 : Q (.bl (if neg then !xs.isEmpty else xs.isEmpty)) H) : REqNI K neg x y H Q
noncomputable def rEqN (K : PySem.W.Frag) (neg : Bool) : R2 := fun x y H Q => REqNI K neg x y H Q
theorem op_neN (hu : X.A.units < cLine) : OpR X (compareOp .NotEq) (rEqN X.K true) := by
  intro pins s σ H x y v u Q I rx ry h
  obtain ⟨p, q, xs, rfl, rfl, hp, hq, k⟩ := h
  cases rx; cases ry
  obtain ⟨us, rv, pl, _⟩ := I.list hp
  obtain ⟨ws, rw', pl', _⟩ := I.list hq
  have l1 := rv.length
  cases rw'
  cases xs with
  | nil =>
    cases rv
    exact SeqAt.RcNeAt.lists (e := fun _ => true) pl.isList pl'.isList rfl hu (fun j h1 h2 => absurd h1 (by simp)) _ _ _ _ ⟨.bl _, H, I, rfl, k⟩
  | cons x xs =>
    cases rv
    exact SeqAt.RcNeAt.lists_lengths pl.isList pl'.isList (by simp) hu _ _ _ _ ⟨.bl _, H, I, rfl, k⟩
theorem ix_listK {K : PySem.W.Frag} (h : X.K = K) : IxR X (rIxL K) := h ▸ ix_list
noncomputable def ItrD (lo : Int) (n : Nat) : It := ⟨fun i _ => i < n, fun i H x H' => H' = H ∧ x = .int (lo - i), fun i _ => n ≤ i⟩
theorem turn_rangeD {P : Program} {w : World} {K : PySem.W.Frag} {tg : Expr} (it : Addr) (lo : Int) (n : Nat) : Turn P w K tg (ItrD lo n) [it] it (fun i h => IsRangeIter h it (lo + (i : Nat) * (-1)) ((n : Int) - (i : Nat)) (-1)) where
  mem := by simp
  obj := fun i h st b hb => by
    have e : b = it := by simpa using hb
    subst e
    exact ⟨_, st, fun v z => by
      have z' : Data.fields _ = Data.cell v := z
      cases z'⟩
  keep := fun i h h' st k => k it (by simp) _ st
  item := by
    intro X hP hw hK hc i pins s σ H E I hf st hg
    subst hP hw hK
    obtain ⟨f0, f1, f2, f3, f4, f5⟩ := hf it (by simp)
    have W := Walks.range (prog := X.prog) (w := X.w) (I.ok.hd hc) it lo (-1) n
    refine W.item i s _ _ hg st fun v h' tk hv st' kk => ?_
    obtain ⟨t, rfl⟩ := hv
    have I1 : Inv X pins σ H { s with heap := h', toks := tk } := I.turned (fun b o hb e => kk b o (by simpa using hb) e) f0 f1 f3 f4 f5
    refine ⟨_, rfl, go_of (s := { s with heap := h', toks := tk }) (n := "range_iterator") st' rfl rfl (by decide) ⟨.int (lo - i), H, I1, ⟨t, ?_⟩, ⟨rfl, rfl⟩, st', fun b hb => (hf b hb).1⟩⟩
    have e : lo + (i : Int) * (-1) = lo - i := by omega
    rw [e]
  done := by
    intro X hP hw hK hc i pins s σ H E I hf st hg
    subst hP hw hK
    obtain ⟨f0, f1, f2, f3, f4, f5⟩ := hf it (by simp)
    exact wpAny_pyNext_range_end (I.ok.hd hc) st (by have : n ≤ i := hg; omega) fun h' eb => ⟨rfl, I.turned (t' := s.toks) (fun b o hb e => eb b o hb e) f0 f1 f3 f4 f5⟩
  self := fun _ _ _ _ _ st h => wpAny_pyIter_rangeiter st h
theorem rangeSize_down (a b : Int) : Builtin.Range.rangeSize a b (-1) = ((a - b).toNat : Int) := by
  unfold Builtin.Range.rangeSize
  simp
  omega
theorem small_down {a b : Int} (ha : -(2 ^ 62) ≤ a) (ha' : a < 2 ^ 62) (hb : -(2 ^ 62) ≤ b) (hb' : b < 2 ^ 62) : Builtin.Range.small a b (-1) = true := by
  unfold Builtin.Range.small
  rw [rangeSize_down]
  simp only [Builtin.Range.rangeFitsLong, Bool.and_eq_true, Bool.or_eq_true, decide_eq_true_eq, beq_iff_eq, show ¬ (-1 : Int) > 0 by decide, if_false]
  omega
noncomputable def iRngD (ta : TA) : TI := fun σ H R => ta σ H fun vs H1 => ∃ i j : Int, vs = [.int i, .int j, .int (-1)] ∧ (-(2 ^ 60) ≤ i ∧ i < 2 ^ 60 ∧ -(2 ^ 60) ≤ j ∧ j < 2 ^ 60) ∧ R (ItrD i (i - j).toNat) H1
variable {tg : Expr}
theorem range_itD {pins : List (Addr × Obj)} {σ : St} {H : Hp} {s : Shared} {R : It → Hp → Prop} {E : Value → Shared → Prop} {lo hi : Int} {t u v : Tok} {tk : Nat} (I : Inv X pins σ H s) (h1 : -(2 ^ 60) ≤ lo) (h2 : lo < 2 ^ 60) (h3 : -(2 ^ 60) ≤ hi) (h4 : hi < 2 ^ 60)
    (q : R (ItrD lo (lo - hi).toNat) H) : wpAny (model X.prog X.w) X.A (pyIter (.ref s.heap.objs.size)) (PIE X pins σ tg R) E { s with heap := s.heap.push { cls := .type "range", data := .fields #[.int lo t, .int hi u, .int (-1) v] }, toks := tk } := by
  refine wpAny_pyIter_range (IsRange.new ..) (small_down (by omega) (by omega) (by omega) (by omega)) ?_
  have I1 : Inv X pins σ H { s with heap := s.heap.push { cls := .type "range", data := .fields #[.int lo t, .int hi u, .int (-1) v] }, toks := tk } := I.kept fun b o e => Heap.get?_push_of_some _ e
  refine ⟨(s.heap.push { cls := .type "range", data := .fields #[.int lo t, .int hi u, .int (-1) v] }).objs.size, [(s.heap.push { cls := .type "range", data := .fields #[.int lo t, .int hi u, .int (-1) v] }).objs.size], _, _, H, rfl,
    I1.kept (t' := tk) fun b o e => Heap.get?_push_of_some _ e, turn_rangeD _ lo (lo - hi).toNat, ?_, fun b hb => ?_, q⟩
  · have e1 : lo + ((0 : Nat) : Int) * (-1) = lo := by simp
    have e2 : (((lo - hi).toNat : Nat) : Int) - ((0 : Nat) : Int) = Builtin.Range.rangeSize lo hi (-1) := by rw [rangeSize_down]; omega
    show IsRangeIter _ _ (lo + ((0 : Nat) : Int) * (-1)) ((((lo - hi).toNat : Nat) : Int) - ((0 : Nat) : Int)) (-1)
    rw [e1, e2]
    exact Heap.get?_push_size _ rfl
  · have e : b = (s.heap.push { cls := .type "range", data := .fields #[.int lo t, .int hi u, .int (-1) v] }).objs.size := by simpa using hb
    subst e
    exact I1.fpOk (Nat.le_refl _) (I1.hok.fresh (Nat.le_refl _))
theorem pi_range3 {a b c : Expr} {ta : TA} {p pos : Pos} (hg : Gl X "range") (hm : X.mg "range" = none) (ha : PA X [a, b, c] ta) (hs : starEach [a, b, c] X.env = [(false, eval a X.env), (false, eval b X.env), (false, eval c X.env)] := by rfl) (hs2 : starEach [b, c] X.env = [(false, eval b X.env), (false, eval c X.env)] := by rfl) :
    PI X tg (.Call (.Name "range" p) [a, b, c] [] pos) (iRngD ta) := by
  intro pins s σ H R I h
  refine Call_ (ld_blt I hg hm boot_range (PyProof.Rows.callWith_type1 (thn (ha pos pins s σ H _ I h) fun us s1 ⟨vs, H1, I1, r1, q1⟩ => ?_) (by rw [hs, hs2]) (by rw [hs2]; rfl)))
  obtain ⟨i, j, e, ⟨q1, q2, q3, q4⟩, q⟩ := q1
  subst e
  cases r1 with
  | cons r rr =>
    cases rr with
    | cons r' rr =>
      cases rr with
      | cons r'' rr =>
        cases rr
        obtain ⟨t, rfl⟩ := r
        obtain ⟨t', rfl⟩ := r'
        obtain ⟨t'', rfl⟩ := r''
        exact PySem.call_range_3 (by decide) (range_itD I1 q1 q2 q3 q4 q)
end
theorem for_rangeD {lo : Int} {n : Nat} {g : TG} {tb : TS} {D : Ends} {σ : St} {H : Hp} (Pv : Nat → St → Hp → Prop) (h0 : Pv 0 σ H)
    (hs : ∀ i σ H, i < n → Pv i σ H → g (.int (lo - i)) σ H fun σ2 H2 => tb { D with nx := Pv (i + 1), ct := Pv (i + 1), bk := D.nx } σ2 H2) (hd : ∀ σ H, Pv n σ H → D.nx σ H) :
    ∃ W : Nat → Nat → St → Hp → Prop, (∃ m, W 0 m σ H) ∧ ∀ i m σ H, W i m σ H →
      ((ItrD lo n).stop i H ∧ D.nx σ H) ∨ ((ItrD lo n).go i H ∧ ∃ N : St → Hp → Prop, (∀ σ' H', N σ' H' → ∃ m', m' < m ∧ W (i + 1) m' σ' H') ∧ ∀ x H', (ItrD lo n).yld i H x H' → g x σ H' fun σ2 H2 => tb { D with nx := N, ct := N, bk := D.nx } σ2 H2) := by
  refine ⟨fun i m σ H => m = n - i ∧ i ≤ n ∧ Pv i σ H, ⟨n, by simp, Nat.zero_le _, h0⟩, ?_⟩
  rintro i m σ H ⟨rfl, hi, p⟩
  by_cases hlt : i < n
  · refine .inr ⟨hlt, Pv (i + 1), fun σ' H' p' => ⟨n - (i + 1), by omega, rfl, hlt, p'⟩, fun x H' y => ?_⟩
    obtain ⟨e, y⟩ := y
    subst e y
    exact hs i σ _ hlt p
  · have e : i = n := by omega
    subst e
    exact .inl ⟨Nat.le_refl _, hd σ H p⟩
theorem boot_isinstance' : bootBuiltins "isinstance" = some (.builtin "isinstance") := by decide +kernel
theorem boot_list' : bootBuiltins "list" = some (.type "list") := by decide +kernel
theorem boot_str' : bootBuiltins "str" = some (.type "str") := by decide +kernel
theorem boot_int' : bootBuiltins "int" = some (.type "int") := by decide +kernel
theorem boot_tuple' : bootBuiltins "tuple" = some (.type "tuple") := by decide +kernel
section
variable (K : PySem.W.Frag)
theorem kit_list_list : PySem.W.kitOne K (.type "list") (.type "list") = some true := by kernel_rfl
theorem kit_str_str : PySem.W.kitOne K (.type "str") (.type "str") = some true := by kernel_rfl
theorem kit_tup_tup : PySem.W.kitOne K (.type "tuple") (.type "tuple") = some true := by kernel_rfl
theorem kit_str_tup : PySem.W.kitOne K (.type "str") (.type "tuple") = some false := by kernel_rfl
theorem kit_tup_str : PySem.W.kitOne K (.type "tuple") (.type "str") = some false := by kernel_rfl
end
theorem comp_list {K : PySem.W.Frag} {a D : Addr} {xs : List V} {te : TE} {vs : St} {Q : Hp → Prop} {H : Hp} (f : Nat → V) (hS : SqL K H a xs) (hD : H D = none) (hz : xs.length ≤ sizeLine)
    (he : ∀ (i : Nat) (x : V) (H' : Hp) (R : VK), xs[i]? = some x → Same H H' → (∀ H2, Same H' H2 → R (f i) H2) → te (some x :: vs) H' R)
    (q : ∀ H', Same H H' → H' D = some (.lst ((List.range xs.length).map f)) → Q H') : CompRun (Itl K a) te vs D Q (upd H D (.lst [])) := by
  refine ⟨fun i m ys H' => m = xs.length - i ∧ i ≤ xs.length ∧ ys = (List.range i).map f ∧ Same H H' ∧ H' D = some (.lst ys), ⟨xs.length, by simp, Nat.zero_le _, by simp, fun b o e => by rw [upd_ne (ne_of_none e hD)]; exact e, upd_same⟩, ?_⟩
  rintro i m ys H' ⟨rfl, hi, rfl, s, hd⟩
  refine ⟨hd, ?_⟩
  have hS' := s.seq hS
  by_cases hlt : i < xs.length
  · refine .inr ⟨⟨xs, xs[i], hS', by simp [hlt]⟩, fun x H1 y => ?_⟩
    obtain ⟨e, y⟩ := y
    subst e
    have hx := y xs hS'
    refine he i x _ _ hx s fun H2 s2 => ⟨s2 D _ hd, ?_, xs.length - (i + 1), by omega, rfl, hlt, ?_, ?_, upd_same⟩
    · rw [List.length_map, List.length_range]; omega
    · rw [List.range_succ, List.map_append]; rfl
    · intro b o e
      rw [upd_ne (ne_of_none e hD)]
      exact s2 b o (s b o e)
  · have e : i = xs.length := by omega
    subst e
    exact .inl ⟨⟨xs, hS', Nat.le_refl _⟩, q H' s hd⟩
theorem range_map {α : Type} (xs : List α) (f : Nat → V) (g : α → V) (h : ∀ i x, xs[i]? = some x → f i = g x) : (List.range xs.length).map f = xs.map g := by
  apply List.ext_getElem
  · simp
  · intro i h1 h2
    have hi : i < xs.length := by simpa using h1
    rw [List.getElem_map, List.getElem_map, List.getElem_range]
    exact h i xs[i] (List.getElem?_eq_getElem hi)
theorem comp_range {D : Addr} {lo : Int} {n : Nat} {te : TE} {vs : St} {Q : Hp → Prop} {H : Hp} (f : Nat → V) (hD : H D = none) (hz : n ≤ sizeLine)
    (he : ∀ (i : Nat) (H' : Hp) (R : VK), i < n → Same H H' → (∀ H2, Same H' H2 → R (f i) H2) → te (some (.int (lo + i)) :: vs) H' R)
    (q : ∀ H', Same H H' → H' D = some (.lst ((List.range n).map f)) → Q H') : CompRun (Itr lo n) te vs D Q (upd H D (.lst [])) := by
  refine ⟨fun i m ys H' => m = n - i ∧ i ≤ n ∧ ys = (List.range i).map f ∧ Same H H' ∧ H' D = some (.lst ys), ⟨n, by simp, Nat.zero_le _, by simp, fun b o e => by rw [upd_ne (ne_of_none e hD)]; exact e, upd_same⟩, ?_⟩
  rintro i m ys H' ⟨rfl, hi, rfl, s, hd⟩
  refine ⟨hd, ?_⟩
  by_cases hlt : i < n
  · refine .inr ⟨hlt, fun x H1 y => ?_⟩
    obtain ⟨e, y⟩ := y
    subst e y
    refine he i _ _ hlt s fun H2 s2 => ⟨s2 D _ hd, ?_, n - (i + 1), by omega, rfl, hlt, ?_, ?_, upd_same⟩
    · rw [List.length_map, List.length_range]; omega
    · rw [List.range_succ, List.map_append]; rfl
    · intro b o e
      rw [upd_ne (ne_of_none e hD)]
      exact s2 b o (s b o e)
  · have e : i = n := by omega
    subst e
    exact .inl ⟨Nat.le_refl _, q H' s hd⟩
end L2
set_option Elab.async false
set_option autoImplicit false
namespace Fm
section
variable {α : Type} (sz : α → Nat)
noncomputable def jl : List α → Nat
  | [] => 0
  | [x] => sz x
  | x :: y :: r => sz x + 1 + jl (y :: r)
theorem jl_snoc : ∀ (r : List α) (w : α), r ≠ [] → jl sz (r ++ [w]) = jl sz r + 1 + sz w
  | [], _, h => absurd rfl h
  | [x], w, _ => rfl
  | x :: y :: r, w, _ => by
    have ih := jl_snoc (y :: r) w (by simp)
    show sz x + 1 + jl sz (y :: r ++ [w]) = sz x + 1 + jl sz (y :: r) + 1 + sz w
    rw [ih]; omega
noncomputable def onLast : List (List α) → α → List (List α)
  | [], _ => []
  | [r], w => [r ++ [w]]
  | r :: s :: t, w => r :: onLast (s :: t) w
theorem onLast_snoc (rs : List (List α)) (r : List α) (w : α) : onLast (rs ++ [r]) w = rs ++ [r ++ [w]] := by
  induction rs with
  | nil => rfl
  | cons a rs ih =>
    cases rs with
    | nil => rfl
    | cons b rs => show a :: onLast (b :: rs ++ [r]) w = _; rw [ih]; rfl
noncomputable def turn (room : Int) (st : List (List α) × Int) (w : α) : List (List α) × Int :=
  if st.1 ≠ [] ∧ st.2 + 1 + (sz w : Int) ≤ room then (onLast st.1 w, st.2 + 1 + (sz w : Int)) else (st.1 ++ [[w]], (sz w : Int))
instance (room : Int) (st : List (List α) × Int) (w : α) : Decidable (st.1 ≠ [] ∧ st.2 + 1 + (sz w : Int) ≤ room) := by
  cases h : st.1 with
  | nil => exact isFalse (fun c => c.1 rfl)
  | cons a r => exact if q : st.2 + 1 + (sz w : Int) ≤ room then isTrue ⟨by simp, q⟩ else isFalse (fun c => q c.2)
noncomputable def run (room : Int) (ws : List α) : List (List α) × Int := ws.foldl (turn sz room) ([], 0)
noncomputable def filledM (ws : List α) (room : Int) : List (List α) := (run sz room ws).1
theorem run_snoc (room : Int) (ws : List α) (w : α) : run sz room (ws ++ [w]) = turn sz room (run sz room ws) w := by
  unfold run; rw [List.foldl_append]; rfl
noncomputable def Good (room : Int) : List (List α) → Prop
  | [] => True
  | r :: t => r ≠ [] ∧ (1 < r.length → (jl sz r : Int) ≤ room) ∧ (∀ x y, t.head? = some y → y.head? = some x → room < (jl sz r : Int) + 1 + (sz x : Int)) ∧ Good room t
theorem Good.snoc {room : Int} : ∀ {rs : List (List α)} {r : List α} {w : α}, Good sz room (rs ++ [r]) → room < (jl sz r : Int) + 1 + (sz w : Int) → Good sz room (rs ++ [r] ++ [[w]])
  | [], r, w, h, h2 => by
    obtain ⟨h0, h1, _, _⟩ := h
    refine ⟨h0, h1, ?_, ?_⟩
    · intro x y e1 e2
      have e1' : some [w] = some y := e1
      cases e1'
      have e2' : some w = some x := e2
      cases e2'
      exact h2
    · exact ⟨by simp, by simp, by simp, True.intro⟩
  | a :: rs, r, w, h, h2 => by
    obtain ⟨h0, h1, h3, h4⟩ := h
    refine ⟨h0, h1, ?_, Good.snoc h4 h2⟩
    intro x y e1 e2
    refine h3 x y ?_ e2
    cases rs with
    | nil => exact e1
    | cons b rs => exact e1
theorem Good.on {room : Int} : ∀ {rs : List (List α)} {r : List α} {w : α}, Good sz room (rs ++ [r]) → (jl sz r : Int) + 1 + (sz w : Int) ≤ room → Good sz room (rs ++ [r ++ [w]])
  | [], r, w, h, h2 => by
    obtain ⟨h0, h1, _, _⟩ := h
    refine ⟨by simp, fun _ => ?_, by simp, True.intro⟩
    rw [jl_snoc sz r w h0]
    omega
  | a :: rs, r, w, h, h2 => by
    obtain ⟨h0, h1, h3, h4⟩ := h
    refine ⟨h0, h1, ?_, Good.on h4 h2⟩
    intro x y e1 e2
    cases rs with
    | nil =>
      have e1' : some (r ++ [w]) = some y := e1
      cases e1'
      refine h3 x r rfl ?_
      have hr : r ≠ [] := h4.1
      cases r with
      | nil => exact absurd rfl hr
      | cons z r => exact e2
    | cons b rs => exact h3 x y e1 e2
structure Mid (room : Int) (pre : List α) (st : List (List α) × Int) : Prop where
  flat : st.1.flatten = pre
  good : Good sz room st.1
  used : ∀ rs r, st.1 = rs ++ [r] → st.2 = (jl sz r : Int)
  first : st.1 = [] → pre = []
theorem split_last {β : Type} : ∀ (l : List β), l ≠ [] → ∃ i x, l = i ++ [x] := fun l h => ⟨l.dropLast, l.getLast h, (List.dropLast_concat_getLast h).symm⟩
theorem mid_start (room : Int) : Mid sz room [] ([], 0) := ⟨rfl, True.intro, fun rs r h => by simp at h, fun _ => rfl⟩
theorem mid_turn {room : Int} {pre : List α} {st : List (List α) × Int} (m : Mid sz room pre st) (w : α) : Mid sz room (pre ++ [w]) (turn sz room st w) := by
  unfold turn
  by_cases h0 : st.1 = []
  · rw [if_neg (fun c => c.1 h0)]
    have hp := m.first h0
    refine ⟨by simp [h0, hp], ?_, ?_, by simp⟩
    · show Good sz room (st.1 ++ [[w]])
      rw [h0]
      exact ⟨by simp, by simp, by simp, True.intro⟩
    · intro rs r e
      have e' : st.1 ++ [[w]] = rs ++ [r] := e
      rw [h0] at e'
      have := List.append_inj_right' e' rfl
      cases this
      rfl
  · obtain ⟨rs, r, e⟩ := split_last st.1 h0
    have hu := m.used rs r e
    by_cases h1 : st.2 + 1 + (sz w : Int) ≤ room
    · rw [if_pos ⟨h0, h1⟩]
      have hr : r ≠ [] := by
        have g := m.good
        rw [e] at g
        clear e hu h1
        induction rs with
        | nil => exact g.1
        | cons a rs ih => exact ih g.2.2.2
      refine ⟨?_, ?_, ?_, ?_⟩
      · show (onLast st.1 w).flatten = pre ++ [w]
        rw [e, onLast_snoc, ← m.flat, e]
        simp
      · show Good sz room (onLast st.1 w)
        rw [e, onLast_snoc]
        have g := m.good
        rw [e] at g
        exact Good.on sz g (by omega)
      · intro rs' r' e'
        have e2 : onLast st.1 w = rs' ++ [r'] := e'
        rw [e, onLast_snoc] at e2
        have := List.append_inj_right' e2 rfl
        cases this
        show st.2 + 1 + (sz w : Int) = _
        rw [jl_snoc sz r w hr]
        omega
      · intro e'
        have e2 : onLast st.1 w = [] := e'
        rw [e, onLast_snoc] at e2
        simp at e2
    · rw [if_neg (fun c => h1 c.2)]
      refine ⟨?_, ?_, ?_, ?_⟩
      · show (st.1 ++ [[w]]).flatten = pre ++ [w]
        rw [List.flatten_append, m.flat]; rfl
      · show Good sz room (st.1 ++ [[w]])
        have g := m.good
        rw [e] at g ⊢
        exact Good.snoc sz g (by omega)
      · intro rs' r' e'
        have e2 : st.1 ++ [[w]] = rs' ++ [r'] := e'
        have := List.append_inj_right' e2 rfl
        cases this
        rfl
      · intro e'
        have e2 : st.1 ++ [[w]] = [] := e'
        simp at e2
theorem mid_run (room : Int) (ws : List α) : Mid sz room ws (run sz room ws) := by
  have key : ∀ (suf pre : List α) (st : List (List α) × Int), Mid sz room pre st → Mid sz room (pre ++ suf) (suf.foldl (turn sz room) st) := by
    intro suf
    induction suf with
    | nil => intro pre st m; simpa using m
    | cons w suf ih =>
      intro pre st m
      have := ih (pre ++ [w]) _ (mid_turn sz m w)
      simpa using this
  have q := key ws [] _ (mid_start sz room)
  rw [List.nil_append] at q
  exact q
theorem filled_flat (room : Int) (ws : List α) : (filledM sz ws room).flatten = ws := (mid_run sz room ws).flat
theorem filled_good (room : Int) (ws : List α) : Good sz room (filledM sz ws room) := (mid_run sz room ws).good
end
end Fm
set_option Elab.async false
set_option autoImplicit false
set_option linter.all false
namespace Th
open PySem
theorem last_split {α : Type} {l : List α} {t : α} (e : l.getLast? = some t) : l = l.dropLast ++ [t] := by
  have hne : l ≠ [] := by intro z; rw [z] at e; cases e
  rw [List.getLast?_eq_some_getLast hne] at e
  rw [← Option.some.inj e]
  exact (List.dropLast_concat_getLast hne).symm
inductive T where
  | word (x : Str)
  | bundle (h : Str) (ps : List T)
  | run (ws : List Str)
  | tag (w : Str) (t : T)
theorem app_len (a b : Str) : (a ++ b).length = a.length + b.length := by
  show (a.cps ++ b.cps).size = _
  rw [Array.size_append]; rfl
theorem app_assoc (a b c : Str) : a ++ b ++ c = a ++ (b ++ c) := by
  show (⟨a.cps ++ b.cps ++ c.cps⟩ : Str) = ⟨a.cps ++ (b.cps ++ c.cps)⟩
  rw [Array.append_assoc]
theorem app_nil (a : Str) : a ++ "" = a := by
  show (⟨a.cps ++ #[]⟩ : Str) = a
  rw [Array.append_empty]
theorem nil_app (a : Str) : "" ++ a = a := by
  show (⟨#[] ++ a.cps⟩ : Str) = a
  rw [Array.empty_append]
mutual
noncomputable def flat : T → Str
  | .word x => x
  | .bundle h ps => h ++ "(" ++ Str.join ", " (flats ps) ++ ")"
  | .run ws => "[" ++ Str.join " " ws ++ "]"
  | .tag w t => w ++ ": " ++ flat t
noncomputable def flats : List T → List Str
  | [] => []
  | t :: r => flat t :: flats r
end
mutual
noncomputable def size : T → Nat
  | .word x => x.length + 1
  | .bundle h ps => h.length + 5 + sizes ps
  | .run ws => (ws.map fun x => x.length + 1).sum + 3
  | .tag w t => w.length + 5 + size t
noncomputable def sizes : List T → Nat
  | [] => 0
  | t :: r => size t + 2 + sizes r
end
mutual
noncomputable def deep : T → Nat
  | .word _ => 0
  | .bundle _ ps => deeps ps + 1
  | .run _ => 0
  | .tag _ t => deep t + 1
noncomputable def deeps : List T → Nat
  | [] => 0
  | t :: r => max (deep t) (deeps r)
end
theorem flats_map : ∀ ts : List T, flats ts = ts.map flat
  | [] => rfl
  | t :: r => by rw [flats, flats_map r]; rfl
theorem sizes_app : ∀ a b : List T, sizes (a ++ b) = sizes a + sizes b
  | [], b => by rw [List.nil_append, sizes]; omega
  | t :: a, b => by rw [List.cons_append, sizes, sizes, sizes_app a b]; omega
theorem deeps_app : ∀ a b : List T, deeps (a ++ b) = max (deeps a) (deeps b)
  | [], b => by rw [List.nil_append, deeps]; exact (Nat.zero_max _).symm
  | t :: a, b => by rw [List.cons_append, deeps, deeps, deeps_app a b]; exact (Nat.max_assoc _ _ _).symm
theorem mx {a b c : Nat} (h1 : a ≤ c) (h2 : b ≤ c) : max a b ≤ c := Nat.max_le.mpr ⟨h1, h2⟩
theorem deep_le_of_mem : ∀ {ts : List T} {t : T}, t ∈ ts → deep t ≤ deeps ts
  | a :: r, t, h => by
    rw [deeps]
    rcases List.mem_cons.mp h with e | h
    · rw [e]; omega
    · have := deep_le_of_mem h; omega
theorem size_le_of_mem : ∀ {ts : List T} {t : T}, t ∈ ts → size t ≤ sizes ts
  | a :: r, t, h => by
    rw [sizes]
    rcases List.mem_cons.mp h with e | h
    · rw [e]; omega
    · have := size_le_of_mem h; omega
theorem join_len (sep : Str) : ∀ xs : List Str, (Str.join sep xs).length ≤ (xs.map fun x => x.length + sep.length).sum
  | [] => Nat.le_refl _
  | [x] => by show x.length ≤ _; simp
  | x :: y :: r => by
    have h := join_len sep (y :: r)
    show (x ++ sep ++ Str.join sep (y :: r)).length ≤ _
    rw [app_len, app_len, List.map_cons, List.sum_cons]
    omega
theorem join_len_eq (sep : Str) : ∀ xs : List Str, xs ≠ [] → (Str.join sep xs).length + sep.length = (xs.map fun x => x.length + sep.length).sum
  | [], h => absurd rfl h
  | [x], _ => by show x.length + sep.length = _; simp
  | x :: y :: r, _ => by
    have h := join_len_eq sep (y :: r) (by simp)
    show (x ++ sep ++ Str.join sep (y :: r)).length + sep.length = _
    rw [app_len, app_len, List.map_cons, List.sum_cons]
    omega
mutual
theorem flat_le : ∀ t : T, (flat t).length ≤ size t
  | .word x => by rw [flat, size]; omega
  | .bundle h ps => by
    rw [flat, size, app_len, app_len, app_len]
    have h1 := join_len ", " (flats ps)
    have h2 := flats_le ps
    have e1 : ("(" : Str).length = 1 := by decide
    have e2 : (")" : Str).length = 1 := by decide
    have e3 : (", " : Str).length = 2 := by decide
    rw [e3] at h1
    omega
  | .run ws => by
    rw [flat, size, app_len, app_len]
    have h1 := join_len " " ws
    have e1 : ("[" : Str).length = 1 := by decide
    have e2 : ("]" : Str).length = 1 := by decide
    have e3 : (" " : Str).length = 1 := by decide
    rw [e3] at h1
    omega
  | .tag w t => by
    rw [flat, size, app_len, app_len]
    have := flat_le t
    have e1 : (": " : Str).length = 2 := by decide
    omega
theorem flats_le : ∀ ts : List T, ((flats ts).map fun x => x.length + 2).sum ≤ sizes ts
  | [] => Nat.le_refl _
  | t :: r => by
    rw [flats, sizes, List.map_cons, List.sum_cons]
    have := flat_le t
    have := flats_le r
    omega
end
noncomputable def cat : List T → Str
  | [] => ""
  | t :: r => flat t ++ cat r
theorem cat_app : ∀ a b : List T, cat (a ++ b) = cat a ++ cat b
  | [], b => by rw [List.nil_append, cat, nil_app]
  | t :: a, b => by rw [List.cons_append, cat, cat, cat_app a b, app_assoc]
noncomputable def between : List T → List T
  | [] => []
  | [t] => [t]
  | t :: u :: r => t :: .word ", " :: between (u :: r)
theorem cat_between : ∀ ps : List T, cat (between ps) = Str.join ", " (flats ps)
  | [] => rfl
  | [t] => by rw [between, cat, cat, app_nil, flats, flats]; rfl
  | t :: u :: r => by
    have e1 : flats (u :: r) = flat u :: flats r := by rw [flats]
    have e2 : flats (t :: u :: r) = flat t :: flat u :: flats r := by rw [flats, e1]
    rw [between, cat, cat, cat_between (u :: r), e2, e1, flat, ← app_assoc]
    rfl
mutual
noncomputable def heft : T → Nat
  | .word _ => 1
  | .bundle _ ps => 3 + hefts ps + ps.length
  | .run _ => 1
  | .tag _ t => heft t + 2
noncomputable def hefts : List T → Nat
  | [] => 0
  | t :: r => heft t + hefts r
end
theorem hefts_app : ∀ a b : List T, hefts (a ++ b) = hefts a + hefts b
  | [], b => by rw [List.nil_append, hefts]; omega
  | t :: a, b => by rw [List.cons_append, hefts, hefts, hefts_app a b]; omega
theorem heft_pos : ∀ t : T, 1 ≤ heft t
  | .word _ => by rw [heft]; omega
  | .bundle _ _ => by rw [heft]; omega
  | .run _ => by rw [heft]; omega
  | .tag _ _ => by rw [heft]; omega
theorem len_hefts : ∀ ts : List T, ts.length ≤ hefts ts
  | [] => Nat.le_refl _
  | t :: r => by rw [hefts, List.length_cons]; have := heft_pos t; have := len_hefts r; omega
theorem hefts_between : ∀ ps : List T, hefts (between ps) ≤ hefts ps + ps.length
  | [] => by rw [between, hefts]; omega
  | [t] => by rw [between, hefts, hefts]; simp
  | t :: u :: r => by
    have := hefts_between (u :: r)
    rw [between, hefts, hefts, hefts, heft]
    simp only [List.length_cons] at this ⊢
    omega
mutual
theorem heft_le : ∀ t : T, heft t ≤ size t
  | .word x => by rw [heft, size]; omega
  | .bundle h ps => by rw [heft, size]; have := hefts_le ps; omega
  | .run ws => by rw [heft, size]; omega
  | .tag w t => by rw [heft, size]; have := heft_le t; omega
theorem hefts_le : ∀ ts : List T, hefts ts + ts.length ≤ sizes ts
  | [] => by rw [hefts, sizes]; simp
  | t :: r => by
    rw [hefts, sizes, List.length_cons]
    have := heft_le t
    have := hefts_le r
    omega
end
theorem hefts_rev : ∀ l : List T, hefts l.reverse = hefts l
  | [] => rfl
  | t :: r => by rw [List.reverse_cons, hefts_app, hefts_rev r, hefts, hefts, hefts]; omega
noncomputable def pushed (ps : List T) : Nat → List T
  | 0 => []
  | i + 1 => pushed ps i ++ ps.getD (ps.length - 1 - i) (.word "") :: (if 0 < ps.length - 1 - i then [.word ", "] else [])
theorem pushed_rev (ps : List T) : ∀ i, i ≤ ps.length → (pushed ps i).reverse = (if 0 < i ∧ i < ps.length then [.word ", "] else []) ++ between (ps.drop (ps.length - i))
  | 0, _ => by
    rw [pushed, if_neg (by omega), Nat.sub_zero, List.drop_length]
    rfl
  | i + 1, h => by
    have ih := pushed_rev ps i (by omega)
    have hk : ps.length - 1 - i < ps.length := by omega
    have e1 : ps.length - (i + 1) = ps.length - 1 - i := by omega
    have e2 : ps.drop (ps.length - 1 - i) = ps.getD (ps.length - 1 - i) (.word "") :: ps.drop (ps.length - i) := by
      rw [List.drop_eq_getElem_cons hk, List.getD_eq_getElem?_getD, List.getElem?_eq_getElem hk, show ps.length - 1 - i + 1 = ps.length - i by omega]
      rfl
    rw [pushed, List.reverse_append, List.reverse_cons, ih, e1, e2]
    generalize ps.getD (ps.length - 1 - i) (.word "") = t
    have key : (if 0 < i ∧ i < ps.length then [T.word ", "] else []) ++ between (ps.drop (ps.length - i)) = (match between (t :: ps.drop (ps.length - i)) with | [] => [] | _ :: r => r) := by
      by_cases hi : i = 0
      · subst hi
        rw [if_neg (by omega), Nat.sub_zero, List.drop_length]
        rfl
      · rw [if_pos ⟨by omega, by omega⟩]
        have hk2 : ps.length - i < ps.length := by omega
        rw [List.drop_eq_getElem_cons hk2]
        rfl
    have key2 : between (t :: ps.drop (ps.length - i)) = t :: (match between (t :: ps.drop (ps.length - i)) with | [] => [] | _ :: r => r) := by
      cases ps.drop (ps.length - i) with
      | nil => rfl
      | cons u r => rfl
    rw [key, key2]
    by_cases hz : 0 < ps.length - 1 - i
    · rw [if_pos hz, if_pos ⟨by omega, by omega⟩]
      simp
    · rw [if_neg hz, if_neg (by omega)]
      simp
theorem pushed_all (ps : List T) : (pushed ps ps.length).reverse = between ps := by
  rw [pushed_rev ps ps.length (Nat.le_refl _), if_neg (by omega), Nat.sub_self]
  rfl
theorem pushed_len (ps : List T) : ∀ i, (pushed ps i).length ≤ 2 * i
  | 0 => Nat.le_refl _
  | i + 1 => by
    have := pushed_len ps i
    rw [pushed, List.length_append, List.length_cons]
    split <;> simp <;> omega
section
variable (wd : Int → Str)
noncomputable def tags : T → Nat
  | .tag _ t => tags t + 1
  | _ => 0
noncomputable def runOf (salt : Int) : T := .run ((List.range (salt % 9).toNat).map fun (k : Nat) => wd (salt + 11 * (k : Int)))
noncomputable def onTop (f : List T → List T) : List (List T) → List (List T)
  | [] => []
  | t :: r => f t :: r
noncomputable def tagTop (salt : Int) (top : List T) : Option (List T) :=
  match top.getLast? with
  | some t => if tags t < 4 then some (top.dropLast ++ [.tag (wd salt) t]) else none
  | none => none
noncomputable def step (fs : List (List T)) (way salt : Int) : List (List T) :=
  match fs with
  | [] => []
  | top :: below =>
    if way = 0 ∧ below.length + 1 < 9 then [] :: top :: below
    else if way = 1 ∧ below ≠ [] then onTop (· ++ [.bundle (wd salt) top]) below
    else if way = 2 then (top ++ [runOf wd salt]) :: below
    else if way = 3 then (tagTop wd salt top).getD (top ++ [.word (wd salt)]) :: below
    else (top ++ [.word (wd salt)]) :: below
noncomputable def tot (fs : List (List T)) : Nat := (fs.map sizes).sum
noncomputable def dm : List (List T) → Nat
  | [] => 0
  | f :: r => max (deeps f) (dm r)
structure Ok (n : Nat) (fs : List (List T)) : Prop where
  ne : fs ≠ []
  le : fs.length ≤ 9
  sz : tot fs ≤ 350 * n
  dp : dm fs ≤ n
theorem ok_start : Ok 0 [[]] := ⟨by simp, by simp, by simp [tot, sizes], by simp [dm, deeps]⟩
variable (hw : ∀ n, (wd n).length ≤ 42)
include hw
theorem runOf_size (salt : Int) : size (runOf wd salt) ≤ 347 := by
  rw [runOf, size]
  have h9 : (salt % 9).toNat ≤ 8 := by omega
  have key : ∀ l : List Nat, ((l.map fun (k : Nat) => wd (salt + 11 * (k : Int))).map fun x => x.length + 1).sum ≤ 43 * l.length := by
    intro l
    induction l with
    | nil => simp
    | cons k l ih =>
      have := hw (salt + 11 * (k : Int))
      simp only [List.map_cons, List.sum_cons, List.length_cons]
      omega
  have := key (List.range (salt % 9).toNat)
  rw [List.length_range] at this
  omega
theorem tagTop_ok (salt : Int) (top : List T) : sizes ((tagTop wd salt top).getD (top ++ [.word (wd salt)])) ≤ sizes top + 60 ∧ deeps ((tagTop wd salt top).getD (top ++ [.word (wd salt)])) ≤ deeps top + 1 := by
  have hs := hw salt
  have other : sizes (top ++ [.word (wd salt)]) ≤ sizes top + 60 ∧ deeps (top ++ [.word (wd salt)]) ≤ deeps top + 1 := by
    refine ⟨by rw [sizes_app, sizes, sizes, size]; omega, ?_⟩
    rw [deeps_app, deeps, deeps, deep]
    exact mx (Nat.le_succ _) (mx (Nat.zero_le _) (Nat.zero_le _))
  unfold tagTop
  cases e : top.getLast? with
  | none => exact other
  | some t =>
    dsimp only
    by_cases c : tags t < 4
    · rw [if_pos c, Option.getD_some]
      have ht := last_split e
      have h1 : sizes top = sizes top.dropLast + (size t + 2 + 0) := by
        conv => lhs; rw [ht]
        rw [sizes_app, sizes, sizes]
      have h2 : deeps top = max (deeps top.dropLast) (max (deep t) 0) := by
        conv => lhs; rw [ht]
        rw [deeps_app, deeps, deeps]
      refine ⟨by rw [h1, sizes_app, sizes, sizes, size]; clear h2; omega, ?_⟩
      rw [h2, deeps_app, deeps, deeps, deep]
      exact mx (Nat.le_trans (Nat.le_max_left _ _) (Nat.le_succ _)) (mx (Nat.succ_le_succ (Nat.le_trans (Nat.le_max_left _ _) (Nat.le_max_right _ _))) (Nat.zero_le _))
    · rw [if_neg c]
      exact other
theorem ok_step {n : Nat} {fs : List (List T)} (o : Ok n fs) (way salt : Int) : Ok (n + 1) (step wd fs way salt) := by
  obtain ⟨ne, le, sz, dp⟩ := o
  have hs := hw salt
  cases fs with
  | nil => exact absurd rfl ne
  | cons top below =>
    rw [tot, List.map_cons, List.sum_cons] at sz
    rw [dm] at dp
    rw [List.length_cons] at le
    obtain ⟨d1, d2⟩ := Nat.max_le.mp dp
    clear dp
    unfold step
    dsimp only
    split
    · refine ⟨by simp, by simp; omega, ?_, ?_⟩
      · rw [tot, List.map_cons, List.sum_cons, List.map_cons, List.sum_cons, sizes]; omega
      · rw [dm, dm, deeps]; exact mx (Nat.zero_le _) (mx (Nat.le_succ_of_le d1) (Nat.le_succ_of_le d2))
    · split
      · rename_i _ c
        cases below with
        | nil => exact absurd rfl c.2
        | cons b r =>
          rw [List.map_cons, List.sum_cons] at sz
          rw [dm] at d2
          rw [List.length_cons] at le
          obtain ⟨d3, d4⟩ := Nat.max_le.mp d2
          clear d2
          refine ⟨by simp [onTop], by simp [onTop]; omega, ?_, ?_⟩
          · rw [onTop, tot, List.map_cons, List.sum_cons, sizes_app, sizes, sizes, size]; omega
          · rw [onTop, dm, deeps_app, deeps, deeps, deep]; exact mx (mx (Nat.le_succ_of_le d3) (mx (Nat.succ_le_succ d1) (Nat.zero_le _))) (Nat.le_succ_of_le d4)
      · split
        · have := runOf_size wd hw salt
          refine ⟨by simp, by simp; omega, ?_, ?_⟩
          · rw [tot, List.map_cons, List.sum_cons, sizes_app, sizes, sizes]; omega
          · rw [dm, deeps_app, deeps, deeps, runOf, deep]; exact mx (mx (Nat.le_succ_of_le d1) (mx (Nat.zero_le _) (Nat.zero_le _))) (Nat.le_succ_of_le d2)
        · split
          · have k := tagTop_ok wd hw salt top
            refine ⟨by simp, by simp; omega, ?_, ?_⟩
            · rw [tot, List.map_cons, List.sum_cons]; omega
            · rw [dm]; exact mx (Nat.le_trans k.2 (Nat.succ_le_succ d1)) (Nat.le_succ_of_le d2)
          · refine ⟨by simp, by simp; omega, ?_, ?_⟩
            · rw [tot, List.map_cons, List.sum_cons, sizes_app, sizes, sizes, size]; omega
            · rw [dm, deeps_app, deeps, deeps, deep]; exact mx (mx (Nat.le_succ_of_le d1) (mx (Nat.zero_le _) (Nat.zero_le _))) (Nat.le_succ_of_le d2)
omit hw
noncomputable def grow (cells : List Int) : Nat → List (List T)
  | 0 => [[]]
  | k + 1 => step wd (grow cells k) (cells.getD k 0 % 7) (cells.getD k 0 / 7 + 3 * (k : Int))
noncomputable def close : Nat → List (List T) → List (List T)
  | 0, fs => fs
  | n + 1, fs => close n (step wd fs 1 ((n : Int) + 2))
noncomputable def thingOf : List (List T) → T
  | [[t]] => t
  | f :: _ => .bundle "top" f
  | [] => .word ""
noncomputable def grown (cells : List Int) : T := thingOf (close wd ((grow wd cells cells.length).length - 1) (grow wd cells cells.length))
theorem step_close_len {fs : List (List T)} {salt : Int} {n : Nat} (h : fs.length = n + 2) : (step wd fs 1 salt).length = n + 1 := by
  cases fs with
  | nil => simp at h
  | cons top below =>
    cases below with
    | nil => simp at h
    | cons b r =>
      unfold step
      dsimp only
      rw [if_neg (by intro z; exact absurd z.1 (by decide)), if_pos ⟨rfl, by simp⟩]
      simpa [onTop] using h
include hw
theorem ok_grow (cells : List Int) : ∀ k, Ok k (grow wd cells k)
  | 0 => ok_start
  | k + 1 => ok_step wd hw (ok_grow cells k) _ _
theorem ok_close : ∀ (n m : Nat) (fs : List (List T)), Ok m fs → Ok (m + n) (close wd n fs)
  | 0, m, fs, o => o
  | n + 1, m, fs, o => by
    have := ok_close n (m + 1) _ (ok_step wd hw o 1 ((n : Int) + 2))
    rw [close, show m + (n + 1) = m + 1 + n by omega]
    exact this
theorem ok_thing {n : Nat} {fs : List (List T)} (o : Ok n fs) : size (thingOf fs) ≤ 350 * n + 10 ∧ deep (thingOf fs) ≤ n + 1 := by
  obtain ⟨ne, le, sz, dp⟩ := o
  have e3 : ("top" : Str).length = 3 := by decide
  match fs with
  | [] => exact absurd rfl ne
  | [t] :: [] =>
    rw [tot, List.map_cons, List.sum_cons, sizes, sizes] at sz
    rw [dm, deeps, deeps] at dp
    rw [thingOf]
    omega
  | [] :: r =>
    have e : thingOf ([] :: r) = .bundle "top" [] := by cases r <;> rfl
    rw [e, size, deep, sizes, deeps, e3]
    omega
  | [t] :: q :: r =>
    have e : thingOf ([t] :: q :: r) = .bundle "top" [t] := rfl
    rw [tot, List.map_cons, List.sum_cons] at sz
    rw [dm] at dp
    rw [e, size, deep, e3]
    omega
  | (t :: u :: f) :: r =>
    have e : thingOf ((t :: u :: f) :: r) = .bundle "top" (t :: u :: f) := by cases r <;> rfl
    rw [tot, List.map_cons, List.sum_cons] at sz
    rw [dm] at dp
    rw [e, size, deep, e3]
    omega
theorem grown_ok (cells : List Int) (h : cells.length ≤ 63) : size (grown wd cells) ≤ 25000 ∧ deep (grown wd cells) ≤ 73 := by
  have o1 := ok_grow wd hw cells cells.length
  have o2 := ok_close wd hw ((grow wd cells cells.length).length - 1) _ _ o1
  have := ok_thing wd hw o2
  have hl := o1.le
  unfold grown
  omega
end
end Th
set_option Elab.async false
set_option linter.all false
namespace L2
open PySem PySem.Spec PyProof.Rows
theorem hideN (P : St → Hp → Prop) : ∃ N : St → Hp → Prop, (∀ σ H, P σ H → N σ H) ∧ ∀ σ H, N σ H → P σ H := ⟨P, fun _ _ z => z, fun _ _ z => z⟩
noncomputable def rdOf {X : Cx} {st : List Stmt} {ts : TS} (_ : PSs X st ts) : TS := ts
noncomputable def ixA (l : List Stmt) (i : Nat) : Stmt := l.getD i (.Pass ⟨0, 0, 0, 0⟩)
noncomputable def thenA : Stmt → List Stmt
  | .For _ _ b _ _ => b
  | .While _ b _ _ => b
  | .If _ b _ _ => b
  | _ => []
noncomputable def elseA : Stmt → List Stmt
  | .If _ _ b _ => b
  | _ => []
theorem lenE0 {P : List Value → Prop} (h : P []) : ∀ us : List Value, us.length = 0 → P us
  | [], _ => h
theorem lenE1 {P : List Value → Prop} (h : ∀ a, P [a]) : ∀ us : List Value, us.length = 1 → P us
  | [], e => by cases e
  | a :: us, e => lenE0 (P := fun l => P (a :: l)) (h a) us (Nat.succ.inj e)
theorem lenE2 {P : List Value → Prop} (h : ∀ a b, P [a, b]) : ∀ us : List Value, us.length = 2 → P us
  | [], e => by cases e
  | a :: us, e => lenE1 (P := fun l => P (a :: l)) (h a) us (Nat.succ.inj e)
theorem lenE3 {P : List Value → Prop} (h : ∀ a b c, P [a, b, c]) : ∀ us : List Value, us.length = 3 → P us
  | [], e => by cases e
  | a :: us, e => lenE2 (P := fun l => P (a :: l)) (h a) us (Nat.succ.inj e)
theorem lenE4 {P : List Value → Prop} (h : ∀ a b c d, P [a, b, c, d]) : ∀ us : List Value, us.length = 4 → P us
  | [], e => by cases e
  | a :: us, e => lenE3 (P := fun l => P (a :: l)) (h a) us (Nat.succ.inj e)
theorem lenE5 {P : List Value → Prop} (h : ∀ a b c d e, P [a, b, c, d, e]) : ∀ us : List Value, us.length = 5 → P us
  | [], e => by cases e
  | a :: us, e => lenE4 (P := fun l => P (a :: l)) (h a) us (Nat.succ.inj e)
noncomputable def HuP (n : Nat) : Prop := n < cLine
inductive A3 (a0 a1 a2 : Prop) : Prop
  | mk (h0 : a0) (h1 : a1) (h2 : a2) : A3 a0 a1 a2
inductive A7 (a0 a1 a2 a3 a4 a5 a6 : Prop) : Prop
  | mk (h0 : a0) (h1 : a1) (h2 : a2) (h3 : a3) (h4 : a4) (h5 : a5) (h6 : a6) : A7 a0 a1 a2 a3 a4 a5 a6
inductive A12 (a0 a1 a2 a3 a4 a5 a6 a7 a8 a9 a10 a11 : Prop) : Prop
  | mk (h0 : a0) (h1 : a1) (h2 : a2) (h3 : a3) (h4 : a4) (h5 : a5) (h6 : a6) (h7 : a7) (h8 : a8) (h9 : a9) (h10 : a10) (h11 : a11) : A12 a0 a1 a2 a3 a4 a5 a6 a7 a8 a9 a10 a11
inductive E1 {α0 : Type} (P : α0 → Prop) : Prop
  | mk (x0 : α0) (h : P x0) : E1 P
inductive E2 {α0 α1 : Type} (P : α0 → α1 → Prop) : Prop
  | mk (x0 : α0) (x1 : α1) (h : P x0 x1) : E2 P
inductive E3 {α0 α1 α2 : Type} (P : α0 → α1 → α2 → Prop) : Prop
  | mk (x0 : α0) (x1 : α1) (x2 : α2) (h : P x0 x1 x2) : E3 P
inductive E5 {α0 α1 α2 α3 α4 : Type} (P : α0 → α1 → α2 → α3 → α4 → Prop) : Prop
  | mk (x0 : α0) (x1 : α1) (x2 : α2) (x3 : α3) (x4 : α4) (h : P x0 x1 x2 x3 x4) : E5 P
inductive E14 {α0 α1 α2 α3 α4 α5 α6 α7 α8 α9 α10 α11 α12 α13 : Type} (P : α0 → α1 → α2 → α3 → α4 → α5 → α6 → α7 → α8 → α9 → α10 → α11 → α12 → α13 → Prop) : Prop
  | mk (x0 : α0) (x1 : α1) (x2 : α2) (x3 : α3) (x4 : α4) (x5 : α5) (x6 : α6) (x7 : α7) (x8 : α8) (x9 : α9) (x10 : α10) (x11 : α11) (x12 : α12) (x13 : α13) (h : P x0 x1 x2 x3 x4 x5 x6 x7 x8 x9 x10 x11 x12 x13) : E14 P
noncomputable def Kp (p : Prop) : Prop := p
theorem kpI {p : Prop} (h : p) : Kp p := h
theorem Kp.out {p : Prop} (h : Kp p) : p := h
end L2
set_option Elab.async false
set_option linter.all false
set_option maxRecDepth 100000
namespace Rp
open PySem PySem.Spec PyProof.Rows L2
open Th (T)
mutual
noncomputable def Rep (G : Hp) : T → V → Prop
  | .word x, v => v = .str x
  | .bundle h ps, v => ∃ (a l : Addr) (vs : List V), v = .ref a ∧ G a = some (.tup [.str "bundle", .str h, .ref l]) ∧ G l = some (.lst vs) ∧ Reps G ps vs
  | .run ws, v => ∃ (a l : Addr), v = .ref a ∧ G a = some (.tup [.str "run", .ref l]) ∧ G l = some (.lst (ws.map V.str))
  | .tag w t, v => ∃ (a : Addr) (u : V), v = .ref a ∧ G a = some (.tup [.str "tag", .str w, u]) ∧ Rep G t u
noncomputable def Reps (G : Hp) : List T → List V → Prop
  | [], vs => vs = []
  | t :: ts, vs => ∃ (v : V) (r : List V), vs = v :: r ∧ Rep G t v ∧ Reps G ts r
end
mutual
theorem Rep.mono {G G' : Hp} (s : Same G G') : ∀ (t : T) (v : V), Rep G t v → Rep G' t v
  | .word x, v, h => by rw [Rep] at h ⊢; exact h
  | .bundle hd ps, v, h => by
    rw [Rep] at h ⊢
    obtain ⟨a, l, vs, e, h1, h2, h3⟩ := h
    exact ⟨a, l, vs, e, s _ _ h1, s _ _ h2, Reps.mono s ps vs h3⟩
  | .run ws, v, h => by
    rw [Rep] at h ⊢
    obtain ⟨a, l, e, h1, h2⟩ := h
    exact ⟨a, l, e, s _ _ h1, s _ _ h2⟩
  | .tag w t, v, h => by
    rw [Rep] at h ⊢
    obtain ⟨a, u, e, h1, h2⟩ := h
    exact ⟨a, u, e, s _ _ h1, Rep.mono s t u h2⟩
theorem Reps.mono {G G' : Hp} (s : Same G G') : ∀ (ts : List T) (vs : List V), Reps G ts vs → Reps G' ts vs
  | [], vs, h => by rw [Reps] at h ⊢; exact h
  | t :: ts, vs, h => by
    rw [Reps] at h ⊢
    obtain ⟨v, r, e, h1, h2⟩ := h
    exact ⟨v, r, e, Rep.mono s t v h1, Reps.mono s ts r h2⟩
end
theorem Reps.nil {G : Hp} : Reps G [] [] := by rw [Reps]
theorem Reps.cons {G : Hp} {t : T} {ts : List T} {v : V} {vs : List V} (h : Rep G t v) (r : Reps G ts vs) : Reps G (t :: ts) (v :: vs) := by rw [Reps]; exact ⟨v, vs, rfl, h, r⟩
theorem Reps.len {G : Hp} : ∀ {ts : List T} {vs : List V}, Reps G ts vs → ts.length = vs.length
  | [], vs, h => by rw [Reps] at h; rw [h]; rfl
  | t :: ts, vs, h => by
    rw [Reps] at h
    obtain ⟨v, r, e, _, h2⟩ := h
    rw [e, List.length_cons, List.length_cons, Reps.len h2]
theorem Reps.app {G : Hp} {us : List T} {ws : List V} (k : Reps G us ws) : ∀ {ts : List T} {vs : List V}, Reps G ts vs → Reps G (ts ++ us) (vs ++ ws)
  | [], vs, h => by rw [Reps] at h; subst h; exact k
  | t :: ts, vs, h => by
    rw [Reps] at h
    obtain ⟨v, r, rfl, h1, h2⟩ := h
    exact Reps.cons h1 (Reps.app k h2)
theorem Reps.snoc {G : Hp} {t : T} {v : V} {ts : List T} {vs : List V} (h : Reps G ts vs) (k : Rep G t v) : Reps G (ts ++ [t]) (vs ++ [v]) := Reps.app (Reps.cons k Reps.nil) h
theorem Reps.get {G : Hp} : ∀ {ts : List T} {vs : List V} {i : Nat} {v : V}, Reps G ts vs → vs[i]? = some v → ∃ t, ts[i]? = some t ∧ Rep G t v
  | [], vs, i, v, h, e => by rw [Reps] at h; subst h; simp at e
  | t :: ts, vs, i, v, h, e => by
    rw [Reps] at h
    obtain ⟨u, r, rfl, h1, h2⟩ := h
    cases i with
    | zero =>
      have e' : u = v := by simpa using e
      subst e'
      exact ⟨t, rfl, h1⟩
    | succ i =>
      obtain ⟨t', e1, e2⟩ := Reps.get (i := i) (v := v) h2 (by simpa using e)
      exact ⟨t', by simpa using e1, e2⟩
theorem Reps.last {G : Hp} {t : T} : ∀ {ts : List T} {vs : List V}, Reps G (ts ++ [t]) vs → ∃ us v, vs = us ++ [v] ∧ Reps G ts us ∧ Rep G t v
  | [], vs, h => by
    rw [List.nil_append, Reps] at h
    obtain ⟨v, r, rfl, h1, h2⟩ := h
    rw [Reps] at h2
    subst h2
    exact ⟨[], v, rfl, Reps.nil, h1⟩
  | u :: ts, vs, h => by
    rw [List.cons_append, Reps] at h
    obtain ⟨v, r, rfl, h1, h2⟩ := h
    obtain ⟨us, v', rfl, h3, h4⟩ := Reps.last h2
    exact ⟨v :: us, v', rfl, Reps.cons h1 h3, h4⟩
end Rp
set_option Elab.async false
set_option autoImplicit false
set_option linter.all false
namespace Ly
open PySem
open Th (T)
noncomputable abbrev sz (x : Str) : Nat := x.length
noncomputable def pad (n : Nat) : Str := ⟨Array.replicate n 32⟩
theorem pad_len (n : Nat) : (pad n).length = n := by show (Array.replicate n 32).size = n; simp
noncomputable def room (W : Int) (i : Nat) : Int := W - (i : Int) - 2
noncomputable def flatRow (t : T) (i : Nat) (lead tail : Str) : Str := pad i ++ lead ++ Th.flat t ++ tail
noncomputable def wordRow (i : Nat) (g : List Str) : Str := pad i ++ "  " ++ Str.join " " g
mutual
noncomputable def lay (W : Int) : T → Nat → Str → Str → List Str
  | .tag w t, i, lead, tail => lay W t i (lead ++ w ++ ": ") tail
  | .word x, i, lead, tail => [flatRow (.word x) i lead tail]
  | .run ws, i, lead, tail => if ws = [] ∨ ((flatRow (.run ws) i lead tail).length : Int) ≤ W then [flatRow (.run ws) i lead tail]
    else (pad i ++ lead ++ "[") :: ((Fm.filledM sz ws (room W i)).map (wordRow i) ++ [pad i ++ "]" ++ tail])
  | .bundle h ps, i, lead, tail => if ps = [] ∨ ((flatRow (.bundle h ps) i lead tail).length : Int) ≤ W then [flatRow (.bundle h ps) i lead tail]
    else (pad i ++ lead ++ h ++ "(") :: (lays W ps (i + 2) ++ [pad i ++ ")" ++ tail])
noncomputable def lays (W : Int) : List T → Nat → List Str
  | [], _ => []
  | t :: r, i => lay W t i "" (if r.isEmpty then "" else ",") ++ lays W r i
end
mutual
inductive Any : T → Nat → Str → Str → List Str → Prop
  | tag {w : Str} {t : T} {i : Nat} {lead tail : Str} {rows : List Str} : Any t i (lead ++ w ++ ": ") tail rows → Any (.tag w t) i lead tail rows
  | word {x : Str} {i : Nat} {lead tail : Str} : Any (.word x) i lead tail [flatRow (.word x) i lead tail]
  | flatR {ws : List Str} {i : Nat} {lead tail : Str} : Any (.run ws) i lead tail [flatRow (.run ws) i lead tail]
  | flatB {h : Str} {ps : List T} {i : Nat} {lead tail : Str} : Any (.bundle h ps) i lead tail [flatRow (.bundle h ps) i lead tail]
  | run {ws : List Str} {i : Nat} {lead tail : Str} {gs : List (List Str)} : ws ≠ [] → gs.flatten = ws → (∀ g ∈ gs, g ≠ []) → Any (.run ws) i lead tail ((pad i ++ lead ++ "[") :: (gs.map (wordRow i) ++ [pad i ++ "]" ++ tail]))
  | bundle {h : Str} {ps : List T} {i : Nat} {lead tail : Str} {rows : List Str} : ps ≠ [] → Anys ps (i + 2) rows → Any (.bundle h ps) i lead tail ((pad i ++ lead ++ h ++ "(") :: (rows ++ [pad i ++ ")" ++ tail]))
inductive Anys : List T → Nat → List Str → Prop
  | nil {i : Nat} : Anys [] i []
  | cons {t : T} {r : List T} {i : Nat} {rows rows' : List Str} : Any t i "" (if r.isEmpty then "" else ",") rows → Anys r i rows' → Anys (t :: r) i (rows ++ rows')
end
theorem any_ind {M : T → Nat → Str → Str → List Str → Prop} {N : List T → Nat → List Str → Prop}
    (c1 : ∀ {w : Str} {t : T} {i : Nat} {lead tail : Str} {rows : List Str}, M t i (lead ++ w ++ ": ") tail rows → M (.tag w t) i lead tail rows)
    (c2 : ∀ {x : Str} {i : Nat} {lead tail : Str}, M (.word x) i lead tail [flatRow (.word x) i lead tail])
    (c3 : ∀ {ws : List Str} {i : Nat} {lead tail : Str}, M (.run ws) i lead tail [flatRow (.run ws) i lead tail])
    (c4 : ∀ {h : Str} {ps : List T} {i : Nat} {lead tail : Str}, M (.bundle h ps) i lead tail [flatRow (.bundle h ps) i lead tail])
    (c5 : ∀ {ws : List Str} {i : Nat} {lead tail : Str} {gs : List (List Str)}, ws ≠ [] → gs.flatten = ws → (∀ g ∈ gs, g ≠ []) → M (.run ws) i lead tail ((pad i ++ lead ++ "[") :: (gs.map (wordRow i) ++ [pad i ++ "]" ++ tail])))
    (c6 : ∀ {h : Str} {ps : List T} {i : Nat} {lead tail : Str} {rows : List Str}, ps ≠ [] → N ps (i + 2) rows → M (.bundle h ps) i lead tail ((pad i ++ lead ++ h ++ "(") :: (rows ++ [pad i ++ ")" ++ tail])))
    (c7 : ∀ {i : Nat}, N [] i [])
    (c8 : ∀ {t : T} {r : List T} {i : Nat} {rows rows' : List Str}, Anys r i rows' → M t i "" (if r.isEmpty then "" else ",") rows → N r i rows' → N (t :: r) i (rows ++ rows')) :
    (∀ {t : T} {i : Nat} {lead tail : Str} {rows : List Str}, Any t i lead tail rows → M t i lead tail rows) ∧ ∀ {ts : List T} {i : Nat} {rows : List Str}, Anys ts i rows → N ts i rows :=
  ⟨fun h => Any.rec (motive_1 := fun t i l u r _ => M t i l u r) (motive_2 := fun ts i r _ => N ts i r) (fun _ => c1) c2 c3 c4 c5 (fun a _ => c6 a) c7 (fun _ b => c8 b) h,
    fun h => Anys.rec (motive_1 := fun t i l u r _ => M t i l u r) (motive_2 := fun ts i r _ => N ts i r) (fun _ => c1) c2 c3 c4 c5 (fun a _ => c6 a) c7 (fun _ b => c8 b) h⟩
theorem wordRow_len (i : Nat) (g : List Str) (h : g ≠ []) : (wordRow i g).length = i + 2 + Fm.jl sz g := by
  have key : ∀ g : List Str, (Str.join " " g).length = Fm.jl sz g := by
    intro g
    induction g with
    | nil => rfl
    | cons x g ih =>
      cases g with
      | nil => rfl
      | cons y g =>
        show (x ++ " " ++ Str.join " " (y :: g)).length = x.length + 1 + Fm.jl sz (y :: g)
        rw [Th.app_len, Th.app_len, ih]
        rfl
  rw [wordRow, Th.app_len, Th.app_len, pad_len, key]
  rfl
theorem good_mem {r : Int} : ∀ {rows : List (List Str)}, Fm.Good sz r rows → ∀ g ∈ rows, g ≠ [] ∧ (1 < g.length → (Fm.jl sz g : Int) ≤ r)
  | [], _, g, h => by cases h
  | a :: rows, q, g, h => by
    rcases List.mem_cons.mp h with e | h
    · rw [e]; exact ⟨q.1, q.2.1⟩
    · exact good_mem q.2.2.2 g h
theorem filled_mem {r : Int} {ws : List Str} {g : List Str} (h : g ∈ Fm.filledM sz ws r) : g ≠ [] ∧ (1 < g.length → (Fm.jl sz g : Int) ≤ r) ∧ ∀ w ∈ g, w ∈ ws := by
  have q := good_mem (Fm.filled_good sz r ws) g h
  refine ⟨q.1, q.2, fun w hw => ?_⟩
  rw [← Fm.filled_flat sz r ws]
  exact List.mem_flatten.mpr ⟨g, h, hw⟩
mutual
theorem lay_any (W : Int) : ∀ (t : T) (i : Nat) (lead tail : Str), Any t i lead tail (lay W t i lead tail)
  | .tag w t, i, lead, tail => by rw [lay]; exact .tag (lay_any W t i _ tail)
  | .word x, i, lead, tail => by rw [lay]; exact .word
  | .run ws, i, lead, tail => by
    rw [lay]
    by_cases c : ws = [] ∨ ((flatRow (.run ws) i lead tail).length : Int) ≤ W
    · rw [if_pos c]; exact .flatR
    · rw [if_neg c]
      exact .run (fun e => c (.inl e)) (Fm.filled_flat sz _ ws) fun g hg => (filled_mem hg).1
  | .bundle h ps, i, lead, tail => by
    rw [lay]
    by_cases c : ps = [] ∨ ((flatRow (.bundle h ps) i lead tail).length : Int) ≤ W
    · rw [if_pos c]; exact .flatB
    · rw [if_neg c]
      exact .bundle (fun e => c (.inl e)) (lays_anys W ps (i + 2))
theorem lays_anys (W : Int) : ∀ (ts : List T) (i : Nat), Anys ts i (lays W ts i)
  | [], i => by rw [lays]; exact .nil
  | t :: r, i => by rw [lays]; exact .cons (lay_any W t i "" _) (lays_anys W r i)
end
theorem flatRow_len (t : T) (i : Nat) (lead tail : Str) : (flatRow t i lead tail).length = i + lead.length + (Th.flat t).length + tail.length := by
  rw [flatRow, Th.app_len, Th.app_len, Th.app_len, pad_len]
noncomputable abbrev Within (W : Int) (a b : List Str) : Prop := ∀ r ∈ a, (r.length : Int) ≤ W ∨ ∃ q ∈ b, r.length ≤ q.length
structure It where
  t : T
  i : Nat
  lead : Str
  tail : Str
noncomputable def layI (W : Int) : List It → List Str
  | [] => []
  | x :: r => lay W x.t x.i x.lead x.tail ++ layI W r
inductive AnyI : List It → List Str → Prop
  | nil : AnyI [] []
  | cons {x : It} {r : List It} {rows more : List Str} : Any x.t x.i x.lead x.tail rows → AnyI r more → AnyI (x :: r) (rows ++ more)
noncomputable def partsI : List T → Nat → List It
  | [], _ => []
  | t :: r, i => ⟨t, i, "", if r.isEmpty then "" else ","⟩ :: partsI r i
theorem layI_app (W : Int) : ∀ a b : List It, layI W (a ++ b) = layI W a ++ layI W b
  | [], _ => rfl
  | x :: a, b => by rw [List.cons_append, layI, layI, layI_app W a b, List.append_assoc]
theorem layI_parts (W : Int) : ∀ (ps : List T) (i : Nat), layI W (partsI ps i) = lays W ps i
  | [], i => by rw [partsI, lays]; rfl
  | t :: r, i => by rw [partsI, lays, layI, layI_parts W r i]
theorem anyI_parts {its : List It} : ∀ (ps : List T) (i : Nat) {more : List Str}, AnyI (partsI ps i ++ its) more → ∃ rows more', more = rows ++ more' ∧ Anys ps i rows ∧ AnyI its more'
  | [], i, more, h => ⟨[], more, rfl, .nil, h⟩
  | t :: r, i, more, h => by
    rw [partsI, List.cons_append] at h
    cases h with
    | cons h1 h2 =>
      obtain ⟨rows', more', rfl, h3, h4⟩ := anyI_parts r i h2
      exact ⟨_, more', by rw [List.append_assoc], .cons h1 h3, h4⟩
noncomputable def lastI (x : Str) : It := ⟨.word x, 0, "", ""⟩
theorem last_row (x : Str) : flatRow (.word x) 0 "" "" = x := by
  rw [flatRow, Th.flat, Th.app_nil]
  show (⟨#[] ++ #[] ++ x.cps⟩ : Str) = x
  simp
theorem any_word {x : Str} {i : Nat} {lead tail : Str} {rows : List Str} (h : Any (.word x) i lead tail rows) : rows = [flatRow (.word x) i lead tail] := by cases h; rfl
mutual
noncomputable def wt : T → Nat
  | .word _ => 1
  | .run _ => 1
  | .tag _ t => wt t + 1
  | .bundle _ ps => wts ps + 2
noncomputable def wts : List T → Nat
  | [] => 0
  | t :: r => wt t + wts r
end
mutual
noncomputable def cap : T → Nat
  | .word _ => 1
  | .run ws => ws.length + 2
  | .tag _ t => cap t
  | .bundle _ ps => caps ps + 2
noncomputable def caps : List T → Nat
  | [] => 0
  | t :: r => cap t + caps r
end
noncomputable def wtI : List It → Nat
  | [] => 0
  | x :: r => wt x.t + wtI r
noncomputable def capI : List It → Nat
  | [] => 0
  | x :: r => cap x.t + capI r
theorem wtI_app : ∀ a b : List It, wtI (a ++ b) = wtI a + wtI b
  | [], b => by rw [List.nil_append, wtI]; omega
  | x :: a, b => by rw [List.cons_append, wtI, wtI, wtI_app a b]; omega
theorem capI_app : ∀ a b : List It, capI (a ++ b) = capI a + capI b
  | [], b => by rw [List.nil_append, capI]; omega
  | x :: a, b => by rw [List.cons_append, capI, capI, capI_app a b]; omega
theorem wtI_parts : ∀ (ps : List T) (i : Nat), wtI (partsI ps i) = wts ps
  | [], i => by rw [partsI, wtI, wts]
  | t :: r, i => by rw [partsI, wtI, wts, wtI_parts r i]
theorem capI_parts : ∀ (ps : List T) (i : Nat), capI (partsI ps i) = caps ps
  | [], i => by rw [partsI, capI, caps]
  | t :: r, i => by rw [partsI, capI, caps, capI_parts r i]
theorem wt_pos : ∀ t : T, 1 ≤ wt t
  | .word _ => by rw [wt]; omega
  | .run _ => by rw [wt]; omega
  | .tag _ _ => by rw [wt]; omega
  | .bundle _ _ => by rw [wt]; omega
theorem cap_pos : ∀ t : T, 1 ≤ cap t
  | .word _ => by rw [cap]; omega
  | .run _ => by rw [cap]; omega
  | .tag _ t => by rw [cap]; exact cap_pos t
  | .bundle _ _ => by rw [cap]; omega
theorem len_wtI : ∀ l : List It, l.length ≤ wtI l
  | [] => Nat.le_refl _
  | x :: r => by rw [wtI, List.length_cons]; have := wt_pos x.t; have := len_wtI r; omega
mutual
theorem wt_le : ∀ t : T, wt t ≤ Th.size t
  | .word x => by rw [wt, Th.size]; omega
  | .run ws => by rw [wt, Th.size]; omega
  | .tag w t => by rw [wt, Th.size]; have := wt_le t; omega
  | .bundle h ps => by rw [wt, Th.size]; have := wts_le ps; omega
theorem wts_le : ∀ ts : List T, wts ts ≤ Th.sizes ts
  | [] => by rw [wts, Th.sizes]; omega
  | t :: r => by rw [wts, Th.sizes]; have := wt_le t; have := wts_le r; omega
end
theorem run_words : ∀ l : List Str, l.length ≤ (l.map fun x => x.length + 1).sum
  | [] => Nat.le_refl _
  | x :: l => by simp only [List.map_cons, List.sum_cons, List.length_cons]; have := run_words l; omega
mutual
theorem cap_le : ∀ t : T, cap t ≤ Th.size t
  | .word x => by rw [cap, Th.size]; omega
  | .run ws => by rw [cap, Th.size]; have := run_words ws; omega
  | .tag w t => by rw [cap, Th.size]; have := cap_le t; omega
  | .bundle h ps => by rw [cap, Th.size]; have := caps_le ps; omega
theorem caps_le : ∀ ts : List T, caps ts ≤ Th.sizes ts
  | [] => by rw [caps, Th.sizes]; omega
  | t :: r => by rw [caps, Th.sizes]; have := cap_le t; have := caps_le r; omega
end
theorem parts_flat : ∀ (ps : List T) (i : Nat), ∀ x ∈ partsI ps i, (flatRow x.t x.i x.lead x.tail).length ≤ i + (Str.join ", " (Th.flats ps)).length
  | [], i, x, h => by cases h
  | t :: r, i, x, h => by
    have e0 : ("" : Str).length = 0 := by decide
    have e1 : ("," : Str).length = 1 := by decide
    have e2 : (", " : Str).length = 2 := by decide
    rw [partsI] at h
    rcases List.mem_cons.mp h with e | h
    · subst e
      rw [flatRow_len, e0]
      cases r with
      | nil =>
        rw [Th.flats, Th.flats]
        show i + 0 + (Th.flat t).length + ("" : Str).length ≤ i + (Th.flat t).length
        omega
      | cons u r =>
        rw [Th.flats, Th.flats]
        show i + 0 + (Th.flat t).length + ("," : Str).length ≤ i + (Th.flat t ++ ", " ++ Str.join ", " (Th.flat u :: Th.flats r)).length
        rw [Th.app_len, Th.app_len]
        omega
    · cases r with
      | nil => cases h
      | cons u r =>
        have := parts_flat (u :: r) i x h
        have eu : Th.flats (u :: r) = Th.flat u :: Th.flats r := by rw [Th.flats]
        rw [Th.flats, eu]
        rw [eu] at this
        show _ ≤ i + (Th.flat t ++ ", " ++ Str.join ", " (Th.flat u :: Th.flats r)).length
        rw [Th.app_len, Th.app_len]
        omega
theorem parts_size : ∀ (ps : List T) (i : Nat), ∀ x ∈ partsI ps i, Th.size x.t ≤ Th.sizes ps
  | [], i, x, h => by cases h
  | t :: r, i, x, h => by
    rw [partsI] at h
    rw [Th.sizes]
    rcases List.mem_cons.mp h with e | h
    · subst e; dsimp only; omega
    · have := parts_size r i x h; omega
theorem partsI_len : ∀ (ps : List T) (i : Nat), (partsI ps i).length = ps.length
  | [], _ => rfl
  | t :: r, i => by rw [partsI, List.length_cons, List.length_cons, partsI_len r i]
theorem partsI_get : ∀ (ps : List T) (i k : Nat) (t : T), ps[k]? = some t → (partsI ps i)[k]? = some ⟨t, i, "", if k + 1 = ps.length then "" else ","⟩
  | [], _, _, _, h => by simp at h
  | u :: r, i, 0, t, h => by
    have e : u = t := by simpa using h
    subst e
    rw [partsI]
    cases r with
    | nil => rfl
    | cons v r => simp
  | u :: r, i, k + 1, t, h => by
    have := partsI_get r i k t (by simpa using h)
    rw [partsI, List.getElem?_cons_succ, this]
    simp
end Ly
set_option Elab.async false
set_option autoImplicit false
set_option linter.all false
namespace Ly
open PySem
open Th (T)
end Ly
set_option Elab.async false
set_option autoImplicit false
set_option linter.all false
namespace Th
open PySem
mutual
noncomputable def Al (p : Str → Prop) : T → Prop
  | .word x => p x
  | .bundle h ps => p h ∧ Als p ps
  | .run ws => ∀ w ∈ ws, p w
  | .tag w t => p w ∧ Al p t
noncomputable def Als (p : Str → Prop) : List T → Prop
  | [] => True
  | t :: r => Al p t ∧ Als p r
end
theorem als_app {p : Str → Prop} : ∀ {a b : List T}, Als p a → Als p b → Als p (a ++ b)
  | [], b, _, hb => hb
  | t :: a, b, ha, hb => by
    rw [Als] at ha
    rw [List.cons_append, Als]
    exact ⟨ha.1, als_app ha.2 hb⟩
theorem als_one {p : Str → Prop} {t : T} (h : Al p t) : Als p [t] := by rw [Als, Als]; exact ⟨h, True.intro⟩
theorem als_mem {p : Str → Prop} : ∀ {ts : List T} {t : T}, Als p ts → t ∈ ts → Al p t
  | u :: r, t, h, hm => by
    rw [Als] at h
    rcases List.mem_cons.mp hm with e | hm
    · rw [e]; exact h.1
    · exact als_mem h.2 hm
theorem als_of {p : Str → Prop} : ∀ {ts : List T}, (∀ t ∈ ts, Al p t) → Als p ts
  | [], _ => by rw [Als]; trivial
  | u :: r, h => by rw [Als]; exact ⟨h u List.mem_cons_self, als_of fun t ht => h t (List.mem_cons_of_mem _ ht)⟩
section
variable {p : Str → Prop} {wd : Int → Str} (hw : ∀ n, p (wd n))
include hw
theorem al_step {fs : List (List T)} (h : ∀ f ∈ fs, Als p f) (way salt : Int) : ∀ f ∈ step wd fs way salt, Als p f := by
  have wordA : ∀ {f : List T}, Als p f → Als p (f ++ [.word (wd salt)]) := fun hf => als_app hf (als_one (by rw [Al]; exact hw _))
  cases fs with
  | nil => exact fun f hf => nomatch hf
  | cons top below =>
    have ht := h top List.mem_cons_self
    have hb : ∀ f ∈ below, Als p f := fun f hf => h f (List.mem_cons_of_mem _ hf)
    have put : ∀ {x : List T}, Als p x → ∀ f ∈ x :: below, Als p f := fun hx f hf => by
      rcases List.mem_cons.mp hf with e | hf
      · rw [e]; exact hx
      · exact hb f hf
    unfold step
    dsimp only
    split
    · intro f hf
      rcases List.mem_cons.mp hf with e | hf
      · rw [e, Als]; trivial
      · exact h f hf
    · split
      · cases below with
        | nil => exact fun f hf => nomatch hf
        | cons b r =>
          intro f hf
          rw [onTop] at hf
          rcases List.mem_cons.mp hf with e | hf
          · rw [e]
            exact als_app (hb b List.mem_cons_self) (als_one (by rw [Al]; exact ⟨hw _, ht⟩))
          · exact hb f (List.mem_cons_of_mem _ hf)
      · split
        · refine put (als_app ht (als_one ?_))
          rw [runOf, Al]
          intro w hm
          obtain ⟨k, _, rfl⟩ := List.mem_map.mp hm
          exact hw _
        · split
          · refine put ?_
            unfold tagTop
            cases e : top.getLast? with
            | none => exact wordA ht
            | some t =>
              dsimp only
              have es := last_split e
              have hd : Als p top.dropLast := als_of fun u hu => als_mem ht ((List.dropLast_sublist _).subset hu)
              have h1 : Al p t := als_mem ht (by rw [es]; simp)
              split
              · exact als_app hd (als_one (by rw [Al]; exact ⟨hw _, h1⟩))
              · exact wordA ht
          · exact put (wordA ht)
theorem al_grow (cells : List Int) : ∀ k, ∀ f ∈ grow wd cells k, Als p f
  | 0, f, hf => by
    have e : f = [] := by simpa [grow] using hf
    rw [e, Als]; trivial
  | k + 1, f, hf => al_step hw (al_grow cells k) _ _ f hf
theorem al_close : ∀ (n : Nat) (fs : List (List T)), (∀ f ∈ fs, Als p f) → ∀ f ∈ close wd n fs, Als p f
  | 0, fs, h => h
  | n + 1, fs, h => al_close n _ (al_step hw h 1 ((n : Int) + 2))
theorem al_grown2 (hl : ∀ n, (wd n).length ≤ 42) (htop : p "top") (cells : List Int) : Al p (grown wd cells) := by
  have h := al_close hw ((grow wd cells cells.length).length - 1) _ (al_grow hw cells cells.length)
  have o := (ok_close wd hl ((grow wd cells cells.length).length - 1) _ _ (ok_grow wd hl cells cells.length)).ne
  unfold grown
  revert h o
  generalize close wd _ _ = fs
  intro h o
  unfold thingOf
  split
  · have := h _ List.mem_cons_self
    rw [Als] at this
    exact this.1
  · rw [Al]; exact ⟨htop, h _ List.mem_cons_self⟩
  · exact absurd rfl o
end
end Th
set_option Elab.async false
set_option autoImplicit false
set_option linter.all false
namespace Nb
open PySem
open Th (T)
open Ly (pad flatRow wordRow Any Anys)
noncomputable def nb (x : Str) : List Nat := x.cps.toList.filter (· != 32)
noncomputable def tot (rows : List Str) : Nat := (rows.map (·.length)).sum
end Nb
set_option Elab.async false
set_option autoImplicit false
set_option linter.all false
namespace Sl
open PySem
theorem cut_first {c : Nat} : ∀ {a b x y : List Nat}, c ∉ a → c ∉ b → a ++ c :: x = b ++ c :: y → a = b ∧ x = y
  | [], [], x, y, _, _, h => ⟨rfl, by simpa using h⟩
  | [], d :: b, x, y, _, hb, h => by
    have e : c = d := by simpa using (List.cons.inj h).1
    exact absurd (by rw [e]; exact List.mem_cons_self) hb
  | d :: a, [], x, y, ha, _, h => by
    have e : d = c := by simpa using (List.cons.inj h).1
    exact absurd (by rw [e]; exact List.mem_cons_self) ha
  | d :: a, e :: b, x, y, ha, hb, h => by
    obtain ⟨h1, h2⟩ := List.cons.inj h
    obtain ⟨e1, e2⟩ := cut_first (fun z => ha (List.mem_cons_of_mem _ z)) (fun z => hb (List.mem_cons_of_mem _ z)) h2
    exact ⟨by rw [h1, e1], e2⟩
noncomputable abbrev sg (x : Str) : List Nat := x.cps.toList
theorem sg_app (x y : Str) : sg (x ++ y) = sg x ++ sg y := by show (x.cps ++ y.cps).toList = _; rw [Array.toList_append]
theorem sg_ext {x y : Str} (h : sg x = sg y) : x = y := by
  cases x; cases y
  congr 1
  exact Array.toList_inj.mp h
noncomputable abbrev one (c : Nat) : Str := ⟨#[c]⟩
theorem sg_one (c : Nat) : sg (one c) = [c] := rfl
theorem sg_join (c : Nat) (p q : Str) (r : List Str) : sg (Str.join (one c) (p :: q :: r)) = sg p ++ c :: sg (Str.join (one c) (q :: r)) := by
  show sg (p ++ one c ++ Str.join (one c) (q :: r)) = _
  rw [sg_app, sg_app, sg_one, List.append_assoc]
  rfl
theorem join_inj {c : Nat} : ∀ {ps qs : List Str}, ps ≠ [] → qs ≠ [] → (∀ p ∈ ps, c ∉ sg p) → (∀ q ∈ qs, c ∉ sg q) → Str.join (one c) ps = Str.join (one c) qs → ps = qs
  | [], _, h, _, _, _, _ => absurd rfl h
  | _, [], _, h, _, _, _ => absurd rfl h
  | [p], [q], _, _, _, _, h => by
    have e : p = q := h
    rw [e]
  | [p], q :: q2 :: r, _, _, hp, _, h => by
    have e : sg p = sg q ++ c :: sg (Str.join (one c) (q2 :: r)) := by rw [← sg_join, ← h]; rfl
    exact absurd (by rw [e]; simp) (hp p List.mem_cons_self)
  | p :: p2 :: r, [q], _, _, _, hq, h => by
    have e : sg q = sg p ++ c :: sg (Str.join (one c) (p2 :: r)) := by rw [← sg_join, h]; rfl
    exact absurd (by rw [e]; simp) (hq q List.mem_cons_self)
  | p :: p2 :: r, q :: q2 :: r', _, _, hp, hq, h => by
    have e := congrArg sg h
    rw [sg_join, sg_join] at e
    obtain ⟨e1, e2⟩ := cut_first (hp p List.mem_cons_self) (hq q List.mem_cons_self) e
    have := join_inj (ps := p2 :: r) (qs := q2 :: r') (by simp) (by simp) (fun x hx => hp x (List.mem_cons_of_mem _ hx)) (fun x hx => hq x (List.mem_cons_of_mem _ hx)) (sg_ext e2)
    rw [sg_ext e1, this]
theorem split_join {c : Nat} {ws : List Str} (hne : ws ≠ []) (hf : ∀ w ∈ ws, c ∉ sg w) : Txt.split (Str.join (one c) ws) (one c) = ws := by
  refine join_inj ?_ hne (StrLaws.split_free _ c) hf (StrLaws.join_split _ _)
  intro z
  have := PyProof.Rows.split_pos (Str.join (one c) ws) (one c)
  rw [z] at this
  simp at this
end Sl
set_option Elab.async false
set_option autoImplicit false
set_option linter.all false
namespace Rd
open PySem
open Th (T)
open Sl (sg)
noncomputable def marks : List Nat := [40, 41, 91, 93, 44, 58]
noncomputable def isM (s : Nat) : Bool := marks.contains s
noncomputable def sp1 (cs : List Nat) (s : Nat) : List Nat := if cs.contains s then [32, s, 32] else [s]
noncomputable def spL (l : List Nat) : List Nat := l.flatMap (sp1 marks)
noncomputable def sp32 : List Nat → List (List Nat)
  | [] => [[]]
  | s :: r => if s = 32 then [] :: sp32 r else match sp32 r with
    | [] => [[s]]
    | w :: ws => (s :: w) :: ws
noncomputable def tokL (l : List Nat) : List (List Nat) := (sp32 (spL l)).filter (fun w => !w.isEmpty)
theorem sp32_ne : ∀ l : List Nat, sp32 l ≠ []
  | [] => by simp [sp32]
  | s :: r => by
    rw [sp32]
    split
    · simp
    · split <;> simp
theorem sp32_blank : ∀ a b : List Nat, sp32 (a ++ 32 :: b) = sp32 a ++ sp32 b
  | [], b => by simp [sp32]
  | s :: a, b => by
    have ih := sp32_blank a b
    rw [List.cons_append, sp32, sp32]
    by_cases h : s = 32
    · rw [if_pos h, if_pos h, ih]; rfl
    · rw [if_neg h, if_neg h, ih]
      cases e : sp32 a with
      | nil => exact absurd e (sp32_ne a)
      | cons w ws => rfl
theorem sp32_free : ∀ {a : List Nat}, 32 ∉ a → sp32 a = [a]
  | [], _ => rfl
  | s :: a, h => by
    have h1 : s ≠ 32 := fun e => h (by rw [e]; exact List.mem_cons_self)
    rw [sp32, if_neg h1, sp32_free fun z => h (List.mem_cons_of_mem _ z)]
theorem tok_nil : tokL [] = [] := by decide
theorem spL_app (a b : List Nat) : spL (a ++ b) = spL a ++ spL b := by unfold spL; rw [List.flatMap_append]
theorem spL_cons (s : Nat) (b : List Nat) : spL (s :: b) = sp1 marks s ++ spL b := by unfold spL; rw [List.flatMap_cons]
theorem tok_blank (a b : List Nat) : tokL (a ++ 32 :: b) = tokL a ++ tokL b := by
  unfold tokL
  rw [spL_app, spL_cons]
  show (sp32 (spL a ++ ([32] ++ spL b))).filter _ = _
  rw [List.singleton_append, sp32_blank, List.filter_append]
theorem tok_mark {m : Nat} (h : isM m = true) (a b : List Nat) : tokL (a ++ m :: b) = tokL a ++ [m] :: tokL b := by
  have hne : m ≠ 32 := by rintro rfl; exact absurd h (by decide)
  unfold tokL
  rw [spL_app, spL_cons]
  have e : sp1 marks m = [32, m, 32] := by unfold sp1; exact if_pos h
  rw [e]
  show (sp32 (spL a ++ 32 :: ([m] ++ 32 :: spL b))).filter _ = _
  rw [sp32_blank, sp32_blank, sp32_free (a := [m]) (by simpa using Ne.symm hne), List.filter_append]
  rfl
noncomputable def Plain (w : List Nat) : Prop := ∀ s ∈ w, s ≠ 32 ∧ isM s = false
theorem spL_plain : ∀ {w : List Nat}, Plain w → spL w = w
  | [], _ => rfl
  | s :: w, h => by
    rw [spL_cons, spL_plain fun z hz => h z (List.mem_cons_of_mem _ hz)]
    have e : sp1 marks s = [s] := by
      unfold sp1
      rw [if_neg]
      intro z
      have := (h s List.mem_cons_self).2
      unfold isM at this
      rw [this] at z
      cases z
    rw [e]; rfl
theorem tok_word {w : List Nat} (h : Plain w) (hne : w ≠ []) : tokL w = [w] := by
  unfold tokL
  rw [spL_plain h, sp32_free fun z => (h 32 z).1 rfl]
  cases w with
  | nil => exact absurd rfl hne
  | cons s r => rfl
noncomputable def strL (l : List (List Nat)) : List Str := l.map fun w => ⟨w.toArray⟩
theorem sg_strs (l : List (List Nat)) : (strL l).map sg = l := by
  unfold strL
  rw [List.map_map]
  have : (sg ∘ fun w : List Nat => (⟨w.toArray⟩ : Str)) = id := by
    funext w
    show sg ⟨w.toArray⟩ = w
    unfold sg
    simp
  rw [this, List.map_id]
theorem sp32_mem : ∀ {l : List Nat} {w : List Nat}, w ∈ sp32 l → 32 ∉ w
  | [], w, h => by
    rw [sp32] at h
    cases List.mem_singleton.mp h
    simp
  | s :: r, w, h => by
    rw [sp32] at h
    by_cases e : s = 32
    · rw [if_pos e] at h
      rcases List.mem_cons.mp h with rfl | h
      · simp
      · exact sp32_mem h
    · rw [if_neg e] at h
      cases q : sp32 r with
      | nil => exact absurd q (sp32_ne r)
      | cons v vs =>
        rw [q] at h
        have hm : ∀ z ∈ v :: vs, 32 ∉ z := fun z hz => sp32_mem (l := r) (by rw [q]; exact hz)
        rcases List.mem_cons.mp h with rfl | h
        · intro z
          rcases List.mem_cons.mp z with z | z
          · exact e z.symm
          · exact hm v List.mem_cons_self z
        · exact hm w (List.mem_cons_of_mem _ h)
theorem join_sp32 : ∀ l : List Nat, sg (Str.join (Sl.one 32) (strL (sp32 l))) = l
  | [] => rfl
  | s :: r => by
    have ih := join_sp32 r
    rw [sp32]
    cases q : sp32 r with
    | nil => exact absurd q (sp32_ne r)
    | cons v vs =>
      rw [q] at ih
      by_cases e : s = 32
      · rw [if_pos e]
        show sg (Str.join (Sl.one 32) (⟨([] : List Nat).toArray⟩ :: ⟨v.toArray⟩ :: strL vs)) = _
        rw [Sl.sg_join]
        show [] ++ 32 :: sg (Str.join (Sl.one 32) (strL (v :: vs))) = _
        rw [ih, e]; rfl
      · rw [if_neg e]
        cases vs with
        | nil =>
          have h1 : sg (Str.join (Sl.one 32) (strL [v])) = v := by
            show sg ⟨v.toArray⟩ = v
            unfold sg; simp
          rw [h1] at ih
          show sg ⟨(s :: v).toArray⟩ = _
          unfold sg
          simp [ih]
        | cons v2 vs =>
          show sg (Str.join (Sl.one 32) (⟨(s :: v).toArray⟩ :: ⟨v2.toArray⟩ :: strL vs)) = _
          have ih' : sg (Str.join (Sl.one 32) (⟨v.toArray⟩ :: ⟨v2.toArray⟩ :: strL vs)) = r := ih
          rw [Sl.sg_join] at ih' ⊢
          rw [← ih']
          unfold sg
          simp
theorem split_is (x : Str) : (Txt.split x (Sl.one 32)).map sg = sp32 (sg x) := by
  have e : Txt.split x (Sl.one 32) = strL (sp32 (sg x)) := by
    have hj : x = Str.join (Sl.one 32) (strL (sp32 (sg x))) := Sl.sg_ext (join_sp32 (sg x)).symm
    have hn : strL (sp32 (sg x)) ≠ [] := by
      unfold strL
      intro z
      exact sp32_ne _ (List.map_eq_nil_iff.mp z)
    have hf : ∀ w ∈ strL (sp32 (sg x)), 32 ∉ sg w := by
      intro w hw
      obtain ⟨v, hv, rfl⟩ := List.mem_map.mp hw
      have := sp32_mem hv
      unfold sg
      simpa using this
    have := Sl.split_join hn hf
    rw [← hj] at this
    exact this
  rw [e, sg_strs]
theorem flat_free (c : Nat) (z : List Nat) : ∀ {l : List Nat}, c ∉ l → l.flatMap (fun s => if s = c then z else [s]) = l
  | [], _ => rfl
  | s :: l, h => by
    have h1 : s ≠ c := fun e => h (by rw [e]; exact List.mem_cons_self)
    rw [List.flatMap_cons, if_neg h1, flat_free c z fun q => h (List.mem_cons_of_mem _ q)]
    rfl
theorem repl_join (c : Nat) (z : Str) : ∀ parts : List Str, parts ≠ [] → (∀ p ∈ parts, c ∉ sg p) → sg (Str.join z parts) = (sg (Str.join (Sl.one c) parts)).flatMap (fun s => if s = c then sg z else [s])
  | [], h, _ => absurd rfl h
  | [p], _, h => by
    exact (flat_free c (sg z) (h p List.mem_cons_self)).symm
  | p :: q :: r, _, h => by
    have ih := repl_join c z (q :: r) (by simp) fun a ha => h a (List.mem_cons_of_mem _ ha)
    have e1 : sg (Str.join z (p :: q :: r)) = sg p ++ sg z ++ sg (Str.join z (q :: r)) := by
      show sg (p ++ z ++ Str.join z (q :: r)) = _
      rw [Sl.sg_app, Sl.sg_app]
    rw [e1, Sl.sg_join, List.flatMap_append, List.flatMap_cons, if_pos rfl, ← ih, flat_free c (sg z) (h p List.mem_cons_self)]
    simp
theorem repl_sg (x z : Str) (c : Nat) : sg (Txt.replace x (Sl.one c) z) = (sg x).flatMap (fun s => if s = c then sg z else [s]) := by
  have e := repl_join c z (Txt.split x (Sl.one c)) (by
    intro q
    have := StrLaws.join_split x (Sl.one c)
    have h0 : (Txt.split x (Sl.one c)).length ≠ 0 := by
      have := PyProof.Rows.split_pos x (Sl.one c)
      omega
    rw [q] at h0
    exact h0 rfl) (StrLaws.split_free x c)
  rw [StrLaws.join_split] at e
  have r1 : Txt.replace x (Sl.one c) z = Str.join z (Txt.split x (Sl.one c)) := StrLaws.replace_one x z c
  rw [r1]
  exact e
theorem sp1_step {cs : List Nat} {c : Nat} (h1 : c ∉ cs) (h2 : c ≠ 32) (s : Nat) : (sp1 cs s).flatMap (fun s => if s = c then [32, c, 32] else [s]) = sp1 (cs ++ [c]) s := by
  unfold sp1
  by_cases h : cs.contains s = true
  · have hs : s ≠ c := by
      rintro rfl
      exact h1 (by simpa using h)
    have h' : (cs ++ [c]).contains s = true := by simp at h ⊢; exact Or.inl h
    rw [if_pos h, if_pos h']
    simp [hs, Ne.symm h2]
  · by_cases e : s = c
    · subst e
      have h' : (cs ++ [s]).contains s = true := by simp
      rw [if_neg h, if_pos h']
      simp
    · have h' : ¬ (cs ++ [c]).contains s = true := by
        simp at h ⊢
        exact ⟨h, e⟩
      rw [if_neg h, if_neg h']
      simp [e]
theorem sp_fold (l : List Nat) : ∀ (cs : List Nat), cs.Nodup → 32 ∉ cs → cs.foldl (fun a c => a.flatMap fun s => if s = c then [32, c, 32] else [s]) l = l.flatMap (sp1 cs) := by
  have key : ∀ (cs done : List Nat), (done ++ cs).Nodup → 32 ∉ cs → cs.foldl (fun a c => a.flatMap fun s => if s = c then [32, c, 32] else [s]) (l.flatMap (sp1 done)) = l.flatMap (sp1 (done ++ cs)) := by
    intro cs
    induction cs with
    | nil => intro done _ _; simp
    | cons c cs ih =>
      intro done nd h32
      have hc : c ∉ done := by
        intro z
        exact (List.nodup_append.mp nd).2.2 c z c List.mem_cons_self rfl
      have hne : c ≠ 32 := fun e => h32 (by rw [e]; exact List.mem_cons_self)
      rw [List.foldl_cons, List.flatMap_assoc]
      have e : (fun x => (sp1 done x).flatMap fun s => if s = c then [32, c, 32] else [s]) = sp1 (done ++ [c]) := by
        funext s
        exact sp1_step hc hne s
      rw [e, ih (done ++ [c]) (by simpa using nd) fun z => h32 (List.mem_cons_of_mem _ z)]
      simp
  intro cs nd h
  have := key cs [] (by simpa using nd) h
  have e0 : l.flatMap (sp1 []) = l := by
    have : sp1 [] = fun s => [s] := by funext s; rfl
    rw [this]; simp
  rw [e0] at this
  simpa using this
theorem sp1_len (cs : List Nat) (l : List Nat) : (l.flatMap (sp1 cs)).length ≤ 3 * l.length := by
  induction l with
  | nil => simp
  | cons s l ih =>
    rw [List.flatMap_cons, List.length_append, List.length_cons]
    have : (sp1 cs s).length ≤ 3 := by unfold sp1; split <;> simp
    omega
mutual
noncomputable def tk : T → List Str
  | .word x => [x]
  | .bundle h ps => h :: ("(" : Str) :: (tks ps ++ [(")" : Str)])
  | .run ws => ("[" : Str) :: (ws ++ [("]" : Str)])
  | .tag w t => w :: (":" : Str) :: tk t
noncomputable def tks : List T → List Str
  | [] => []
  | [p] => tk p
  | p :: q :: r => tk p ++ ("," : Str) :: tks (q :: r)
end
noncomputable def WordOk (x : Str) : Prop := Plain (sg x) ∧ sg x ≠ []
mutual
noncomputable def Ok : T → Prop
  | .word x => WordOk x
  | .bundle h ps => WordOk h ∧ Oks ps
  | .run ws => ∀ w ∈ ws, WordOk w
  | .tag w t => WordOk w ∧ Ok t
noncomputable def Oks : List T → Prop
  | [] => True
  | p :: r => Ok p ∧ Oks r
end
theorem tok_wordS {x : Str} (h : WordOk x) : tokL (sg x) = [sg x] := tok_word h.1 h.2
theorem tok_blank1 (b : List Nat) : tokL (32 :: b) = tokL b := by
  have := tok_blank [] b
  rw [tok_nil] at this
  simpa using this
theorem tok_wordC {x : Str} {m : Nat} (h : WordOk x) (hm : isM m = true) (b : List Nat) : tokL (sg x ++ m :: b) = sg x :: [m] :: tokL b := by
  rw [tok_mark hm, tok_wordS h]; rfl
theorem join_sg (sep : Str) (p q : Str) (r : List Str) : sg (Str.join sep (p :: q :: r)) = sg p ++ sg sep ++ sg (Str.join sep (q :: r)) := by
  show sg (p ++ sep ++ Str.join sep (q :: r)) = _
  rw [Sl.sg_app, Sl.sg_app]
theorem tok_words : ∀ {ws : List Str}, (∀ w ∈ ws, WordOk w) → tokL (sg (Str.join (" " : Str) ws)) = ws.map sg
  | [], _ => by
    show tokL (sg (Str.join (" " : Str) [])) = []
    exact tok_nil
  | [w], h => tok_wordS (h w List.mem_cons_self)
  | w :: v :: r, h => by
    have ih := tok_words (ws := v :: r) fun x hx => h x (List.mem_cons_of_mem _ hx)
    rw [join_sg]
    show tokL (sg w ++ [32] ++ sg (Str.join (" " : Str) (v :: r))) = _
    rw [List.append_assoc, List.singleton_append, tok_blank, ih, tok_wordS (h w List.mem_cons_self)]
    rfl
mutual
theorem tok_flat : ∀ {t : T}, Ok t → tokL (sg (Th.flat t)) = (tk t).map sg
  | .word x, h => tok_wordS h
  | .tag w t, h => by
    have ih := tok_flat (t := t) h.2
    rw [Th.flat, tk, Sl.sg_app, Sl.sg_app]
    show tokL (sg w ++ [58, 32] ++ sg (Th.flat t)) = sg w :: [58] :: (tk t).map sg
    rw [List.append_assoc]
    show tokL (sg w ++ 58 :: 32 :: sg (Th.flat t)) = _
    rw [tok_wordC h.1 (by decide), tok_blank1, ih]
  | .run ws, h => by
    rw [Th.flat, tk, Sl.sg_app, Sl.sg_app]
    show tokL ([] ++ 91 :: (sg (Str.join (" " : Str) ws) ++ [93])) = [91] :: (ws ++ [("]" : Str)]).map sg
    rw [tok_mark (by decide), tok_mark (by decide), tok_words h, tok_nil, List.map_append]
    rfl
  | .bundle hd ps, h => by
    have ih := tok_flats (ts := ps) h.2
    rw [Th.flat, tk, Sl.sg_app, Sl.sg_app, Sl.sg_app]
    show tokL (sg hd ++ [40] ++ sg (Str.join (", " : Str) (Th.flats ps)) ++ [41]) = sg hd :: [40] :: (tks ps ++ [(")" : Str)]).map sg
    rw [List.append_assoc, List.append_assoc]
    show tokL (sg hd ++ 40 :: (sg (Str.join (", " : Str) (Th.flats ps)) ++ [41])) = _
    rw [tok_wordC h.1 (by decide), tok_mark (by decide), ih, tok_nil, List.map_append]
    rfl
theorem tok_flats : ∀ {ts : List T}, Oks ts → tokL (sg (Str.join (", " : Str) (Th.flats ts))) = (tks ts).map sg
  | [], _ => by
    show tokL (sg (Str.join (", " : Str) [])) = []
    exact tok_nil
  | [p], h => by
    show tokL (sg (Th.flat p)) = _
    rw [tks]
    exact tok_flat h.1
  | p :: q :: r, h => by
    have ih := tok_flats (ts := q :: r) h.2
    have h1 := tok_flat (t := p) h.1
    show tokL (sg (Str.join (", " : Str) (Th.flat p :: Th.flat q :: Th.flats r))) = _
    rw [join_sg, tks]
    show tokL (sg (Th.flat p) ++ [44, 32] ++ sg (Str.join (", " : Str) (Th.flats (q :: r)))) = _
    rw [List.append_assoc]
    show tokL (sg (Th.flat p) ++ 44 :: 32 :: sg (Str.join (", " : Str) (Th.flats (q :: r)))) = _
    rw [tok_mark (by decide), tok_blank1, ih, h1, List.map_append]
    rfl
end
noncomputable def tokR (rows : List Str) : List (List Nat) := rows.flatMap fun r => tokL (sg r)
theorem tokR_app (a b : List Str) : tokR (a ++ b) = tokR a ++ tokR b := by unfold tokR; rw [List.flatMap_append]
theorem tokR_cons (a : Str) (b : List Str) : tokR (a :: b) = tokL (sg a) ++ tokR b := by unfold tokR; rw [List.flatMap_cons]
theorem tokR_one (a : Str) : tokR [a] = tokL (sg a) := by rw [tokR_cons]; show _ ++ [] = _; simp
noncomputable def Cut (l : List Nat) : Prop := ∀ b, tokL (l ++ b) = tokL l ++ tokL b
noncomputable def Tail (l : List Nat) : Prop := ∀ a, tokL (a ++ l) = tokL a ++ tokL l
theorem cut_nil : Cut [] := fun b => by rw [tok_nil]; rfl
theorem tail_nil : Tail [] := fun a => by rw [tok_nil]; simp
theorem tail_comma : Tail [44] := fun a => by
  rw [tok_mark (by decide), tok_nil]
  rfl
theorem cut_lead {l w : List Nat} : Cut (l ++ w ++ [58, 32]) := fun b => by
  have e1 : l ++ w ++ [58, 32] ++ b = (l ++ w) ++ 58 :: 32 :: b := by simp
  have e2 : l ++ w ++ [58, 32] = (l ++ w) ++ 58 :: 32 :: [] := by simp
  rw [e1, e2, tok_mark (by decide), tok_mark (by decide), tok_blank1, tok_blank1, tok_nil]
  simp
theorem tok_pad (i : Nat) (b : List Nat) : tokL (sg (Ly.pad i) ++ b) = tokL b := by
  have e : sg (Ly.pad i) = List.replicate i 32 := by
    unfold sg Ly.pad
    simp
  rw [e]
  induction i with
  | zero => rfl
  | succ n ih => rw [List.replicate_succ, List.cons_append, tok_blank1]; exact ih (by unfold sg Ly.pad; simp)
theorem tok_row {i : Nat} {lead tail : Str} {x : List Nat} (hl : Cut (sg lead)) (ht : Tail (sg tail)) : tokL (sg (Ly.pad i) ++ sg lead ++ x ++ sg tail) = tokL (sg lead) ++ tokL x ++ tokL (sg tail) := by
  rw [ht, List.append_assoc, tok_pad, hl]
theorem tok_flatRow {t : T} {i : Nat} {lead tail : Str} (h : Ok t) (hl : Cut (sg lead)) (ht : Tail (sg tail)) : tokR [Ly.flatRow t i lead tail] = tokL (sg lead) ++ (tk t).map sg ++ tokL (sg tail) := by
  rw [tokR_one]
  unfold Ly.flatRow
  rw [Sl.sg_app, Sl.sg_app, Sl.sg_app, tok_row hl ht, tok_flat h]
theorem tok_groups {i : Nat} : ∀ {gs : List (List Str)}, (∀ g ∈ gs, ∀ w ∈ g, WordOk w) → tokR (gs.map (Ly.wordRow i)) = gs.flatten.map sg
  | [], _ => rfl
  | g :: gs, h => by
    rw [List.map_cons, tokR_cons, tok_groups fun a ha => h a (List.mem_cons_of_mem _ ha), List.flatten_cons, List.map_append]
    congr 1
    unfold Ly.wordRow
    rw [Sl.sg_app, Sl.sg_app, List.append_assoc, tok_pad]
    show tokL (32 :: 32 :: sg (Str.join (" " : Str) g)) = _
    rw [tok_blank1, tok_blank1, tok_words (h g List.mem_cons_self)]
theorem tok_any2 : (∀ {t : T} {i : Nat} {lead tail : Str} {rows : List Str}, Ly.Any t i lead tail rows → Ok t → Cut (sg lead) → Tail (sg tail) → tokR rows = tokL (sg lead) ++ (tk t).map sg ++ tokL (sg tail)) ∧
    ∀ {ts : List T} {i : Nat} {rows : List Str}, Ly.Anys ts i rows → Oks ts → tokR rows = (tks ts).map sg := by
  refine Ly.any_ind (M := fun t _ lead tail rows => Ok t → Cut (sg lead) → Tail (sg tail) → tokR rows = tokL (sg lead) ++ (tk t).map sg ++ tokL (sg tail)) (N := fun ts _ rows => Oks ts → tokR rows = (tks ts).map sg) ?_ ?_ ?_ ?_ ?_ ?_ ?_ ?_
  · intro w t i lead tail rows h ho hl ht
    have e : sg (lead ++ w ++ ": ") = sg lead ++ sg w ++ [58, 32] := by rw [Sl.sg_app, Sl.sg_app]; rfl
    have ih := h ho.2 (by rw [e]; exact cut_lead) ht
    have e2 : sg lead ++ sg w ++ [58, 32] = sg lead ++ (sg w ++ 58 :: 32 :: []) := by simp
    rw [ih, e, e2, hl, tok_wordC ho.1 (by decide), tok_blank1, tok_nil, tk]
    simp
    rfl
  · intro x i lead tail ho hl ht
    exact tok_flatRow ho hl ht
  · intro ws i lead tail ho hl ht
    exact tok_flatRow ho hl ht
  · intro hd ps i lead tail ho hl ht
    exact tok_flatRow ho hl ht
  · intro ws i lead tail gs _ hf _ ho hl ht
    have h1 : ∀ g ∈ gs, ∀ w ∈ g, WordOk w := fun g hg w hw => ho w (by rw [← hf]; exact List.mem_flatten.mpr ⟨g, hg, hw⟩)
    rw [tokR_cons, tokR_app, tokR_one, tok_groups h1, hf, tk]
    have e1 : tokL (sg (Ly.pad i ++ lead ++ "[")) = tokL (sg lead) ++ [[91]] := by
      rw [Sl.sg_app, Sl.sg_app, List.append_assoc, tok_pad, hl]
      rfl
    have e2 : tokL (sg (Ly.pad i ++ "]" ++ tail)) = [93] :: tokL (sg tail) := by
      rw [Sl.sg_app, Sl.sg_app, List.append_assoc, tok_pad]
      show tokL ([] ++ 93 :: sg tail) = _
      rw [tok_mark (by decide), tok_nil]
      rfl
    rw [e1, e2]
    simp
    exact ⟨rfl, rfl⟩
  · intro hd ps i lead tail rows _ h ho hl ht
    have ih := h ho.2
    rw [tokR_cons, tokR_app, tokR_one, ih, tk]
    have e1 : tokL (sg (Ly.pad i ++ lead ++ hd ++ "(")) = tokL (sg lead) ++ [sg hd, [40]] := by
      rw [Sl.sg_app, Sl.sg_app, Sl.sg_app, List.append_assoc, List.append_assoc, tok_pad, hl]
      show _ ++ tokL (sg hd ++ 40 :: []) = _
      rw [tok_wordC ho.1 (by decide), tok_nil]
    have e2 : tokL (sg (Ly.pad i ++ ")" ++ tail)) = [41] :: tokL (sg tail) := by
      rw [Sl.sg_app, Sl.sg_app, List.append_assoc, tok_pad]
      show tokL ([] ++ 41 :: sg tail) = _
      rw [tok_mark (by decide), tok_nil]
      rfl
    rw [e1, e2]
    simp
    exact ⟨rfl, rfl⟩
  · intro i _
    rfl
  · intro t r i rows rows' _ h hs ho
    have ih := hs ho.2
    rw [tokR_app, ih]
    cases r with
    | nil =>
      have := h ho.1 cut_nil tail_nil
      rw [this, tks, tks]
      show ([] ++ (tk t).map sg ++ tokL []) ++ [] = _
      rw [tok_nil]
      simp
    | cons q r =>
      have := h ho.1 cut_nil tail_comma
      rw [this, tks]
      show (tokL [] ++ (tk t).map sg ++ tokL [44]) ++ _ = _
      have e : tokL [44] = [[44]] := by decide
      rw [tok_nil, e, List.map_append]
      simp
      rfl
theorem tok_any {t : T} {i : Nat} {lead tail : Str} {rows : List Str} (h : Ly.Any t i lead tail rows) : Ok t → Cut (sg lead) → Tail (sg tail) → tokR rows = tokL (sg lead) ++ (tk t).map sg ++ tokL (sg tail) := tok_any2.1 h
inductive Fr where
  | tag (w : Str)
  | bun (w : Str) (ps : List T)
noncomputable def runM (isW : Str → Bool) : List Str → Option (List Str × List Str)
  | [] => none
  | x :: r => if x = ("]" : Str) then some ([], r) else if isW x = true then (runM isW r).map fun p => (x :: p.1, p.2) else none
inductive Bg where
  | thing (t : T) (r : List Str)
  | open_ (f : Fr) (r : List Str)
noncomputable def beginM (isW : Str → Bool) : List Str → Option Bg
  | [] => none
  | x :: r => if x = ("[" : Str) then (runM isW r).map fun p => .thing (.run p.1) p.2
    else if isW x = true then (match r with
      | [] => some (.thing (.word x) [])
      | y :: r' => if y = (":" : Str) then some (.open_ (.tag x) r') else if y = ("(" : Str) then (match r' with
          | [] => some (.open_ (.bun x []) [])
          | z :: r'' => if z = (")" : Str) then some (.thing (.bundle x []) r'') else some (.open_ (.bun x []) (z :: r'')))
        else some (.thing (.word x) (y :: r')))
    else none
theorem beginM_eq (isW : Str → Bool) (x : Str) (r : List Str) : beginM isW (x :: r) = (if x = ("[" : Str) then (runM isW r).map fun p => .thing (.run p.1) p.2
    else if isW x = true then (match r with
      | [] => some (.thing (.word x) [])
      | y :: r' => if y = (":" : Str) then some (.open_ (.tag x) r') else if y = ("(" : Str) then (match r' with
          | [] => some (.open_ (.bun x []) [])
          | z :: r'' => if z = (")" : Str) then some (.thing (.bundle x []) r'') else some (.open_ (.bun x []) (z :: r'')))
        else some (.thing (.word x) (y :: r')))
    else none) := by
  cases r with
  | nil => rfl
  | cons y r' => cases r' <;> rfl
noncomputable def handM (t : T) : Fr → List Str → Option Bg
  | .tag w, r => some (.thing (.tag w t) r)
  | .bun w ps, [] => none
  | .bun w ps, x :: r => if x = ("," : Str) then some (.open_ (.bun w (ps ++ [t])) r) else if x = (")" : Str) then some (.thing (.bundle w (ps ++ [t])) r) else none
noncomputable def go (isW : Str → Bool) : Nat → List Str → List Fr → Option T → Option (T × List Str)
  | _, r, [], some t => some (t, r)
  | 0, _, _, _ => none
  | n + 1, r, st, none => match beginM isW r with
    | none => none
    | some (.thing t r') => go isW n r' st (some t)
    | some (.open_ f r') => go isW n r' (f :: st) none
  | n + 1, r, f :: st, some t => match handM t f r with
    | none => none
    | some (.thing t' r') => go isW n r' st (some t')
    | some (.open_ f' r') => go isW n r' (f' :: st) none
noncomputable def parse (isW : Str → Bool) (toks : List Str) : Option T := match go isW (toks.length + 1) toks [] none with
  | some (t, []) => some t
  | _ => none
section
variable {isW : Str → Bool}
theorem runM_len : ∀ {l : List Str} {ws r : List Str}, runM isW l = some (ws, r) → r.length + ws.length + 1 = l.length
  | [], ws, r, h => by cases h
  | x :: l, ws, r, h => by
    rw [runM] at h
    split at h
    · cases h; simp
    · split at h
      · cases q : runM isW l with
        | none => rw [q] at h; cases h
        | some p =>
          rw [q] at h
          cases h
          have := runM_len (ws := p.1) (r := p.2) (by rw [q])
          simp only [List.length_cons]
          omega
      · cases h
structure Wf (isW : Str → Bool) : Prop where
  no : ∀ x, isW x = true → x ≠ "[" ∧ x ≠ "]" ∧ x ≠ "(" ∧ x ≠ ")" ∧ x ≠ "," ∧ x ≠ ":"
mutual
noncomputable def Al (isW : Str → Bool) : T → Prop
  | .word x => isW x = true
  | .bundle h ps => isW h = true ∧ Als isW ps
  | .run ws => ∀ w ∈ ws, isW w = true
  | .tag w t => isW w = true ∧ Al isW t
noncomputable def Als (isW : Str → Bool) : List T → Prop
  | [] => True
  | p :: r => Al isW p ∧ Als isW r
end
theorem runM_tk (wf : Wf isW) : ∀ {ws : List Str} (r : List Str), (∀ w ∈ ws, isW w = true) → runM isW (ws ++ ("]" : Str) :: r) = some (ws, r)
  | [], r, _ => by rw [List.nil_append, runM, if_pos rfl]
  | w :: ws, r, h => by
    have hw := h w List.mem_cons_self
    rw [List.cons_append, runM, if_neg (wf.no w hw).2.1, if_pos hw, runM_tk wf r fun x hx => h x (List.mem_cons_of_mem _ hx)]
    rfl
noncomputable def Behind (r : List Str) : Prop := ∀ x l, r = x :: l → x ≠ ("(" : Str) ∧ x ≠ (":" : Str)
theorem behind_nil : Behind [] := fun x l e => nomatch e
theorem behind_comma (r : List Str) : Behind (("," : Str) :: r) := fun x l e => by cases e; decide
theorem behind_end (r : List Str) : Behind ((")" : Str) :: r) := fun x l e => by cases e; decide
theorem tk_first (wf : Wf isW) : ∀ {t : T}, Al isW t → ∀ l, ∃ x r, tk t ++ l = x :: r ∧ x ≠ (")" : Str)
  | .word x, h, l => ⟨x, l, by rw [tk]; rfl, (wf.no x h).2.2.2.1⟩
  | .bundle hd ps, h, l => ⟨hd, _, by rw [tk]; rfl, (wf.no hd h.1).2.2.2.1⟩
  | .run ws, h, l => ⟨"[", _, by rw [tk]; rfl, by decide⟩
  | .tag w t, h, l => ⟨w, _, by rw [tk]; rfl, (wf.no w h.1).2.2.2.1⟩
theorem tks_first (wf : Wf isW) {p : T} {ps : List T} (h : Al isW p) (r : List Str) : ∃ x l, tks (p :: ps) ++ (")" : Str) :: r = x :: l ∧ x ≠ (")" : Str) := by
  cases ps with
  | nil => rw [tks]; exact tk_first wf h _
  | cons q ps =>
    rw [tks, List.append_assoc]
    exact tk_first wf h _
mutual
theorem go_tk (wf : Wf isW) : ∀ {t : T}, Al isW t → ∀ (r : List Str), Behind r → ∃ k, k ≤ (tk t).length ∧ ∀ (n : Nat) (st : List Fr), go isW (k + n) (tk t ++ r) st none = go isW n r st (some t)
  | .word x, h, r, hb => by
    refine ⟨1, by rw [tk]; simp, fun n st => ?_⟩
    have h' : isW x = true := h
    have hx := wf.no x h'
    rw [tk, Nat.add_comm]
    show go isW (n + 1) (x :: r) st none = _
    rw [go, beginM_eq, if_neg hx.1, if_pos h']
    cases r with
    | nil => rfl
    | cons y l =>
      obtain ⟨h1, h2⟩ := hb y l rfl
      simp only [if_neg h2, if_neg h1]
  | .run ws, h, r, hb => by
    refine ⟨1, by rw [tk]; simp, fun n st => ?_⟩
    rw [tk, Nat.add_comm]
    show go isW (n + 1) (("[" : Str) :: (ws ++ [("]" : Str)] ++ r)) st none = _
    rw [go, beginM_eq, if_pos rfl, List.append_assoc]
    show (match (runM isW (ws ++ ("]" : Str) :: r)).map (fun p => Bg.thing (.run p.1) p.2) with | none => _ | some (.thing t r') => _ | some (.open_ f r') => _) = _
    rw [runM_tk wf r h]
    rfl
  | .tag w t, h, r, hb => by
    obtain ⟨k, hk, ih⟩ := go_tk wf (t := t) h.2 r hb
    refine ⟨k + 2, by rw [tk]; simp only [List.length_cons]; omega, fun n st => ?_⟩
    have e : k + 2 + n = (k + (n + 1)) + 1 := by omega
    rw [e, tk]
    show go isW (k + (n + 1) + 1) (w :: (":" : Str) :: (tk t ++ r)) st none = _
    rw [go, beginM_eq, if_neg (wf.no w h.1).1, if_pos h.1]
    simp only [if_true]
    rw [ih (n + 1) (.tag w :: st), go]
    rfl
  | .bundle hd [], h, r, hb => by
    refine ⟨1, by rw [tk]; simp, fun n st => ?_⟩
    rw [tk, tks, Nat.add_comm]
    show go isW (n + 1) (hd :: ("(" : Str) :: (")" : Str) :: r) st none = _
    rw [go, beginM_eq, if_neg (wf.no hd h.1).1, if_pos h.1]
    have e1 : ¬ ("(" : Str) = (":" : Str) := by decide
    simp only [if_neg e1, if_true]
  | .bundle hd (p :: ps), h, r, hb => by
    obtain ⟨k, hk, ih⟩ := go_tks wf (ts := p :: ps) (by simp) h.2 hd [] r
    refine ⟨k + 1, by rw [tk]; simp only [List.length_cons, List.length_append, List.length_nil]; omega, fun n st => ?_⟩
    have e : k + 1 + n = (k + n) + 1 := by omega
    rw [e, tk]
    have e0 : hd :: ("(" : Str) :: (tks (p :: ps) ++ [(")" : Str)]) ++ r = hd :: ("(" : Str) :: (tks (p :: ps) ++ (")" : Str) :: r) := by simp
    rw [e0, go, beginM_eq, if_neg (wf.no hd h.1).1, if_pos h.1]
    have e1 : ¬ ("(" : Str) = (":" : Str) := by decide
    obtain ⟨x, l, ex, hx⟩ := tks_first wf (p := p) (ps := ps) h.2.1 r
    have ih' := ih n st
    rw [ex] at ih' ⊢
    simp only [if_neg e1, if_true, if_neg hx]
    exact ih'
theorem go_tks (wf : Wf isW) : ∀ {ts : List T}, ts ≠ [] → Als isW ts → ∀ (hd : Str) (done : List T) (r : List Str), ∃ k, k ≤ (tks ts).length + 1 ∧
    ∀ (n : Nat) (st : List Fr), go isW (k + n) (tks ts ++ (")" : Str) :: r) (.bun hd done :: st) none = go isW n r st (some (.bundle hd (done ++ ts)))
  | [], h0, h, hd, done, r => absurd rfl h0
  | [p], _, h, hd, done, r => by
    obtain ⟨k, hk, ih⟩ := go_tk wf (t := p) h.1 ((")" : Str) :: r) (behind_end r)
    refine ⟨k + 1, by rw [tks]; omega, fun n st => ?_⟩
    have e : k + 1 + n = k + (n + 1) := by omega
    rw [e, tks, ih (n + 1) (.bun hd done :: st), go, handM]
    have e1 : ¬ (")" : Str) = ("," : Str) := by decide
    simp only [if_neg e1, if_true]
  | p :: q :: ps, _, h, hd, done, r => by
    obtain ⟨k2, hk2, ih2⟩ := go_tks wf (ts := q :: ps) (by simp) h.2 hd (done ++ [p]) r
    obtain ⟨k, hk, ih⟩ := go_tk wf (t := p) h.1 (("," : Str) :: (tks (q :: ps) ++ (")" : Str) :: r)) (behind_comma _)
    refine ⟨k + (1 + k2), by rw [tks]; simp only [List.length_append, List.length_cons]; omega, fun n st => ?_⟩
    have e : k + (1 + k2) + n = k + ((k2 + n) + 1) := by omega
    rw [e, tks, List.append_assoc]
    show go isW (k + ((k2 + n) + 1)) (tk p ++ ("," : Str) :: (tks (q :: ps) ++ (")" : Str) :: r)) (.bun hd done :: st) none = _
    rw [ih ((k2 + n) + 1) (.bun hd done :: st), go, handM, if_pos rfl]
    show go isW (k2 + n) (tks (q :: ps) ++ (")" : Str) :: r) (.bun hd (done ++ [p]) :: st) none = _
    rw [ih2 n st]
    simp
end
theorem parse_tk (wf : Wf isW) {t : T} (h : Al isW t) : parse isW (tk t) = some t := by
  obtain ⟨k, hk, ih⟩ := go_tk wf h [] behind_nil
  have e := ih ((tk t).length + 1 - k) []
  rw [List.append_nil, show k + ((tk t).length + 1 - k) = (tk t).length + 1 by omega] at e
  unfold parse
  rw [e]
  have e2 : ∀ m, go isW m [] [] (some t) = some (t, []) := fun m => by cases m <;> rfl
  rw [e2]
end
end Rd
set_option Elab.async false
set_option autoImplicit false
set_option linter.all false
namespace Rd
open PySem
open Th (T)
noncomputable def frT : Fr → List Str
  | .tag w => [w, (":" : Str)]
  | .bun w ds => w :: ("(" : Str) :: ds.flatMap fun t => tk t ++ [("," : Str)]
noncomputable def pre : List Fr → List Str
  | [] => []
  | f :: st => pre st ++ frT f
noncomputable def oT : Option T → List Str
  | none => []
  | some t => tk t
section
variable {isW : Str → Bool}
noncomputable def AlF (isW : Str → Bool) : Fr → Prop
  | .tag w => isW w = true
  | .bun w ds => isW w = true ∧ Als isW ds
noncomputable def AlO (isW : Str → Bool) : Option T → Prop
  | none => True
  | some t => Al isW t
theorem als_snoc : ∀ {ds : List T} {t : T}, Als isW ds → Al isW t → Als isW (ds ++ [t])
  | [], t, _, h => by rw [List.nil_append, Als, Als]; exact ⟨h, True.intro⟩
  | d :: ds, t, a, h => by
    rw [Als] at a
    rw [List.cons_append, Als]
    exact ⟨a.1, als_snoc a.2 h⟩
theorem tks_snoc : ∀ (ds : List T) (t : T), tks (ds ++ [t]) = (ds.flatMap fun t => tk t ++ [("," : Str)]) ++ tk t
  | [], t => by rw [List.nil_append, tks]; rfl
  | [d], t => by
    rw [List.singleton_append, tks, tks]
    simp
  | d :: e :: ds, t => by
    have := tks_snoc (e :: ds) t
    rw [List.cons_append] at this
    rw [List.cons_append, List.cons_append, tks, this, List.flatMap_cons]
    simp
theorem runM_sound : ∀ {l ws r : List Str}, runM isW l = some (ws, r) → l = ws ++ ("]" : Str) :: r ∧ ∀ w ∈ ws, isW w = true
  | [], ws, r, h => by cases h
  | x :: l, ws, r, h => by
    rw [runM] at h
    by_cases h1 : x = ("]" : Str)
    · rw [if_pos h1] at h
      cases h
      exact ⟨by rw [h1]; rfl, fun w hw => nomatch hw⟩
    · rw [if_neg h1] at h
      by_cases h2 : isW x = true
      · rw [if_pos h2] at h
        cases q : runM isW l with
        | none => rw [q] at h; cases h
        | some p =>
          rw [q] at h
          cases h
          obtain ⟨e, hw⟩ := runM_sound (l := l) (ws := p.1) (r := p.2) (by rw [q])
          refine ⟨by rw [List.cons_append, ← e], fun w hw' => ?_⟩
          rcases List.mem_cons.mp hw' with z | z
          · rw [z]; exact h2
          · exact hw w z
      · rw [if_neg h2] at h; cases h
theorem begin_sound {l : List Str} : (∀ t r, beginM isW l = some (.thing t r) → l = tk t ++ r ∧ Al isW t) ∧ (∀ f r, beginM isW l = some (.open_ f r) → l = frT f ++ r ∧ AlF isW f) := by
  cases l with
  | nil => exact ⟨fun t r h => (by cases h), fun f r h => (by cases h)⟩
  | cons x r0 =>
    rw [beginM_eq]
    by_cases h1 : x = ("[" : Str)
    · rw [if_pos h1]
      cases q : runM isW r0 with
      | none => exact ⟨fun t r h => (by cases h), fun f r h => (by cases h)⟩
      | some p =>
        obtain ⟨e, hw⟩ := runM_sound (l := r0) (ws := p.1) (r := p.2) (by rw [q])
        refine ⟨fun t r h => ?_, fun f r h => (by cases h)⟩
        cases h
        exact ⟨by rw [tk, h1, e]; simp, by rw [Al]; exact hw⟩
    · rw [if_neg h1]
      by_cases h2 : isW x = true
      · rw [if_pos h2]
        cases r0 with
        | nil =>
          refine ⟨fun t r h => ?_, fun f r h => (by cases h)⟩
          cases h
          exact ⟨by rw [tk]; rfl, by rw [Al]; exact h2⟩
        | cons y r1 =>
          by_cases h3 : y = (":" : Str)
          · simp only [if_pos h3]
            refine ⟨fun t r h => (by cases h), fun f r h => ?_⟩
            cases h
            exact ⟨by rw [h3]; rfl, h2⟩
          · by_cases h4 : y = ("(" : Str)
            · cases r1 with
              | nil =>
                simp only [if_neg h3, if_pos h4]
                refine ⟨fun t r h => (by cases h), fun f r h => ?_⟩
                cases h
                exact ⟨by rw [h4]; rfl, h2, by rw [Als]; trivial⟩
              | cons z r2 =>
                by_cases h5 : z = (")" : Str)
                · simp only [if_neg h3, if_pos h4, if_pos h5]
                  refine ⟨fun t r h => ?_, fun f r h => (by cases h)⟩
                  cases h
                  exact ⟨by rw [tk, tks, h4, h5]; rfl, by rw [Al, Als]; exact ⟨h2, True.intro⟩⟩
                · simp only [if_neg h3, if_pos h4, if_neg h5]
                  refine ⟨fun t r h => (by cases h), fun f r h => ?_⟩
                  cases h
                  exact ⟨by rw [h4]; rfl, h2, by rw [Als]; trivial⟩
            · simp only [if_neg h3, if_neg h4]
              refine ⟨fun t r h => ?_, fun f r h => (by cases h)⟩
              cases h
              exact ⟨by rw [tk]; rfl, by rw [Al]; exact h2⟩
      · rw [if_neg h2]
        exact ⟨fun t r h => (by cases h), fun f r h => (by cases h)⟩
theorem hand_sound {t : T} {f : Fr} {l : List Str} (hf : AlF isW f) (ht : Al isW t) : (∀ t' r, handM t f l = some (.thing t' r) → frT f ++ tk t ++ l = tk t' ++ r ∧ Al isW t') ∧ (∀ f' r, handM t f l = some (.open_ f' r) → frT f ++ tk t ++ l = frT f' ++ r ∧ AlF isW f') := by
  cases f with
  | tag w =>
    refine ⟨fun t' r h => ?_, fun f' r h => (by cases h)⟩
    cases h
    exact ⟨by rw [tk]; rfl, by rw [Al]; exact ⟨hf, ht⟩⟩
  | bun w ds =>
    cases l with
    | nil => exact ⟨fun t r h => (by cases h), fun f r h => (by cases h)⟩
    | cons x r0 =>
      rw [handM]
      by_cases h1 : x = ("," : Str)
      · rw [if_pos h1]
        refine ⟨fun t' r h => (by cases h), fun f' r h => ?_⟩
        cases h
        refine ⟨?_, hf.1, als_snoc hf.2 ht⟩
        rw [frT, frT, List.flatMap_append, h1]
        simp
      · rw [if_neg h1]
        by_cases h2 : x = (")" : Str)
        · rw [if_pos h2]
          refine ⟨fun t' r h => ?_, fun f' r h => (by cases h)⟩
          cases h
          refine ⟨?_, by rw [Al]; exact ⟨hf.1, als_snoc hf.2 ht⟩⟩
          rw [frT, tk, tks_snoc, h2]
          simp
        · rw [if_neg h2]
          exact ⟨fun t r h => (by cases h), fun f r h => (by cases h)⟩
theorem go_sound : ∀ (n : Nat) (toks : List Str) (st : List Fr) (th : Option T) (t : T) (r : List Str), go isW n toks st th = some (t, r) → (∀ f ∈ st, AlF isW f) → AlO isW th → pre st ++ oT th ++ toks = tk t ++ r ∧ Al isW t
  | n, toks, [], some t0, t, r, h, _, ho => by
    have e : go isW n toks [] (some t0) = some (t0, toks) := by cases n <;> rfl
    rw [e] at h
    cases h
    exact ⟨by rw [pre, oT]; rfl, ho⟩
  | 0, toks, f :: st, some t0, t, r, h, _, _ => by cases h
  | 0, toks, st, none, t, r, h, _, _ => by cases st <;> cases h
  | n + 1, toks, st, none, t, r, h, hs, _ => by
    rw [go] at h
    obtain ⟨b1, b2⟩ := begin_sound (isW := isW) (l := toks)
    cases q : beginM isW toks with
    | none => rw [q] at h; cases h
    | some b =>
      rw [q] at h
      cases b with
      | thing t1 r1 =>
        obtain ⟨e, a⟩ := b1 t1 r1 q
        obtain ⟨e2, a2⟩ := go_sound n r1 st (some t1) t r h hs a
        refine ⟨?_, a2⟩
        rw [← e2, e, oT, oT]
        simp
      | open_ f r1 =>
        obtain ⟨e, a⟩ := b2 f r1 q
        obtain ⟨e2, a2⟩ := go_sound n r1 (f :: st) none t r h (fun g hg => by
          rcases List.mem_cons.mp hg with z | z
          · rw [z]; exact a
          · exact hs g z) True.intro
        refine ⟨?_, a2⟩
        rw [← e2, e, pre]
        simp [oT]
  | n + 1, toks, f :: st, some t0, t, r, h, hs, ho => by
    rw [go] at h
    obtain ⟨b1, b2⟩ := hand_sound (isW := isW) (t := t0) (f := f) (l := toks) (hs f List.mem_cons_self) ho
    have hs' : ∀ g ∈ st, AlF isW g := fun g hg => hs g (List.mem_cons_of_mem _ hg)
    cases q : handM t0 f toks with
    | none => rw [q] at h; cases h
    | some b =>
      rw [q] at h
      cases b with
      | thing t1 r1 =>
        obtain ⟨e, a⟩ := b1 t1 r1 q
        obtain ⟨e2, a2⟩ := go_sound n r1 st (some t1) t r h hs' a
        refine ⟨?_, a2⟩
        rw [← e2, pre, List.append_assoc, List.append_assoc, ← List.append_assoc (frT f), show frT f ++ oT (some t0) ++ toks = _ from e]
        simp [oT]
      | open_ f1 r1 =>
        obtain ⟨e, a⟩ := b2 f1 r1 q
        obtain ⟨e2, a2⟩ := go_sound n r1 (f1 :: st) none t r h (fun g hg => by
          rcases List.mem_cons.mp hg with z | z
          · rw [z]; exact a
          · exact hs' g z) True.intro
        refine ⟨?_, a2⟩
        rw [← e2, pre, pre, List.append_assoc, List.append_assoc, ← List.append_assoc (frT f), show frT f ++ oT (some t0) ++ toks = _ from e]
        simp [oT]
theorem parse_sound {toks : List Str} {t : T} (h : parse isW toks = some t) : tk t = toks ∧ Al isW t := by
  unfold parse at h
  cases q : go isW (toks.length + 1) toks [] none with
  | none => rw [q] at h; cases h
  | some p =>
    obtain ⟨t1, r1⟩ := p
    rw [q] at h
    cases r1 with
    | cons x r => cases h
    | nil =>
      cases h
      obtain ⟨e, a⟩ := go_sound _ _ _ _ _ _ q (fun f hf => nomatch hf) True.intro
      have e' : toks = tk t := by simpa [pre, oT] using e
      exact ⟨e'.symm, a⟩
theorem parse_more (wf : Wf isW) {t : T} (h : Al isW t) {x : Str} {r : List Str} (hb : x ≠ ("(" : Str) ∧ x ≠ (":" : Str)) : parse isW (tk t ++ x :: r) = none := by
  obtain ⟨k, hk, ih⟩ := go_tk wf h (x :: r) fun y l e => by cases e; exact hb
  have e := ih ((tk t ++ x :: r).length + 1 - k) []
  have hl : (tk t ++ x :: r).length = (tk t).length + (r.length + 1) := by simp
  rw [show k + ((tk t ++ x :: r).length + 1 - k) = (tk t ++ x :: r).length + 1 by omega] at e
  unfold parse
  rw [e]
  have e2 : ∀ m, go isW m (x :: r) [] (some t) = some (t, x :: r) := fun m => by cases m <;> rfl
  rw [e2]
theorem cnt_word (wf : Wf isW) {x : Str} (h : isW x = true) : ([x].count ("(" : Str)) = 0 ∧ ([x].count (")" : Str)) = 0 := by
  have := wf.no x h
  rw [List.count_singleton, List.count_singleton]
  simp [this.2.2.1, this.2.2.2.1]
theorem cnt_words (wf : Wf isW) : ∀ {ws : List Str}, (∀ w ∈ ws, isW w = true) → ws.count ("(" : Str) = 0 ∧ ws.count (")" : Str) = 0
  | [], _ => ⟨rfl, rfl⟩
  | w :: ws, h => by
    have h1 := wf.no w (h w List.mem_cons_self)
    have ih := cnt_words wf (ws := ws) fun x hx => h x (List.mem_cons_of_mem _ hx)
    rw [List.count_cons, List.count_cons, ih.1, ih.2]
    simp [h1.2.2.1, h1.2.2.2.1]
mutual
theorem cnt_tk (wf : Wf isW) : ∀ {t : T}, Al isW t → (tk t).count ("(" : Str) = (tk t).count (")" : Str)
  | .word x, h => by
    have := cnt_word wf (show isW x = true from h)
    rw [tk, this.1, this.2]
  | .bundle hd ps, h => by
    have h1 := wf.no hd h.1
    have ih := cnt_tks wf (ts := ps) h.2
    rw [tk, List.count_cons, List.count_cons, List.count_cons, List.count_cons, List.count_append, List.count_append, ih]
    have e1 : (("(" : Str) == (")" : Str)) = false := by decide
    have e2 : ((")" : Str) == ("(" : Str)) = false := by decide
    rw [List.count_singleton, List.count_singleton, e1, e2]
    simp [h1.2.2.1, h1.2.2.2.1]
  | .run ws, h => by
    have := cnt_words wf (ws := ws) h
    rw [tk, List.count_cons, List.count_cons, List.count_append, List.count_append, this.1, this.2]
    decide
  | .tag w t, h => by
    have h1 := wf.no w h.1
    have ih := cnt_tk wf (t := t) h.2
    rw [tk, List.count_cons, List.count_cons, List.count_cons, List.count_cons, ih]
    have e1 : ((":" : Str) == (")" : Str)) = false := by decide
    have e2 : ((":" : Str) == ("(" : Str)) = false := by decide
    rw [e1, e2]
    simp [h1.2.2.1, h1.2.2.2.1]
theorem cnt_tks (wf : Wf isW) : ∀ {ts : List T}, Als isW ts → (tks ts).count ("(" : Str) = (tks ts).count (")" : Str)
  | [], _ => by rw [tks]; rfl
  | [p], h => by rw [tks]; exact cnt_tk wf (t := p) h.1
  | p :: q :: r, h => by
    have h1 := cnt_tk wf (t := p) h.1
    have h2 := cnt_tks wf (ts := q :: r) h.2
    rw [tks, List.count_append, List.count_append, List.count_cons, List.count_cons, h1, h2]
    have e1 : (("," : Str) == (")" : Str)) = false := by decide
    have e2 : (("," : Str) == ("(" : Str)) = false := by decide
    rw [e1, e2]
end
theorem parse_open (wf : Wf isW) {t : T} (h : Al isW t) {x : Str} (hx : x ≠ ("(" : Str) ∧ x ≠ (")" : Str)) : parse isW (tk t ++ [("(" : Str), x]) = none := by
  cases q : parse isW (tk t ++ [("(" : Str), x]) with
  | none => rfl
  | some t' =>
    exfalso
    obtain ⟨e, a⟩ := parse_sound q
    have h1 := cnt_tk wf (t := t') a
    have h2 := cnt_tk wf (t := t) h
    rw [e, List.count_append, List.count_append, h2, List.count_cons (a := ("(" : Str)), List.count_cons (a := (")" : Str)), List.count_singleton, List.count_singleton] at h1
    have e1 : (("(" : Str) == (")" : Str)) = false := by decide
    have e3 : (("(" : Str) == ("(" : Str)) = true := by decide
    rw [e1, e3] at h1
    simp [hx.1, hx.2] at h1
end
end Rd
set_option Elab.async false
set_option linter.all false
set_option maxRecDepth 100000
namespace L2
open PySem PySem.Spec PyProof.Rows
theorem blanks (n : Nat) : Txt.mul " " (n : Int) = Ly.pad n := by
  have key : ∀ (k : Nat) (acc : Array Nat), (List.replicate k (#[32] : Array Nat)).foldl (· ++ ·) acc = acc ++ Array.replicate k 32 := by
    intro k
    induction k with
    | zero => intro acc; simp
    | succ k ih =>
      intro acc
      rw [List.replicate_succ, List.foldl_cons, ih, Array.append_assoc]
      congr 1
      apply Array.ext'
      simp [List.replicate_succ]
  have e32 : (" " : Str) = ⟨#[32]⟩ := by decide +kernel
  unfold Txt.mul
  rw [e32]
  by_cases h0 : n = 0
  · subst h0; rfl
  · rw [if_neg (by omega)]
    by_cases h1 : n = 1
    · subst h1
      rfl
    · rw [if_neg (by
        intro z
        rw [Bool.or_eq_true] at z
        rcases z with z | z
        · have : (n : Int) = 1 := by simpa using z
          omega
        · exact absurd z (by decide))]
      show (⟨(List.replicate n #[32]).foldl (· ++ ·) #[]⟩ : Str) = _
      rw [key]
      simp [Ly.pad]
section
variable {X : Cx}
inductive RBlankI  (x : V) (y : V) (H : Hp) (Q : VK) : Prop
  | mk (n : Nat) (h_0 : x = .str " ") (h_1 : y = .int n) (h_2 : n ≤ 10000000) (h_3 : Q (.str (Ly.pad n)) H) : RBlankI  x y H Q
noncomputable def rBlank  : R2 := fun x y H Q => RBlankI  x y H Q
theorem op_blank : OpR X (binaryOp .Mult) rBlank := by
  intro pins s σ H x y v u Q I rx ry h
  obtain ⟨n, rfl, rfl, hn, q⟩ := h
  obtain ⟨t, rfl⟩ := rx
  obtain ⟨t', rfl⟩ := ry
  have el : (" " : Str).length = 1 := by decide
  refine SB.mul ⟨?_, ?_, ?_⟩ fun t'' k => ⟨.str (Ly.pad n), H, I.tok k, ⟨t'', by rw [blanks]⟩, q⟩
  · rw [Bool.or_eq_false_iff]
    exact ⟨decide_eq_false (by omega), decide_eq_false (by omega)⟩
  · intro h1 _
    rw [el]
    have : (2 ^ 63 - 1 : Int) / (n : Int) ≥ 1 := by
      apply Int.le_ediv_of_mul_le (by omega)
      omega
    omega
  · intro _ _
    rw [el]
    unfold Builtin.Str.tooLong
    simp
    show (n : Nat) ≤ 16777216
    omega
end
end L2
set_option Elab.async false
set_option linter.all false
set_option maxRecDepth 100000
namespace L2
open PySem PySem.Spec PyProof.Rows
open Sem (wp)
theorem runs_toks {M : Model} {Γ : PySem.Ctx} {p : Pos} {t : Sem Fin} {fs : List Frame} {s s' : Shared} {e : End} (h : Runs M Γ p t fs s e s') : s.toks ≤ s'.toks := by
  induction h with
  | done | raise | yield => exact Nat.le_refl _
  | fresh _ ih => exact Nat.le_trans (Nat.le_succ _) ih
  | call _ _ i1 i2 => exact Nat.le_trans i1 i2
  | resumeFresh _ _ _ _ i1 i2 => exact Nat.le_trans i1 i2
  | resumeSuspended _ _ _ _ i1 i2 => exact Nat.le_trans i1 i2
  | segRet _ _ i1 i2 => exact Nat.le_trans i1 i2
  | segGen _ _ i1 i2 => exact Nat.le_trans i1 i2
  | segSuspGen _ _ _ _ i1 i2 => exact Nat.le_trans i1 i2
  | _ => assumption
theorem wakes_toks {M : Model} {Γ : PySem.Ctx} {p : Pos} {g : Nat} {r : Resume} {s s' : Shared} {res : GenResult} (h : Wakes M Γ p g r s res s') : s.toks ≤ s'.toks := by
  unfold Wakes at h
  split at h
  · exact h.elim
  · split at h
    · obtain ⟨e, s1, h1, _, _, rfl⟩ := h; have := runs_toks h1; exact this
    · rw [h.2]; exact Nat.le_refl _
    · rw [h.2]; exact Nat.le_refl _
  · obtain ⟨e, s1, h1, _, _, rfl⟩ := h; have := runs_toks h1; exact this
  · rw [h.2]; exact Nat.le_refl _
  · rw [h.2]; exact Nat.le_refl _
theorem wp_toks {α : Type} {post : α → Pos → Shared → Prop} {exc : Value → Pos → Shared → Prop} (M : Model) (Γ : PySem.Ctx) (n : Nat) (tree : Sem α) (pos : Pos) (sh : Shared) (hn : n ≤ sh.toks)
    (known : wp M Γ tree post exc pos sh) : wp M Γ tree (fun a p s' => post a p s' ∧ n ≤ s'.toks) exc pos sh := by
  revert known
  induction tree generalizing pos sh with
  | pure x => exact fun h => ⟨h, hn⟩
  | raise v => exact id
  | unsupported | finish | yield | fork | await | register => exact id
  | fresh k ih => exact ih _ _ _ (Nat.le_succ_of_le hn)
  | rule _ k ih | «at» _ k ih | alloc _ k ih | loadIfAlive _ k ih | point _ k ih | ask k ih | os _ _ k ih | handled _ k ih | newGen _ k ih | stack k ih | thread k ih => exact ih _ _ _ hn
  | load a _ k ih | genState a k ih => exact fun ⟨o, ho, h⟩ => ⟨o, ho, ih _ _ _ hn h⟩
  | update a _ f k ih | choose _ _ k ih => exact fun ⟨ha, h⟩ => ⟨ha, ih _ _ _ hn h⟩
  | call c h g l k ih => exact fun ⟨r, s', hr, h⟩ => ⟨r, s', hr, ih r pos s' (Nat.le_trans hn (runs_toks hr)) h⟩
  | resume g r l k ih => exact fun ⟨res, s', hw, h⟩ => ⟨res, s', hw, ih _ _ _ (Nat.le_trans hn (wakes_toks hw)) h⟩
theorem wpAny_toks {α : Type} {M : Model} {A : Around} {t : Sem α} {Q : α → Shared → Prop} {E : Value → Shared → Prop} {s : Shared} (h : wpAny M A t Q E s) {n : Nat} (hn : n ≤ s.toks) :
    wpAny M A t (fun a s' => Q a s' ∧ n ≤ s'.toks) E s := fun Γ p hΓ => wp_toks M Γ n t p s hn (h Γ p hΓ)
noncomputable def PEp (X : Cx) (e : Expr) (t : TE) : Prop := ∀ (pins : List (Addr × Obj)) (s : Shared) (σ : St) (H : Hp) (Q : VK), Inv X pins σ H s → 0 < s.toks → t σ H Q → wpAny (model X.prog X.w) X.A (eval e X.env) (EP X pins σ Q) X.xe s
section
variable {X : Cx} {a b o e : Expr} {es : List Expr} {ta tb to : TE} {t : TA} {pos : Pos} {name : Str} {apos cpos : Pos} {T id : String} {r : V → List V → Hp → VK → Prop}
end
end L2
set_option Elab.async false
set_option linter.all false
set_option maxRecDepth 100000
namespace L2
open PySem PySem.Spec PyProof.Rows
noncomputable def Its (x : Str) : It := ⟨fun i _ => i < x.cps.size, fun i H v H' => H' = H ∧ ∃ c, x.cps[i]? = some c ∧ v = .str ⟨#[c]⟩, fun i _ => x.cps.size ≤ i⟩
theorem turn_strA {P : Program} {w : World} {K : PySem.W.Frag} {tg : Expr} (x : Str) (t : Tok) (it : Addr) : Turn P w K tg (Its x) [it] it (fun i h => h.IsStrIter it "str_ascii_iterator" x t i) where
  mem := by simp
  obj := fun i h st b hb => by
    have e : b = it := by simpa using hb
    subst e
    obtain ⟨o, e, c, d⟩ := st
    exact ⟨o, e, fun v z => by rw [d] at z; cases z⟩
  keep := fun i h h' st k => let ⟨o, ho, r⟩ := st; ⟨o, k it (by simp) o ho, r⟩
  item := by
    intro X hP hw hK hc i pins s σ H E I hf st hg
    subst hP hw hK
    have hi : i < x.cps.size := hg
    obtain ⟨f0, f1, f2, f3, f4, f5⟩ := hf it (by simp)
    refine wpAny_pyNext_ascii_item st (c := x.cps[i]) (by simp [hi]) fun h' st' sb => ?_
    have I1 : Inv X pins σ H { s with heap := h', toks := s.toks + 1 } := I.turned (fun b o hb e => (sb.2 b hb).trans e) f0 f1 f3 f4 f5
    obtain ⟨o, e, c, d⟩ := id st'
    exact ⟨_, rfl, go_of (s := { s with heap := h', toks := s.toks + 1 }) e c d (by decide) ⟨.str ⟨#[x.cps[i]]⟩, H, I1, ⟨_, rfl⟩, ⟨rfl, x.cps[i], by simp [hi], rfl⟩, st', fun b hb => (hf b hb).1⟩⟩
  done := by
    intro X hP hw hK hc i pins s σ H E I hf st hg
    subst hP hw hK
    have hi : x.cps.size ≤ i := hg
    obtain ⟨f0, f1, f2, f3, f4, f5⟩ := hf it (by simp)
    exact wpAny_pyNext_ascii_end (I.ok.hd hc) st (by simp [hi]) fun h' eb => ⟨rfl, I.turned (t' := s.toks) (fun b o hb e => eb b o hb e) f0 f1 f3 f4 f5⟩
  self := fun _ _ _ _ _ st h => wpAny_pyIter_striter_ascii st h
theorem turn_strW {P : Program} {w : World} {K : PySem.W.Frag} {tg : Expr} (x : Str) (t : Tok) (it : Addr) : Turn P w K tg (Its x) [it] it (fun i h => h.IsStrIter it "str_iterator" x t i) where
  mem := by simp
  obj := fun i h st b hb => by
    have e : b = it := by simpa using hb
    subst e
    obtain ⟨o, e, c, d⟩ := st
    exact ⟨o, e, fun v z => by rw [d] at z; cases z⟩
  keep := fun i h h' st k => let ⟨o, ho, r⟩ := st; ⟨o, k it (by simp) o ho, r⟩
  item := by
    intro X hP hw hK hc i pins s σ H E I hf st hg
    subst hP hw hK
    have hi : i < x.cps.size := hg
    obtain ⟨f0, f1, f2, f3, f4, f5⟩ := hf it (by simp)
    refine wpAny_pyNext_wide_item st (c := x.cps[i]) (by simp [hi]) fun h' st' sb => ?_
    have I1 : Inv X pins σ H { s with heap := h', toks := s.toks + 1 } := I.turned (fun b o hb e => (sb.2 b hb).trans e) f0 f1 f3 f4 f5
    obtain ⟨o, e, c, d⟩ := id st'
    exact ⟨_, rfl, go_of (s := { s with heap := h', toks := s.toks + 1 }) e c d (by decide) ⟨.str ⟨#[x.cps[i]]⟩, H, I1, ⟨_, rfl⟩, ⟨rfl, x.cps[i], by simp [hi], rfl⟩, st', fun b hb => (hf b hb).1⟩⟩
  done := by
    intro X hP hw hK hc i pins s σ H E I hf st hg
    subst hP hw hK
    have hi : x.cps.size ≤ i := hg
    obtain ⟨f0, f1, f2, f3, f4, f5⟩ := hf it (by simp)
    exact wpAny_pyNext_wide_end (I.ok.hd hc) st (by simp [hi]) fun h' eb => ⟨rfl, I.turned (t' := s.toks) (fun b o hb e => eb b o hb e) f0 f1 f3 f4 f5⟩
  self := fun _ _ _ _ _ st h => wpAny_pyIter_striter_wide st h
theorem for_str {x : Str} {g : TG} {tb : TS} {D : Ends} {σ : St} {H : Hp} (Pv : Nat → St → Hp → Prop) (h0 : Pv 0 σ H)
    (hs : ∀ i c σ H, x.cps[i]? = some c → Pv i σ H → g (.str ⟨#[c]⟩) σ H fun σ2 H2 => tb { D with nx := Pv (i + 1), ct := Pv (i + 1), bk := D.nx } σ2 H2) (hd : ∀ σ H, Pv x.cps.size σ H → D.nx σ H) :
    ∃ W : Nat → Nat → St → Hp → Prop, (∃ m, W 0 m σ H) ∧ ∀ i m σ H, W i m σ H →
      ((Its x).stop i H ∧ D.nx σ H) ∨ ((Its x).go i H ∧ ∃ N : St → Hp → Prop, (∀ σ' H', N σ' H' → ∃ m', m' < m ∧ W (i + 1) m' σ' H') ∧ ∀ v H', (Its x).yld i H v H' → g v σ H' fun σ2 H2 => tb { D with nx := N, ct := N, bk := D.nx } σ2 H2) := by
  refine ⟨fun i m σ H => m = x.cps.size - i ∧ i ≤ x.cps.size ∧ Pv i σ H, ⟨x.cps.size, by simp, Nat.zero_le _, h0⟩, ?_⟩
  rintro i m σ H ⟨rfl, hi, p⟩
  by_cases hlt : i < x.cps.size
  · refine .inr ⟨hlt, Pv (i + 1), fun σ' H' p' => ⟨x.cps.size - (i + 1), by omega, rfl, hlt, p'⟩, fun v H' y => ?_⟩
    obtain ⟨rfl, c, hc, rfl⟩ := y
    exact hs i c σ _ hc p
  · have e : i = x.cps.size := by omega
    subst e
    exact .inl ⟨Nat.le_refl _, hd σ H p⟩
section
variable {X : Cx} {tg : Expr}
noncomputable def iStr (tl : TE) : TI := fun σ H R => tl σ H fun v H1 => ∃ x, v = .str x ∧ R (Its x) H1
theorem pi_str {l : Expr} {tl : TE} (hl : PE X l tl) : PI X tg l (iStr tl) := by
  intro pins s σ H R I h
  refine thn (hl pins s σ H _ I h) fun v s1 ⟨y, H1, I1, r1, q1⟩ => ?_
  obtain ⟨x, e, q⟩ := q1
  subst e
  obtain ⟨t, rfl⟩ := r1
  have fin : ∀ b ∈ [s1.heap.objs.size], FpOk X pins H1 b := fun b hb => by
    have e : b = s1.heap.objs.size := by simpa using hb
    subst e
    exact I1.fpOk (Nat.le_refl _) (I1.hok.fresh (Nat.le_refl _))
  cases ha : x.cps.all (· < 128)
  · refine wpAny_pyIter_wide ha ?_
    exact ⟨s1.heap.objs.size, [s1.heap.objs.size], _, _, H1, rfl, I1.kept (t' := s1.toks) fun b o e => Heap.get?_push_of_some _ e, turn_strW x t _, ⟨_, Heap.get?_push_size _ rfl, rfl, rfl⟩, fin, q⟩
  · refine wpAny_pyIter_ascii ha ?_
    exact ⟨s1.heap.objs.size, [s1.heap.objs.size], _, _, H1, rfl, I1.kept (t' := s1.toks) fun b o e => Heap.get?_push_of_some _ e, turn_strA x t _, ⟨_, Heap.get?_push_size _ rfl, rfl, rfl⟩, fin, q⟩
end
end L2
set_option Elab.async false
set_option linter.all false
set_option maxRecDepth 100000
namespace L8
open PySem PySem.Spec PyProof.Rows
section
variable {prog : Program} {w : World} {A : Around} {E : Value → Shared → Prop} {s : Shared}
set_option tactic.hygienic true in
theorem new_from1 (l : Addr) (its : Array Value) (n : Nat) (t : Tok) (od : Option Addr) (osl : Array (Option Value)) :
    Meets (Builtin.«enumerate.__new__» ⟨[.type "enumerate", .ref l], [("start", .int 1 t)]⟩) (fun _ R s => s.heap.get? l = some ⟨.type "list", od, .seq its n, osl⟩ ∧
      R (.ok (.ret (.ref (s.heap.push { cls := .type "list_iterator", data := .fields #[.ref l, .int 0 0] }).objs.size)))
        { s with heap := (s.heap.push { cls := .type "list_iterator", data := .fields #[.ref l, .int 0 0] }).push { cls := .type "enumerate", data := .fields #[.none, .bool false, .ref s.heap.objs.size, rawInt 1, .none, .none] } }) :=
  .of_wp fun P W B R z hz => by
    obtain ⟨hp, g, d, tk, os⟩ := z
    obtain ⟨hl, hq⟩ := hz
    have subE := sub_enumerate
    have isL : Heap.IsList (Shared.heap ⟨hp, g, d, tk, os⟩) l its := ⟨_, hl, rfl, n, rfl⟩
    wp_walk using AutoSeq1.wpAny_loadPart' hl
    refine wpAny_stack_any fun st => wpAny_pure ?_
    split
    · rename_i c _ _ _ _ _
      cases (c == Value.type "enumerate")
      · wp_walk using AutoSeq1.wpAny_loadPart' hl, wpAny_pyIter_list isL
        exact ⟨_, rfl, hq⟩
      · wp_walk using AutoSeq1.wpAny_loadPart' hl, wpAny_pyIter_list isL
        exact ⟨_, rfl, hq⟩
    · wp_walk using AutoSeq1.wpAny_loadPart' hl, wpAny_pyIter_list isL
      exact ⟨_, rfl, hq⟩
end
end L8
set_option Elab.async false
set_option linter.all false
set_option maxRecDepth 100000
namespace L8
open PySem PySem.Spec PyProof.Rows
section
variable {prog : Program} {w : World} {A : Around} {E : Value → Shared → Prop} {s : Shared}
theorem init_kw {T newId : String} {self : Value} {rest : List Value} {kw : List (Str × Value)} (hl : typeLookup (.type T) "__init__" = pure (some (.builtin "object.__init__")))
    (hm : Bind.madeBy (.type T) = pure (some newId)) (hne : (some newId != some "object.__new__") = true) :
    Meets (Builtin.«object.__init__» ⟨self :: rest, kw⟩) (fun _ R z => z.TypeIs self T ∧ R (.ok (.ret .none)) z) := by
  refine Meets.of_wp fun P W B R z hz => ?_
  obtain ⟨hT, hq⟩ := hz
  cases rest with
  | nil =>
    cases kw with
    | nil => exact wpAny_pure ⟨_, rfl, hq⟩
    | cons a r =>
      repeat (any_goals (first | assumption | wp_step))
      exact ⟨_, rfl, hq⟩
  | cons a r =>
    repeat (any_goals (first | assumption | wp_step))
    exact ⟨_, rfl, hq⟩
theorem type_kw {T newId initId : String} {Bn Bi : Builtin} {args : List Value} {kw : List (Str × Value)} {S : PySem.Spec} {Q Q' : Value → Shared → Prop} (ft : TypeCalled T newId initId)
    (c1 : checkTypeCall T ⟨args, kw⟩ = pure ()) (c2 : checkBuiltinCall newId ⟨.type T :: args, kw⟩ = pure ())
    (eN : entryFor table newId = some Bn) (eI : entryFor table initId = some Bi) (g : Meets (Bn ⟨.type T :: args, kw⟩) S)
    (h : S A.in1 (wants Q' E) s)
    (nx : ∀ obj z, Q' obj z → z.TypeIs obj T ∧ argsOk initId ⟨obj :: args, kw⟩ ∧ ∃ Si, Meets (Bi ⟨obj :: args, kw⟩) Si ∧ Si A.in1 (wants (fun r z2 => r = .none ∧ Q obj z2) E) z) :
    wpAny (model prog w) A (call (.type T) args kw) Q E s := by
  obtain ⟨c, tl, hmro⟩ := ft.mro
  have hmade := ft.made
  have hsub := ft.sub
  refine wpAny_call (codeAny_of_tree ?_)
  show wpAny _ _ (callAny (.type T) _) _ _ _
  refine wpAny_pure ⟨Code.quiet_builtin _ (by decide +kernel), codeAny_builtin F.entry_type_call ?_⟩
  rw [Around.under_plain (weight_type_call_type T args kw) (units_type_call_type T args kw)]
  have h1 := ft.notType
  have h2 := ft.canCreate
  repeat (any_goals (first | assumption | wp_step))
  refine codeAny_mono (codeAny_call_builtin ft.plain eN (wpAny_of_eq c2 (g prog w A.in1 _ s h))) fun r z hr => ?_
  cases r with
  | error e => exact hr
  | ok fl =>
    cases fl with
    | ret obj =>
      obtain ⟨hT, hok, Si, gi, hsi⟩ := nx _ _ hr
      have hli := ft.init.lookup
      have hbi := ft.init.bind obj
      repeat (any_goals (first | assumption | wp_step))
      refine codeAny_mono (codeAny_call_builtin ft.init.plain eI (ft.init.check _ _ _ _ _ _ _ _ hT hok (gi prog w A.in1 _ z hsi))) fun r2 z2 hr2 => ?_
      cases r2 with
      | error e => exact hr2
      | ok fl2 =>
        cases fl2 with
        | ret r =>
          obtain ⟨rfl, hq⟩ := hr2
          repeat (any_goals (first | assumption | wp_step))
        | _ => exact hr2.elim
    | _ => exact hr.elim
theorem tcall_from1 (a : Value) (t : Tok) : checkTypeCall "enumerate" ⟨[a], [("start", .int 1 t)]⟩ = pure () := by kernel_rfl
theorem ncall_from1 (a : Value) (t : Tok) : checkBuiltinCall "enumerate.__new__" ⟨[.type "enumerate", a], [("start", .int 1 t)]⟩ = pure () := by kernel_rfl
theorem iargs_from1 (o a : Value) (t : Tok) : argsOk "object.__init__" ⟨[o, a], [("start", .int 1 t)]⟩ := by
  unfold argsOk
  kernel_rfl
theorem call_from1 {l : Addr} {its : Array Value} {t : Tok} {Q : Value → Shared → Prop} (hL : s.heap.IsList l its)
    (h : ∀ h', IsEnum h' (s.heap.objs.size + 1) s.heap.objs.size 1 .none → h'.IsListIter s.heap.objs.size l 0 → h'.objs.size = s.heap.objs.size + 2 →
      (∀ b o, s.heap.get? b = some o → h'.get? b = some o) → Q (.ref (s.heap.objs.size + 1)) { s with heap := h' }) :
    wpAny (model prog w) A (call (.type "enumerate") [.ref l] [("start", .int 1 t)]) Q E s := by
  obtain ⟨⟨c, od, dt, osl⟩, hl, hc, n, hd⟩ := hL
  replace hc : c = .type "list" := hc
  replace hd : dt = .seq its n := hd
  subst hc hd
  refine type_kw F.called_enumerate (tcall_from1 _ t) (ncall_from1 _ t) F.entry_enumerate_new F.entry_object_init (new_from1 l its n t od osl) (Q' := fun obj z => z.TypeIs obj "enumerate" ∧ Q obj z) ⟨hl, ?_⟩
    (fun obj z hq => ⟨hq.1, iargs_from1 obj _ t, _, init_kw F.called_enumerate.init.lookup F.called_enumerate.made (by decide), hq.1, rfl, hq.2⟩)
  have sz : (s.heap.push { cls := .type "list_iterator", data := .fields #[.ref l, .int 0 0] }).objs.size = s.heap.objs.size + 1 := Heap.size_push ..
  show _ ∧ _
  rw [sz]
  have en : IsEnum ((s.heap.push { cls := .type "list_iterator", data := .fields #[.ref l, .int 0 0] }).push
      { cls := .type "enumerate", data := .fields #[.none, .bool false, .ref s.heap.objs.size, rawInt 1, .none, .none] }) (s.heap.objs.size + 1) s.heap.objs.size 1 .none := by
    have q := Heap.get?_push_size (s.heap.push { cls := .type "list_iterator", data := .fields #[.ref l, .int 0 0] })
      (o := { cls := .type "enumerate", data := .fields #[.none, .bool false, .ref s.heap.objs.size, rawInt 1, .none, .none] }) rfl
    rw [sz] at q
    exact q
  exact ⟨⟨_, en, rfl⟩, h _ en ⟨_, Heap.get?_push_of_some _ (Heap.get?_push_size _ rfl), rfl, rfl⟩ (by rw [Heap.size_push, sz]) fun b o x => Heap.get?_push_of_some _ (Heap.get?_push_of_some _ x)⟩
theorem draws1 (hh : A.handled = none) (it l : Addr) (hne : l ≠ it) (its : Array Value) :
    Draws prog w A it [it, l] (its.size + 1) (fun i v => its[i - 1]? = some v) (fun i h => 1 ≤ i ∧ h.IsListIter it l (i - 1) ∧ h.IsList l its) :=
  have D : Draws prog w A it [it, l] its.size (fun i v => its[i]? = some v) (fun i h => h.IsListIter it l i ∧ h.IsList l its) := Draws.list hh it l hne its
  { live := fun i h st => D.live (i - 1) h st.2
    frame := fun i h h' st hk => ⟨st.1, D.frame (i - 1) h h' st.2 hk⟩
    item := fun i s Q E hi st hQ => D.item (i - 1) s Q E (by have := st.1; omega) st.2 fun x h' tk px st' sb => hQ x h' tk px ⟨by omega, by
      have e : i + 1 - 1 = i - 1 + 1 := by have := st.1; omega
      rw [e]; exact st'⟩ sb
    done := fun s Q E st hE => D.done s Q E (by simpa using st.2) hE }
theorem callWith_typeK {M : Model} {pos : Pos} {T : String} {args : List (Bool × Sem Value)} {kws : List (Option Str × Sem Value)} {Q : Value → Shared → Prop}
    (p1 : args.any (·.1) = false) (p2 : kws.any (·.1.isNone) = false)
    (h : wpAny M A (evalArgs (.type T) true args kws) (fun a z => wpAny M A (call (.type T) a.pos a.kw) Q E z) E s) :
    wpAny M A (callWith pos (.type T) [] args kws) Q E s := by
  unfold callWith
  refine wpAny_bind (wpAny_holding (wpAny_mono h (fun a z hz => wpAny_bind (wpAny_standAt ?_)) fun _ _ x => x))
  simp only [p1, p2, Bool.or_false]
  refine wpAny_bind (wpAny_pure ?_)
  exact wpAny_bind (wpAny_mono hz (fun r z2 hr => wpAny_bind (wpAny_holding (wpAny_point (wpAny_pure hr)))) fun _ _ x => x)
end
end L8
namespace L2
open PySem PySem.Spec PyProof.Rows
section
variable {X : Cx} {pins : List (Addr × Obj)} {σ : St} {H : Hp} {s : Shared} {h' : Heap}
theorem Inv.turned2 {t' : Nat} {a b : Addr} (I : Inv X pins σ H s) (k : ∀ c o, c ≠ a → c ≠ b → s.heap.get? c = some o → h'.get? c = some o) (fa : FpOk X pins H a) (fb : FpOk X pins H b) : Inv X pins σ H { s with heap := h', toks := t' } := by
  obtain ⟨a0, a1, a2, a3, a4, a5⟩ := fa
  obtain ⟨b0, b1, b2, b3, b4, b5⟩ := fb
  have kp : ∀ c o, c ∉ [a, b] → s.heap.get? c = some o → h'.get? c = some o := fun c o hc e => k c o (fun z => hc (by simp [z])) (fun z => hc (by simp [z])) e
  have away : ∀ c u, H c = some u → c ∉ [a, b] := fun c u e hc => by
    rcases List.mem_cons.mp hc with z | z
    · rw [z, a0] at e; cases e
    · rw [List.mem_singleton.mp z, b0] at e; cases e
  refine I.step (g' := s.gens) (d' := s.drawn) (ch := [a, b]) (fun c hc => ?_) (fun c o _ _ hc e _ => kp c o hc e) (fun c o _ _ hc e _ => ⟨o.slots, kp c o hc e⟩) (fun _ _ _ _ n => n) (fun c o hc e => ⟨o, kp c o hc e⟩)
    (fun _ _ e => e) (fun _ _ _ e => e) (fun c ps e => ⟨#[], by rw [e]; simp⟩) (fun m hm => ?_) (fun c u e => ?_) I.bare
  · rcases List.mem_cons.mp hc with z | z
    · subst z; exact ⟨a3, a1, a4, a5⟩
    · have z' := List.mem_singleton.mp z
      subst z'; exact ⟨b3, b1, b4, b5⟩
  · obtain ⟨o, es, ep, ho, r⟩ := hm
    exact ⟨o, es, ep, k _ o (Ne.symm a1) (Ne.symm b1) ho, r⟩
  · refine (I.hok c u e).stay (fun d v hd q => kp d v ?_ q) (fun _ q => q) fun _ _ q => q
    rcases hd with z | z
    · rw [z]; exact away c u e
    · exact away d _ z
end
noncomputable def Ite (K : PySem.W.Frag) (l : Addr) : It :=
  ⟨fun i H => ∃ xs x, SqL K H l xs ∧ xs[i]? = some x, fun i H x H' => ∃ p v, H p = none ∧ x = .ref p ∧ H' = upd H p (.tup [.int ((i : Int) + 1), v]) ∧ ∀ xs, SqL K H l xs → xs[i]? = some v, fun i H => ∃ xs, SqL K H l xs ∧ xs.length = i⟩
theorem turn_enum {P : Program} {w : World} {K : PySem.W.Frag} {elts : List Expr} {k : Nat} {pt : Pos} (l e it : Addr) :
    Turn P w K (.Tuple elts k pt) (Ite K l) [e, it] e (fun i h => (∃ old, IsEnum h e it ((i + 1 : Nat) : Int) old) ∧ h.IsListIter it l i) where
  mem := by simp
  obj := fun i h st b hb => by
    obtain ⟨⟨old, en⟩, o, eo, c, d⟩ := st
    rcases List.mem_cons.mp hb with z | z
    · subst z
      exact ⟨_, en, fun v z => by have z' : Data.fields _ = Data.cell v := z; cases z'⟩
    · have z' := List.mem_singleton.mp z
      subst z'
      exact ⟨o, eo, fun v z => by rw [d] at z; cases z⟩
  keep := fun i h h' st kp => ⟨let ⟨old, en⟩ := st.1; ⟨old, kp e (by simp) _ en⟩, st.2.at fun o q => kp it (by simp) o q⟩
  item := by
    intro X hP hw hK hc i pins s σ H E I hf st hg
    subst hP hw hK
    obtain ⟨xs, x, hq, hx⟩ := hg
    obtain ⟨its, rv, p, hz⟩ := I.list hq
    obtain ⟨u, hu, ru⟩ := rv.get hx
    obtain ⟨⟨old, en⟩, li⟩ := st
    have fe := hf e (by simp)
    have fi := hf it (by simp)
    obtain ⟨oi, hoi, hci, hdi⟩ := id li
    obtain ⟨ol, hol, hcl, nl, hdl⟩ := id p.isList
    have en0 : s.heap.get? e = some { cls := .type "enumerate", dict := none, data := .fields #[.none, .bool false, .ref it, rawInt ((i + 1 : Nat) : Int), .none, old], slots := #[] } := en
    have ne1 : e ≠ it := fun z => by
      rw [z, hoi] at en0
      rw [Option.some.inj en0] at hci
      exact absurd (Value.type.inj (show Value.type "enumerate" = Value.type "list_iterator" from hci)) (by decide)
    have ne2 : l ≠ it := fun z => by rw [z, hoi] at hol; cases hol; rw [hdi] at hdl; cases hdl
    have ne3 : e ≠ l := fun z => by
      rw [z, hol] at en0
      rw [Option.some.inj en0] at hcl
      exact absurd (Value.type.inj (show Value.type "enumerate" = Value.type "list" from hcl)) (by decide)
    have hil : i < its.length := (List.getElem?_eq_some_iff.mp hu).1
    refine wpAny_pyNext_enum_itemD (L8.draws1 (A := X.A.in1) (I.ok.hd hc) it l ne2 its.toArray) en ⟨Nat.succ_le_succ (Nat.zero_le _), by simpa using li, p.isList⟩ (by simp; omega) ne1 (by simp [ne1, ne3]) fun v h1 tk hv eo st1 ht hs1 kp => ?_
    have ev : v = u := by
      have q : its[i]? = some v := by simpa using hv
      rw [hu] at q; exact (Option.some.inj q).symm
    subst ev
    refine ⟨_, rfl, wpAny_letOwnedTupleGo_enum eo fun h2 en2 sb => ?_⟩
    replace sb : Heap.SameBut e h1 h2 := sb
    have elt : e < s.heap.objs.size := Heap.lt_size en
    have ilt : it < s.heap.objs.size := Heap.lt_size hoi
    have hfr : H s.heap.objs.size = none := I.hok.fresh (Nat.le_refl _)
    have nes : ∀ b, b < s.heap.objs.size → upd H s.heap.objs.size (.tup [.int ((i : Int) + 1), x]) b = H b := fun b hb => upd_ne (Nat.ne_of_lt hb)
    have I1 : Inv X pins σ (upd H s.heap.objs.size (.tup [.int ((i : Int) + 1), x])) { s with heap := s.heap.push { cls := .type "tuple", data := .seq #[.int ((i + 1 : Nat) : Int) tk, v] }, toks := s.toks } :=
      I.laid (t' := s.toks) (fun b o q => Heap.get?_push_of_some _ q) (Nat.le_refl _) ⟨(by show 2 ≤ sizeLine; decide), [.int ((i + 1 : Nat) : Int) tk, v], .cons ⟨tk, by show Value.int _ _ = Value.int _ _; rfl⟩ (.cons ru .nil), ⟨_, Heap.get?_push_size _ rfl, rfl, _, rfl⟩⟩
    have key : ∀ c o, c ≠ e → c ≠ it → (s.heap.push { cls := .type "tuple", data := .seq #[.int ((i + 1 : Nat) : Int) tk, v] }).get? c = some o → h2.get? c = some o := fun c o n1 n2 q => by
      refine (sb.2 c n1).trans ?_
      rcases Heap.get?_push_cases q with ⟨z1, z2⟩ | z
      · rw [z1, z2]; exact ht
      · exact kp c o n1 n2 z
    have I2 := I1.turned2 (h' := h2) (t' := tk + 1) key ⟨(nes e elt).trans fe.1, fe.2⟩ ⟨(nes it ilt).trans fi.1, fi.2⟩
    refine ⟨.ref s.heap.objs.size, _, I2, rfl, ⟨_, x, hfr, rfl, rfl, fun ys hy => by rw [I.list_inj hy hq]; exact hx⟩, ⟨⟨v, ?_⟩, ?_⟩, fun b hb => ?_⟩
    · exact en2
    · exact (show h1.IsListIter it l (i + 1) by simpa using st1.2.1).at fun o q => (sb.2 it (Ne.symm ne1)).trans q
    · rcases List.mem_cons.mp hb with z | z
      · rw [z]; exact (nes e elt).trans fe.1
      · rw [List.mem_singleton.mp z]; exact (nes it ilt).trans fi.1
  done := by
    intro X hP hw hK hc i pins s σ H E I hf st hg
    subst hP hw hK
    obtain ⟨xs, hq, hx⟩ := hg
    obtain ⟨its, rv, p, hz⟩ := I.list hq
    obtain ⟨⟨old, en⟩, li⟩ := st
    obtain ⟨f0, f1, f2, f3, f4, f5⟩ := hf it (by simp)
    obtain ⟨oi, hoi, hci, hdi⟩ := id li
    obtain ⟨ol, hol, hcl, nl, hdl⟩ := id p.isList
    have ne2 : l ≠ it := fun z => by rw [z, hoi] at hol; cases hol; rw [hdi] at hdl; cases hdl
    have el : its.toArray.size = i := by rw [← hx, rv.length]; simp
    exact wpAny_pyNext_enum_endD (L8.draws1 (A := X.A.in1) (I.ok.hd hc) it l ne2 its.toArray) en ⟨Nat.succ_le_succ (Nat.zero_le _), by rw [el]; simpa using li, p.isList⟩ fun h' eb => ⟨rfl, I.turned (t' := s.toks) (fun b o hb q => eb b o hb q) f0 f1 f3 f4 f5⟩
  self := fun _ _ _ _ _ st h => let ⟨_, en⟩ := st.1; wpAny_pyIter_enum en h
theorem for_enum {K : PySem.W.Frag} {a : Addr} {xs : List V} {g : TG} {tb : TS} {D : Ends} {σ : St} {H : Hp} (Pv : Nat → St → Hp → Prop) (h0 : Pv 0 σ H) (hl : ∀ i σ H, i ≤ xs.length → Pv i σ H → SqL K H a xs)
    (hs : ∀ i x σ H p, xs[i]? = some x → Pv i σ H → H p = none → g (.ref p) σ (upd H p (.tup [.int ((i : Int) + 1), x])) fun σ2 H2 => tb { D with nx := Pv (i + 1), ct := Pv (i + 1), bk := D.nx } σ2 H2) (hd : ∀ σ H, Pv xs.length σ H → D.nx σ H) :
    ∃ W : Nat → Nat → St → Hp → Prop, (∃ m, W 0 m σ H) ∧ ∀ i m σ H, W i m σ H →
      ((Ite K a).stop i H ∧ D.nx σ H) ∨ ((Ite K a).go i H ∧ ∃ N : St → Hp → Prop, (∀ σ' H', N σ' H' → ∃ m', m' < m ∧ W (i + 1) m' σ' H') ∧ ∀ x H', (Ite K a).yld i H x H' → g x σ H' fun σ2 H2 => tb { D with nx := N, ct := N, bk := D.nx } σ2 H2) := by
  refine ⟨fun i m σ H => m = xs.length - i ∧ i ≤ xs.length ∧ Pv i σ H, ⟨xs.length, by simp, Nat.zero_le _, h0⟩, ?_⟩
  rintro i m σ H ⟨rfl, hi, p⟩
  have q := hl i σ H hi p
  by_cases hlt : i < xs.length
  · refine .inr ⟨⟨xs, xs[i], q, by simp [hlt]⟩, Pv (i + 1), fun σ' H' p' => ⟨xs.length - (i + 1), by omega, rfl, hlt, p'⟩, fun x H' y => ?_⟩
    obtain ⟨b, v, hb, rfl, rfl, y⟩ := y
    exact hs i v σ H b (y xs q) p hb
  · have e : i = xs.length := by omega
    subst e
    exact .inl ⟨⟨xs, q, rfl⟩, hd σ H p⟩
section
variable {X : Cx}
theorem boot_enumerate' : bootBuiltins "enumerate" = some (.type "enumerate") := by decide +kernel
noncomputable def iEn (K : PySem.W.Frag) (ta : TA) : TI := fun σ H R => ta σ H fun vs H1 => ∃ l, vs = [.ref l] ∧ (∃ xs, SqL K H1 l xs) ∧ R (Ite K l) H1
theorem pi_enum {a : Expr} {ta : TA} {elts : List Expr} {k j : Nat} {pt p pos pc kp : Pos} (hg : Gl X "enumerate") (hm : X.mg "enumerate" = none) (ha : PA X [a] ta)
    (he : backTo pos (starEach [a] X.env) = [(false, eval a X.env)] := by rfl) (hp : (backTo pos (starEach [a] X.env)).any (·.1) = false := by rfl) :
    PI X (.Tuple elts k pt) (.Call (.Name "enumerate" p) [a] [⟨some "start", .Constant (.int 1) j pc, kp⟩] pos) (iEn X.K ta) := by
  intro pins s σ H R I h
  refine wpAny_Call_Name_kw (ld_blt I hg hm boot_enumerate' (L8.callWith_typeK hp rfl ?_))
  rw [he]
  have h0 := ha pos pins s σ H _ I h
  rw [he] at h0
  refine evalArgs_kwB rfl (thn h0 fun us s1 ⟨vs, H1, I1, r1, q1⟩ => ?_)
  obtain ⟨l, e, ⟨xs, hS⟩, q⟩ := q1
  subst e
  obtain ⟨u, rfl, ru⟩ := r1.one
  cases ru
  refine kws_cons (wpAny_Constant_int (kws_nil ?_))
  have I2 := I1.tok (s1.toks + 1)
  obtain ⟨its, rv, pl, hz⟩ := I2.list hS
  show wpAny _ _ (call (.type "enumerate") [.ref l] [("start", .int 1 _)]) _ _ _
  refine L8.call_from1 pl.isList fun h' en li hsz kp => ?_
  refine wpAny_pyIter_enum en ⟨_, _, _, Ite X.K l, H1, rfl, I2.kept kp, turn_enum l _ _, ⟨⟨.none, en⟩, li⟩, fun b hb => ?_, q⟩
  rcases List.mem_cons.mp hb with z | z
  · rw [z]
    exact I2.fpOk (Nat.le_succ _) (I2.hok.fresh (Nat.le_succ _))
  · rw [List.mem_singleton.mp z]
    exact I2.fpOk (Nat.le_refl _) (I2.hok.fresh (Nat.le_refl _))
end
end L2
set_option Elab.async false
set_option linter.all false
set_option maxRecDepth 100000
namespace L2
open PySem PySem.Spec PyProof.Rows
theorem comp_str {D : Addr} {x : Str} {te : TE} {vs : St} {Q : Hp → Prop} {H : Hp} (f : Nat → V) (hD : H D = none) (hz : x.cps.size ≤ sizeLine)
    (he : ∀ (i c : Nat) (H' : Hp) (R : VK), x.cps[i]? = some c → Same H H' → (∀ H2, Same H' H2 → R (f i) H2) → te (some (.str ⟨#[c]⟩) :: vs) H' R)
    (q : ∀ H', Same H H' → H' D = some (.lst ((List.range x.cps.size).map f)) → Q H') : CompRun (Its x) te vs D Q (upd H D (.lst [])) := by
  refine ⟨fun i m ys H' => m = x.cps.size - i ∧ i ≤ x.cps.size ∧ ys = (List.range i).map f ∧ Same H H' ∧ H' D = some (.lst ys), ⟨x.cps.size, by simp, Nat.zero_le _, by simp, fun b o e => by rw [upd_ne (ne_of_none e hD)]; exact e, upd_same⟩, ?_⟩
  rintro i m ys H' ⟨rfl, hi, rfl, s, hd⟩
  refine ⟨hd, ?_⟩
  by_cases hlt : i < x.cps.size
  · refine .inr ⟨hlt, fun v H1 y => ?_⟩
    obtain ⟨rfl, c, hc, rfl⟩ := y
    refine he i c _ _ hc s fun H2 s2 => ⟨s2 D _ hd, ?_, x.cps.size - (i + 1), by omega, rfl, hlt, ?_, ?_, upd_same⟩
    · rw [List.length_map, List.length_range]; omega
    · rw [List.range_succ, List.map_append]; rfl
    · intro b o e
      rw [upd_ne (ne_of_none e hD)]
      exact s2 b o (s b o e)
  · have e : i = x.cps.size := by omega
    subst e
    exact .inl ⟨Nat.le_refl _, q H' s hd⟩
theorem boot_all' : bootBuiltins "all" = some (.builtin "all") := by decide +kernel
section
variable {X : Cx}
theorem bl_get : ∀ {bs : List Bool} {its : List Value} {i : Nat} {v : Value}, Vals (bs.map V.bl) its → its[i]? = some v → v = .bool (bs.getD i true)
  | [], _, i, v, r, e => by cases r; simp at e
  | b :: bs, _, 0, v, r, e => by
    cases r with
    | cons h t =>
      have e' := Option.some.inj (show some _ = some v from e)
      subst e'
      exact h
  | b :: bs, _, i + 1, v, r, e => by
    cases r with
    | cons h t => exact bl_get (i := i) t e
theorem all_range : ∀ bs : List Bool, (List.range bs.length).all (fun i => bs.getD i true) = bs.all id
  | [] => rfl
  | b :: bs => by
    rw [List.length_cons, List.range_succ_eq_map, List.all_cons, List.all_cons, List.all_map, ← all_range bs]
    rfl
theorem call_all (hc : X.calm = true) : CallR X (.builtin "all") (fun xs H Q => ∃ (p : Addr) (bs : List Bool), xs = [.ref p] ∧ SqL X.K H p (bs.map V.bl) ∧ Q (.bl (bs.all id)) H) := by
  intro pins s σ H xs us Q I r h
  obtain ⟨p, bs, rfl, hS, q⟩ := h
  obtain ⟨u, rfl, ru⟩ := r.one
  cases ru
  obtain ⟨its, rv, pl, _⟩ := I.list hS
  have hlen : its.toArray.size = bs.length := by
    have := rv.length
    rw [List.length_map] at this
    simp [← this]
  obtain ⟨ol, hol, hcl, nl, hdl⟩ := id pl.isList
  have plt : p < s.heap.objs.size := Heap.lt_size hol
  refine call_all_walk (wpAny_pyIter_list pl.isList ?_)
  refine ⟨s.heap.objs.size, _, _, _, _, _, fun i => bs.getD i true, rfl, Walks.list (A := X.A.in1) (I.ok.hd hc) s.heap.objs.size p (Nat.ne_of_lt plt) its.toArray, ⟨⟨_, Heap.get?_push_size _ rfl, rfl, rfl⟩, pl.isList.at fun o e => Heap.get?_push_of_some _ e⟩, ?_, ?_⟩
  · intro i v s' Q' E' hv hq
    have e := bl_get rv (show its[i]? = some v by simpa using hv)
    subst e
    exact wpAny_truthy_bool hq
  · intro h' tk kp
    rw [hlen, all_range]
    refine ⟨.bl (bs.all id), H, I.kept (t' := tk) fun b o e => kp b o ?_ (Heap.get?_push_of_some _ e), rfl, q⟩
    intro z
    have : b = s.heap.objs.size := by simpa using z
    rw [this] at e
    exact absurd (Heap.lt_size e) (Nat.lt_irrefl _)
end
end L2
namespace L2
open PySem PySem.Spec PyProof.Rows
section
variable {X : Cx} {o e : Expr} {es : List Expr} {to : TE} {t : TA} {name : Str} {apos cpos : Pos} {T id : String} {r : V → List V → Hp → VK → Prop}
theorem pe_bmK {K : PySem.W.Frag} (hK : X.K = K) (pa : PlainAttrs T) (slot : Slot T name id) (hty : typeOf (.builtin id) = pure (.type "method_descriptor")) (hm : MtR X id r) (ho : PE X o to) (ha : PA X (e :: es) t)
    (h1 : attributeBase o name X.env (eval o X.env) = eval o X.env := by rfl)
    (h2 : ((backTo cpos (starEach (e :: es) X.env)).all (fun x => !x.1) && (backToKw cpos (keywordEach [] X.env)).all (fun x => x.1.isSome) && decide ((e :: es).length + ([] : List Keyword).length + (if ([] : List Keyword).isEmpty then 0 else 1) < 30)) = true := by rfl)
    (h3 : (apos.endLine == cpos.line) = true := by rfl) (h4 : starEach (e :: es) X.env = (false, eval e X.env) :: starEach es X.env := by rfl) (h5 : (backTo cpos (starEach es X.env)).any (·.1) = false := by rfl) :
    PE X (.Call (.Attribute o name apos) (e :: es) [] cpos) (tBM K T r to t) := hK ▸ pe_bm pa slot hty hm ho ha h1 h2 h3 h4 h5
theorem mt_joinK {K : PySem.W.Frag} (hK : X.K = K) : MtR X "str.join" (rJoin K) := hK ▸ mt_join
end
end L2
set_option Elab.async false
set_option linter.all false
set_option maxRecDepth 100000
namespace L2
open PySem PySem.Spec PyProof.Rows
section
variable {X : Cx}
theorem sl_str : SlR X (fun x lo hi H Q => ∃ z, x = .str z ∧ z.length ≤ 16777216 ∧ Q (.str (Txt.slice z lo hi)) H) := by
  intro pins s σ H x v vl vu lo hi sl Q I rx hs pl pu h
  obtain ⟨z, rfl, hz, q⟩ := h
  obtain ⟨t, rfl⟩ := rx
  have hz' : z.length ≤ sizeLine := by rw [sizeLine_eq]; exact hz
  have fin : ∀ t' k, EP X pins σ Q (.str (Txt.slice z lo hi) t') { s with toks := k } := fun t' k => ⟨.str _, H, I.tok k, ⟨t', rfl⟩, q⟩
  refine ⟨"str", _, F.slot_str_getitem.lookup, typeIs_str _ _ _, ?_⟩
  cases pl with
  | none =>
    cases pu with
    | none => exact wpAny_getItem_str_slice (l := none) (u := none) (st := none) hs rfl (post_val_or_str ⟨Nat.le_trans (Txt.slice_le z _ _) hz', fin⟩)
    | int j uj => exact wpAny_getItem_str_slice (l := none) (u := some (j, uj)) (st := none) hs rfl (post_val_or_str ⟨Nat.le_trans (Txt.slice_le z _ _) hz', fin⟩)
  | int i ui =>
    cases pu with
    | none => exact wpAny_getItem_str_slice (l := some (i, ui)) (u := none) (st := none) hs rfl (post_val_or_str ⟨Nat.le_trans (Txt.slice_le z _ _) hz', fin⟩)
    | int j uj => exact wpAny_getItem_str_slice (l := some (i, ui)) (u := some (j, uj)) (st := none) hs rfl (post_val_or_str ⟨Nat.le_trans (Txt.slice_le z _ _) hz', fin⟩)
theorem vals_strs : ∀ l : List (Str × Tok), Vals ((l.map (·.1)).map V.str) (strValues l)
  | [] => .nil
  | p :: l => .cons ⟨p.2, rfl⟩ (vals_strs l)
inductive RSplitI  (x : V) (vs : List V) (H : Hp) (Q : VK) : Prop
  | mk (z c) (h_0 : x = .str z) (h_1 : vs = [.str ⟨#[c]⟩]) (h_2 : z.length ≤ 1000000) (h_3 : ∀ p, H p = none → Q (.ref p) (upd H p (.lst ((Txt.split z ⟨#[c]⟩).map V.str)))) : RSplitI  x vs H Q
noncomputable def rSplit  : V → List V → Hp → VK → Prop := fun x vs H Q => RSplitI  x vs H Q
theorem mt_split : MtR X "str.split" rSplit := by
  intro pins s σ H x xs v us Q I rx rxs h
  obtain ⟨z, c, rfl, rfl, hz, q⟩ := h
  obtain ⟨t, rfl⟩ := rx
  obtain ⟨u, rfl, ru⟩ := rxs.one
  obtain ⟨t', rfl⟩ := ru
  have hl : (Txt.split z ⟨#[c]⟩).length ≤ sizeLine := by
    have := split_le z ⟨#[c]⟩
    rw [sizeLine_eq]
    omega
  have hz' : z.length ≤ sizeLine := by rw [sizeLine_eq]; omega
  have fin : ∀ (l : List (Str × Tok)) (k : Nat), l.map (·.1) = Txt.split z ⟨#[c]⟩ → EP X pins σ Q (.ref s.heap.objs.size) { s with heap := s.heap.push { cls := .type "list", data := .seq (strValues l).toArray }, toks := k } := fun l k e => by
    have iv := vals_strs l
    rw [e] at iv
    exact ⟨.ref s.heap.objs.size, _, I.lnew (t' := k) iv (by rw [List.length_map]; exact hl), rfl, q _ I.fresh⟩
  have cy : ((⟨#[c]⟩ : Str).length == 0) = false := rfl
  cases h1 : (decide (z.length < (⟨#[c]⟩ : Str).length) || decide (Builtin.Str.strKind z < Builtin.Str.strKind ⟨#[c]⟩))
  · cases hf : (Builtin.Str.occurrences z ⟨#[c]⟩ 0 z.length (z.length + 1)).isEmpty
    · have es : Txt.split z ⟨#[c]⟩ = Builtin.Str.partsBetween z (Builtin.Str.occurrences z ⟨#[c]⟩ 0 z.length (z.length + 1)) (⟨#[c]⟩ : Str).length := (if_neg (ne_true_of_eq_false h1)).trans (if_neg (ne_true_of_eq_false hf))
      refine call_meets F.slot_str_split (typeIs_str _ _ _) F.entry_str_split (F.args_str_split_2 _ _) (meets_str_split_sep z ⟨#[c]⟩ t t' h1 cy hf hz' (by rw [← es]; exact hl)) ?_
      show wants _ _ _ { s with toks := _, heap := s.heap.push { cls := .type "list", data := .seq (strsFrom s.toks (Builtin.Str.partsBetween z (Builtin.Str.occurrences z ⟨#[c]⟩ 0 z.length (z.length + 1)) (⟨#[c]⟩ : Str).length)).toArray } }
      rw [strsFrom_eq]
      exact fin (numbered s.toks _) _ ((numbered_texts _ _).trans es.symm)
    · exact call_meets F.slot_str_split (typeIs_str _ _ _) F.entry_str_split (F.args_str_split_2 _ _) (meets_str_split_not_found z ⟨#[c]⟩ t t' h1 cy hf)
        (fin [(z, t)] _ ((if_neg (ne_true_of_eq_false h1)).trans (if_pos hf)).symm)
  · exact call_meets F.slot_str_split (typeIs_str _ _ _) F.entry_str_split (F.args_str_split_2 _ _) (meets_str_split_cannot_occur z ⟨#[c]⟩ t t' h1)
      (fin [(z, t)] _ (if_pos h1).symm)
end
end L2
namespace L2
open PySem PySem.Spec PyProof.Rows
end L2
set_option Elab.async false
set_option linter.all false
set_option maxRecDepth 100000
namespace L2
open PySem PySem.Spec PyProof.Rows
theorem compTurn_if1 (elt target iter tst : Expr) (scope : Scope) (pos : Pos) (it acc : Value) (env : Env) :
    compTurn (.ListComp elt [⟨target, iter, [tst], 0⟩] scope pos) 0 it acc env = (standAt iter.pos >>= fun _ => pyNext it >>= fun r => match r with
      | none => pure (.done .next)
      | some v => letOwnedTupleGo target it v >>= fun _ => assign target env v >>= fun _ =>
        (forIn [tst] true fun c r => if r = true then do let ok ← isTrue c env (eval c env); pure (ForInStep.yield ok) else pure (ForInStep.yield r)) >>= fun ok =>
        (if ok = true then ((eval elt env >>= fun x => call (.builtin "list.append") [acc, x] >>= fun _ => pure ()) >>= fun _ => again (.compLoop (.ListComp elt [⟨target, iter, [tst], 0⟩] scope pos) 0 it acc env)) else again (.compLoop (.ListComp elt [⟨target, iter, [tst], 0⟩] scope pos) 0 it acc env))) := by rfl
noncomputable def CompRunI (J : It) (tt : TT) (te : TE) (vs : St) (D : Addr) (Q : Hp → Prop) (H : Hp) : Prop :=
  ∃ W : Nat → Nat → List V → Hp → Prop, (∃ m, W 0 m [] H) ∧ ∀ i m ys H, W i m ys H → H D = some (.lst ys) ∧
    ((J.stop i H ∧ Q H) ∨ (J.go i H ∧ ∀ x H1, J.yld i H x H1 → tt (some x :: vs) H1 fun b H2 => if b = true then te (some x :: vs) H2 fun y H3 => H3 D = some (.lst ys) ∧ ys.length < sizeLine ∧ ∃ m', m' < m ∧ W (i + 1) m' (ys ++ [y]) (upd H3 D (.lst (ys ++ [y])))
      else ∃ m', m' < m ∧ W (i + 1) m' ys H2))
noncomputable def tCompI (wi : TI) (fr : List (Str × Nat)) (tt : TT) (te : TE) : TE := fun σ H Q => wi σ H fun J H1 => ∀ D, H1 D = none → CompRunI J tt te (frv fr σ) D (fun H2 => Q (.ref D) H2) (upd H1 D (.lst []))
section
variable {X : Cx} {elt iter tst : Expr} {x : Str} {px pos : Pos} {scope : Scope} {cl : List (Str × Addr)} {fr : List (Str × Nat)} {wi : TI} {te : TE} {tt : TT}
theorem comp_blockI {pins : List (Addr × Obj)} {σ : St} {H2 : Hp} {s2 : Shared} {it : Addr} {fp : List Addr} {tn : Nat → Heap → Prop} {J : It} {Qf : Addr → Hp → Prop} {E : Value → Shared → Prop} {RR : Value → Addr → Result → Shared → Prop}
    (hc : X.calm = true) (ok : CompOk X scope x cl fr) (ht : ∀ fp s H, PT (cxComp X scope cl (x :: fr.map (·.1)) fp s H) tst tt) (he : ∀ fp s H, PE (cxComp X scope cl (x :: fr.map (·.1)) fp s H) elt te)
    (I2 : Inv X pins σ H2 s2) (T : Turn X.prog X.w X.K (.Name x px) J fp it tn) (st2 : tn 0 s2.heap) (f2 : ∀ b ∈ fp, FpOk X pins H2 b)
    (run : ∀ D, H2 D = none → CompRunI J tt te (frv fr σ) D (Qf D) (upd H2 D (.lst [])))
    (hRR : ∀ D C H' s', Inv X pins σ H' s' → Qf D H' → (∃ m, s'.heap.Ns C m) → FpOk X pins H' C → RR (.ref D) C (.ok .next) s') :
    wpAny (model X.prog X.w) X.A (newList []) (fun acc s₃ => wpAny (model X.prog X.w) X.A (newFunctionEnv scope X.env.globals cl [] X.env.qual none .none (some X.env)) (fun cenv s₄ =>
      codeAny (model X.prog X.w) X.A (.compStart (.ListComp elt [⟨.Name x px, iter, [tst], 0⟩] scope pos) 0 (.ref it) acc { cenv with scope := relabel scope X.env }) (RR acc cenv.locals) s₄) E s₃) E s2 := by
  refine wpAny_newObj_type (wpAny_newFunctionEnv ok.nocell (by intro y hy; simp at hy) (fun h₁ hns₁ hsb₁ => ?_) ok.kind)
  dsimp only at hns₁ hsb₁ ⊢
  have I3 : Inv X pins σ (upd H2 s2.heap.objs.size (.lst [])) { s2 with heap := s2.heap.push { cls := .type "list", data := .seq ([] : List Value).toArray }, toks := s2.toks } := I2.lnew .nil (Nat.zero_le _)
  have hD : H2 s2.heap.objs.size = none := I2.fresh
  have hfp2 : ∀ b ∈ fp, b < s2.heap.objs.size := fun b hb => by
    refine hideG fun G_1 back_1 => ?_
    obtain ⟨o, e, _⟩ := T.obj _ _ st2 b hb
    refine back_1 ?_
    clear back_1 G_1
    exact Heap.lt_size e
  have f3 : ∀ b ∈ fp, FpOk X pins (upd H2 s2.heap.objs.size (.lst [])) b := fun b hb => ⟨by rw [upd_ne (Nat.ne_of_lt (hfp2 b hb))]; exact (f2 b hb).1, (f2 b hb).2⟩
  refine hideG fun G_2 back_2 => ?_
  obtain ⟨W, ⟨m0, w0⟩, turn⟩ := run s2.heap.objs.size hD
  refine back_2 ?_
  clear back_2 G_2
  generalize hs3 : ({ s2 with heap := s2.heap.push { cls := .type "list", data := .seq ([] : List Value).toArray }, toks := s2.toks } : Shared) = s3 at I3
  have e3 : s3.heap = s2.heap.push { cls := .type "list", data := .seq ([] : List Value).toArray } := by rw [← hs3]
  have hfp3 : ∀ b ∈ fp, b < s3.heap.objs.size := fun b hb => by rw [e3, Heap.size_push]; exact Nat.lt_succ_of_lt (hfp2 b hb)
  have hk1 : ∀ b o, s3.heap.get? b = some o → h₁.get? b = some o := fun b o e => by
    rw [e3] at e
    exact hsb₁.extBut b o (Nat.ne_of_lt (Heap.lt_size e)) (Heap.get?_push_of_some _ e)
  have hns : h₁.Ns s3.heap.objs.size (fun y => ([] : List (Str × Value)).reverse.lookup y) := by rw [e3]; exact hns₁
  have I4 := inv_comp (t := s2.toks + ([] : List (Str × Value)).length) I3 hc ok f3 hfp3 hns hk1
  have st4 : tn 0 h₁ := T.keep _ _ _ st2 fun b hb o e => hk1 b o (by rw [e3]; exact Heap.get?_push_of_some _ e)
  have es4 : ({ s2 with heap := h₁, toks := s2.toks + ([] : List (Str × Value)).length } : Shared) = { s3 with heap := h₁, toks := s2.toks + ([] : List (Str × Value)).length } := by rw [← hs3]
  have hC : (s2.heap.push { cls := .type "list", data := .seq ([] : List Value).toArray }).objs.size = s3.heap.objs.size := by rw [e3]
  have fpc : ∀ {H' : Hp}, (∀ b ∈ fp, H' b = none) → ∀ b ∈ fp, FpOk (cxComp X scope cl (x :: fr.map (·.1)) fp s3 (upd H2 s2.heap.objs.size (.lst []))) [] H' b := fun {H'} hn b hb =>
    ⟨hn b hb, Nat.ne_of_lt (hfp3 b hb), I4.ok.exfs b hb, .inl hb, (I4.ok.exf b hb).2, fun p hp => absurd (show p ∈ ([] : List (Addr × Obj)) from hp) (by simp)⟩
  have loop : codeAny (model X.prog X.w) X.A (.compLoop (.ListComp elt [⟨.Name x px, iter, [tst], 0⟩] scope pos) 0 (.ref it) (.ref s2.heap.objs.size) (compEnvC scope cl s3.heap.objs.size X.env)) (RR (.ref s2.heap.objs.size) s3.heap.objs.size)
      { s3 with heap := h₁, toks := s2.toks + ([] : List (Str × Value)).length } := by
    refine codeAny_loop rfl (fun n s' => ∃ i ys H' a, Inv (cxComp X scope cl (x :: fr.map (·.1)) fp s3 (upd H2 s2.heap.objs.size (.lst []))) [] (a :: frv fr σ) H' s' ∧ tn i s'.heap ∧ (∀ b ∈ fp, H' b = none) ∧ W i n ys H') ?_ m0 ⟨0, [], _, none, I4, st4, fun b hb => (f3 b hb).1, w0⟩
    intro n s' hz_2
    refine hideG fun G_3 back_3 => ?_
    obtain ⟨i, ys, H', a, J', st', fr', w'⟩ := hz_2
    refine back_3 ?_
    clear back_3 G_3
    show wpAny _ _ ((compTurn (.ListComp elt [⟨.Name x px, iter, [tst], 0⟩] scope pos) 0 (.ref it) (.ref s2.heap.objs.size) (compEnvC scope cl s3.heap.objs.size X.env)).onRaise (fun x => do noteFrame x (compEnvC scope cl s3.heap.objs.size X.env); theTreesLotGoes x)) _ _ s'
    refine wpAny_noted ?_
    rw [compTurn_if1]
    refine hideG fun G_4 back_4 => ?_
    obtain ⟨hDl, q⟩ := turn i n ys H' w'
    refine back_4 ?_
    clear back_4 G_4
    rcases q with ⟨stop, fin⟩ | ⟨go, step⟩
    · refine wpAny_bind (wpAny_standAt (wpAny_bind (thn (T.done (cxComp X scope cl (x :: fr.map (·.1)) fp s3 (upd H2 s2.heap.objs.size (.lst []))) rfl rfl rfl rfl i [] s' _ H' _ J' (fpc fr') st' stop) fun r s1 ⟨hr, J1⟩ => ?_)))
      subst hr
      refine wpAny_pure ?_
      have back := comp_back I3 f3 J1
      refine hideG fun G_5 back_5 => ?_
      obtain ⟨m, hm, _⟩ := J1.loc
      refine back_5 ?_
      clear back_5 G_5
      exact hRR _ _ H' s1 back fin ⟨m, hm⟩ (I3.fpOk (Nat.le_refl _) J1.free)
    · refine wpAny_bind (wpAny_standAt (wpAny_bind (thn (T.item (cxComp X scope cl (x :: fr.map (·.1)) fp s3 (upd H2 s2.heap.objs.size (.lst []))) rfl rfl rfl rfl i [] s' _ H' _ J' (fpc fr') st' go) fun r s1 ⟨u, hr, h4⟩ => ?_)))
      subst hr
      refine wpAny_bind (thn h4 fun _ s5 ⟨x5, H5, J5, r5, y5, st5, fr5⟩ => ?_)
      have J5' := J5.pinned (fpc fr5) (T.obj _ _ st5)
      have hg : PG (cxComp X scope cl (x :: fr.map (·.1)) fp s3 (upd H2 s2.heap.objs.size (.lst []))) (.Name x px) (gName 0) := pg_name ok.nd rfl (.inl (lookup_relabel_local ok.hx)) (.inr (lookup_relabel_local ok.hx))
      refine wpAny_bind (wpAny_mono (hg _ s5 _ H5 x5 u (fun σ6 H6 => σ6 = some x5 :: frv fr σ ∧ H6 = H5) J5' r5 ⟨rfl, rfl⟩) (fun _ s6 h6 => ?_) fun _ _ f => f.elim)
      refine hideG fun G_6 back_6 => ?_
      obtain ⟨σ6, H6, J6, rfl, rfl⟩ := h6
      refine back_6 ?_
      clear back_6 G_6
      refine wpAny_bind (wpAny_tests_one (wpAny_mono (ht fp s3 (upd H2 s2.heap.objs.size (.lst [])) _ s6 _ H6 _ J6 (step x5 H6 y5)) (fun okb s6' h6' => ?_) fun _ _ f => f.elim))
      refine hideG fun G_7 back_7 => ?_
      obtain ⟨H6', J6', q6⟩ := h6'
      refine back_7 ?_
      clear back_7 G_7
      cases okb with
      | false =>
        refine hideG fun G_8 back_8 => ?_
        obtain ⟨m', hm', w7⟩ := (show ∃ m', m' < n ∧ W (i + 1) m' ys H6' from q6)
        refine back_8 ?_
        clear back_8 G_8
        refine wpAny_pure ⟨rfl, m', hm', i + 1, ys, H6', some x5, J6'.unpinned, T.keep _ _ _ st5 fun b hb o e => (J6'.pin (b, o) (List.mem_append_right _ (List.mem_append_right _ (mem_pinsAt hb e)))).1, fun b hb => ?_, w7⟩
        refine hideG fun G_9 back_9 => ?_
        obtain ⟨o, e, d⟩ := T.obj _ _ st5 b hb
        refine back_9 ?_
        clear back_9 G_9
        exact (J6'.pin (b, o) (List.mem_append_right _ (List.mem_append_right _ (mem_pinsAt hb e)))).2.1
      | true =>
        refine wpAny_bind (wpAny_bind (wpAny_mono (he fp s3 (upd H2 s2.heap.objs.size (.lst [])) _ s6' _ H6' _ J6' q6) (fun y s7 h7 => ?_) fun _ _ f => f.elim))
        refine hideG fun G_10 back_10 => ?_
        obtain ⟨yv, H7, J7, r7, hD7, hz7, m', hm', w7⟩ := h7
        refine back_10 ?_
        clear back_10 G_10
        refine wpAny_bind (wpAny_mono (mt_append (X := cxComp X scope cl (x :: fr.map (·.1)) fp s3 (upd H2 s2.heap.objs.size (.lst []))) _ s7 _ H7 (.ref s2.heap.objs.size) [yv] (.ref s2.heap.objs.size) [y] (fun v H8 => H8 = upd H7 s2.heap.objs.size (.lst (ys ++ [yv]))) J7 rfl (.cons r7 .nil) ⟨_, ys, yv, rfl, rfl, hD7, hz7, rfl⟩) (fun v8 s8 h8 => ?_) fun _ _ f => f.elim)
        refine hideG fun G_11 back_11 => ?_
        obtain ⟨v8, H8, J8, r8, rfl⟩ := h8
        refine back_11 ?_
        clear back_11 G_11
        refine wpAny_pure (wpAny_pure ⟨rfl, m', hm', i + 1, ys ++ [yv], _, some x5, J8.unpinned, T.keep _ _ _ st5 fun b hb o e => (J8.pin (b, o) (List.mem_append_right _ (List.mem_append_right _ (mem_pinsAt hb e)))).1, fun b hb => ?_, w7⟩)
        refine hideG fun G_12 back_12 => ?_
        obtain ⟨o, e, d⟩ := T.obj _ _ st5 b hb
        refine back_12 ?_
        clear back_12 G_12
        exact (J8.pin (b, o) (List.mem_append_right _ (List.mem_append_right _ (mem_pinsAt hb e)))).2.1
  have fin : codeAny (model X.prog X.w) X.A (.compStart (.ListComp elt [⟨.Name x px, iter, [tst], 0⟩] scope pos) 0 (.ref it) (.ref s2.heap.objs.size) (compEnvC scope cl s3.heap.objs.size X.env)) (RR (.ref s2.heap.objs.size) s3.heap.objs.size)
      { s3 with heap := h₁, toks := s2.toks + ([] : List (Str × Value)).length } := codeAny_compStart_list loop (T.self _ 0 _ _ _ st4 loop)
  rw [← es4, ← hC] at fin
  exact fin
theorem pe_compI (hc : X.calm = true) (hi : PI X (.Name x px) iter wi) (ok : CompOk X scope x cl fr) (ht : ∀ fp s H, PT (cxComp X scope cl (x :: fr.map (·.1)) fp s H) tst tt) (he : ∀ fp s H, PE (cxComp X scope cl (x :: fr.map (·.1)) fp s H) elt te)
    (hs : ∀ x, foldedSetIterable iter X.env x = pure x := by intro _; rfl) : PE X (.ListComp elt [⟨.Name x px, iter, [tst], 0⟩] scope pos) (tCompI wi fr tt te) := by
  intro pins s σ H Q I h
  rw [eval_ListComp]
  refine wpAny_comprehension_free (use := none) rfl hs ok.clos ok.kind ok.names (thn (hi pins s σ H _ I h) fun v s1 h1 => thn h1 fun itv s2 h2 => ?_)
  obtain ⟨it, fp, tn, J, H2, rfl, I2, T, st2, f2, R⟩ := h2
  refine comp_blockI (RR := fun acc C => compPost (model X.prog X.w) X.A X.xe none (EP X pins σ Q) acc C) hc ok ht he I2 T st2 f2 (Qf := fun D H' => Q (.ref D) H') R ?_
  intro D C H' s' I' q ⟨m, hm⟩ f'
  obtain ⟨f0, f1, _, f3, f4, f5⟩ := f'
  exact ⟨m, hm, fun h' sb => ⟨.ref D, H', I'.turned (t' := s'.toks) (fun b o hb e => (sb.2 b hb).trans e) f0 f1 f3 f4 f5, rfl, q⟩⟩
end
theorem comp_keep {K : PySem.W.Frag} {a D : Addr} {zs : List Str} {tt : TT} {te : TE} {vs : St} {Q : Hp → Prop} {H : Hp} (p : Str → Bool) (hS : SqL K H a (zs.map V.str)) (hD : H D = none) (hz : zs.length ≤ sizeLine)
    (ht : ∀ (y : Str) (H' : Hp) (R : Bool → Hp → Prop), y ∈ zs → (∀ H2, Same H' H2 → R (p y) H2) → tt (some (.str y) :: vs) H' R) (he : ∀ (y : Str) (H' : Hp) (R : VK), (∀ H2, Same H' H2 → R (.str y) H2) → te (some (.str y) :: vs) H' R)
    (q : ∀ H', Same H H' → H' D = some (.lst ((zs.filter p).map V.str)) → Q H') : CompRunI (Itl K a) tt te vs D Q (upd H D (.lst [])) := by
  refine ⟨fun i m ys H' => m = zs.length - i ∧ i ≤ zs.length ∧ ys = ((zs.take i).filter p).map V.str ∧ Same H H' ∧ H' D = some (.lst ys), ⟨zs.length, by simp, Nat.zero_le _, by simp, fun b o e => by rw [upd_ne (ne_of_none e hD)]; exact e, upd_same⟩, ?_⟩
  rintro i m ys H' ⟨rfl, hi, rfl, s, hd⟩
  refine ⟨hd, ?_⟩
  have hS' := s.seq hS
  by_cases hlt : i < zs.length
  · refine .inr ⟨⟨_, .str zs[i], hS', by simp [hlt]⟩, fun x H1 y => ?_⟩
    obtain ⟨e, y⟩ := y
    subst e
    have hx := y _ hS'
    have ex : x = .str zs[i] := by
      rw [List.getElem?_map, List.getElem?_eq_getElem hlt] at hx
      exact (Option.some.inj hx).symm
    subst ex
    have et : zs.take (i + 1) = zs.take i ++ [zs[i]] := List.take_succ_eq_append_getElem hlt
    refine ht _ _ _ (List.getElem_mem hlt) fun H2 s2 => ?_
    cases hp : p zs[i] with
    | true =>
      rw [if_pos rfl]
      refine he _ _ _ fun H3 s3 => ⟨s3 D _ (s2 D _ hd), ?_, zs.length - (i + 1), by omega, rfl, hlt, ?_, ?_, upd_same⟩
      · have h1 := List.length_filter_le p (zs.take i)
        rw [List.length_map]
        rw [List.length_take] at h1
        omega
      · rw [et, List.filter_append, List.map_append]
        simp [hp]
      · intro b o e
        rw [upd_ne (ne_of_none e hD)]
        exact s3 b o (s2 b o (s b o e))
    | false =>
      rw [if_neg Bool.false_ne_true]
      refine ⟨zs.length - (i + 1), by omega, rfl, hlt, ?_, fun b o e => s2 b o (s b o e), s2 D _ hd⟩
      rw [et, List.filter_append, List.map_append]
      simp [hp]
  · have e : i = zs.length := by omega
    subst e
    rw [List.take_length] at hd
    exact .inl ⟨⟨_, hS', by simp⟩, q H' s hd⟩
end L2
set_option Elab.async false
set_option linter.all false
set_option maxRecDepth 100000
namespace L2
open PySem PySem.Spec PyProof.Rows
theorem ObjOk.at {P : Program} {w : World} {H : Hp} {h : Heap} {a : Addr} {o : HO} (x : ObjOk P w H h a o) : ∃ u, h.get? a = some u := by
  cases o with
  | lst xs => obtain ⟨_, _, _, _, e⟩ := x; exact ⟨_, e⟩
  | tup xs => obtain ⟨_, _, _, ob, e, _⟩ := x; exact ⟨_, e⟩
  | dK kvs => obtain ⟨_, _, _, _, o, _, _, e, _⟩ := x; exact ⟨_, e⟩
  | dT kvs => obtain ⟨_, _, _, _, o, _, _, e, _⟩ := x; exact ⟨_, e⟩
  | set S n => obtain ⟨o, _, _, _, e, _⟩ := x; exact ⟨_, e⟩
  | ins C dx fs => obtain ⟨_, _, _, e, _⟩ := x; exact ⟨_, e⟩
  | own y => obtain ⟨_, e⟩ := x; exact ⟨_, e⟩
  | xd fs => obtain ⟨_, ⟨_, _, _, e, _⟩, _⟩ := x; exact ⟨_, e⟩
  | rng lo hi => obtain ⟨_, _, _, e⟩ := x; exact ⟨_, e⟩
  | frz ob u => obtain ⟨e, _⟩ := x; exact ⟨_, e⟩
  | tbl ps => exact ⟨_, show h.get? a = some _ from x⟩
  | met f y => exact ⟨_, show h.get? a = some _ from x⟩
  | ext φ => obtain ⟨_, ⟨_, e⟩, _⟩ := x; exact ⟨_, e⟩
theorem HOk.none_at {P : Program} {w : World} {H : Hp} {h : Heap} {a : Addr} (x : HOk P w H h) (e : h.get? a = none) : H a = none := by
  cases q : H a with
  | none => rfl
  | some o =>
    obtain ⟨u, z⟩ := (x a o q).at
    rw [e] at z; cases z
noncomputable def CXN (P : Program) (w : World) (cls : Value) : CXT := fun outer H s E e s' => ∃ (a : Addr) (H' : Hp), e = .ref a ∧ s'.os = s.os ∧ AllBare s'.gens ∧ Un (frs outer) [] H H' s.heap s'.heap ∧ H' a = none ∧
  (∃ B a0, Heap.FlyingW B outer a cls a0 s'.heap ∧ HOk P w H' B ∧ (∀ b o, s.heap.get? b = some o → H b = none → b ∉ frs outer → B.get? b = some o) ∧ ∀ b o, s.heap.get? b = some o → b ∉ frs outer → ∃ o', B.get? b = some o') ∧ E e none H'
section
variable {P : Program} {w : World} {K : PySem.W.Frag} {mg : Str → Option Value} {base : Heap} {N : List Str} {qual : Str} {scope : Scope} {f : Addr} {cd : Value} {A : Around} {outer : List Env} {s : Shared} {H : Hp} {E : XK} {cls : Value}
theorem frames_hide {b0 h : Heap} {as : List Addr} : ∀ {l : List Env}, h.FunFrames b0 l → (∀ env ∈ l, ∀ a, env.frame = some a → a ∈ as) → h.FunFrames (PySem.W.hideAll h as) l
  | [], _, _ => trivial
  | env :: _, ⟨hk, ⟨L, o, hf, _, ho, hd⟩, hr⟩, hin => ⟨hk, ⟨L, o, hf, PySem.W.hideAll_none _ (hin env (.head _) L hf), ho, hd⟩, frames_hide hr fun e he => hin e (.tail _ he)⟩
theorem flies {CX : CXT} {pins : List (Addr × Obj)} {σ : St} {H1 : Hp} {s1 : Shared} {h' : Heap} {e : Addr} {vs : List Value} (I : Inv (cxOf CX P w K mg base N qual scope f cd A outer s H E) pins σ H1 s1)
    (hx : Heap.MadeExcOf s1.heap h' e cls vs) (hE : E (.ref e) none H1) (hCX : ∀ e s', CXN P w cls outer H s E e s' → CX outer H s E e s') :
    (cxOf CX P w K mg base N qual scope f cd A outer s H E).xe (.ref e) { s1 with heap := h' } := by
  have nx : ∀ b : Addr, b ∉ (cxOf CX P w K mg base N qual scope f cd A outer s H E).ex := fun b z => absurd (show b ∈ ([] : List Addr) from z) (by simp)
  have hst := I.stack
  have stkF : ∀ b ∈ frs (envOfC qual scope s.heap.objs.size f cd :: outer), H1 b = none := I.stkFree
  have sub : ∀ b ∈ frs outer, b ∈ frs (envOfC qual scope s.heap.objs.size f cd :: outer) := fun b hb => List.mem_cons_of_mem _ hb
  have own : ∀ b ∈ frs (envOfC qual scope s.heap.objs.size f cd :: outer), b ∉ frs outer → b = s.heap.objs.size := fun b hb hn => by
    rcases List.mem_cons.mp hb with z | z
    · exact z
    · exact absurd z hn
  have inB : ∀ b o, s1.heap.get? b = some o → b ∉ frs (envOfC qual scope s.heap.objs.size f cd :: outer) → (PySem.W.hideAll s1.heap (frs (envOfC qual scope s.heap.objs.size f cd :: outer))).get? b = some o := fun b o q n => PySem.W.hideAll_get _ q n
  have old : ∀ b o, s.heap.get? b = some o → b ∉ frs outer → b ∉ frs (envOfC qual scope s.heap.objs.size f cd :: outer) := fun b o q n z => by
    have := own b z n
    rw [this] at q
    exact absurd (Heap.lt_size q) (Nat.lt_irrefl _)
  have keepB : ∀ b o, s.heap.get? b = some o → H b = none → b ∉ frs outer → (PySem.W.hideAll s1.heap (frs (envOfC qual scope s.heap.objs.size f cd :: outer))).get? b = some o := fun b o q n hb =>
    inB b o (I.base.keep b o q n hb (nx b)) (old b o q hb)
  refine wpAny_leaves_madeW (base := PySem.W.hideAll s1.heap (frs (envOfC qual scope s.heap.objs.size f cd :: outer))) (h := s1.heap) (s := { s1 with heap := h' }) (cls := cls) (args := vs) (outer := outer) (L := s.heap.objs.size) I.ok.frames rfl (fun b o q => PySem.W.of_hideAll _ q)
    (frames_hide hst fun env he a hf => List.mem_filterMap.mpr ⟨env, he, hf⟩) hx fun h2 t fl _ _ up => ?_
  refine hCX _ _ ⟨e, H1, rfl, I.os, I.bare, ?_, I.hok.none_at hx.new, ⟨_, _, fl, ?_, keepB, fun b o q n => ?_⟩, hE⟩
  · have slot : ∀ b o, s.heap.get? b = some o → H b = none → b ∈ frs outer → ∃ sl, h2.get? b = some { o with slots := sl } := fun b o q n hb => by
      obtain ⟨sl, e1⟩ := I.base.slot b o q n hb (nx b)
      obtain ⟨_, o', ho', hnf⟩ := hst.mem (sub b hb)
      rw [e1] at ho'
      cases ho'
      obtain ⟨sl2, e2⟩ := up b _ (hx.keeps b _ e1) hnf
      exact ⟨sl2, e2⟩
    refine ⟨fun b o q n hb _ => fl.1 b o (keepB b o q n hb), fun b o q n hb _ => slot b o q n hb, fun b o q n _ => I.base.free b o q n (nx b), fun b o q _ => ?_, I.base.tups, I.base.frzs, I.base.tbls⟩
    obtain ⟨o', e1⟩ := I.base.there b o q (nx b)
    by_cases hb : b ∈ frs (envOfC qual scope s.heap.objs.size f cd :: outer)
    · obtain ⟨_, o2, ho2, hnf⟩ := hst.mem hb
      rw [e1] at ho2
      cases ho2
      obtain ⟨sl2, e2⟩ := up b _ (hx.keeps b _ e1) hnf
      exact ⟨_, e2⟩
    · exact ⟨o', fl.1 b o' (inB b o' e1 hb)⟩
  · intro b o q
    refine (I.hok b o q).stay (fun c u hc z => inB c u z fun hf => ?_) (fun _ q => q) fun _ _ q => q
    have hn := stkF c hf
    rcases hc with hc | hc
    · rw [hc, q] at hn; cases hn
    · rw [hc] at hn; cases hn
  · obtain ⟨o', e1⟩ := I.base.there b o q (nx b)
    exact ⟨o', inB b o' e1 (old b o q n)⟩
end
noncomputable abbrev bmV : List Value := [.type "ValueError", .type "Exception", .type "BaseException", .type "object"]
set_option tactic.hygienic true in
theorem exc_obj {K : PySem.W.Frag} {h : Heap} {C : Addr} (X : K.In h) (q : PySem.W.excIn K C bmV "ValueError.__new__" = true) :
    ∃ (bm : List Value) (N : Addr) (nm qn : Str) (bs : List Value) (hd : Bool) (sn : List Str) (sub : List Value) (ab : Bool) (col : Option Bool) (dd : Option Addr) (k0 k1 k2 k3 k5 : Option Value) (mN : Str → Option Value),
      h.get? C = some (excClassObj nm qn C N bs bm hd sn sub ab col dd k0 k1 k2 k3 k5 "ValueError.__new__") ∧ h.Ns N mN ∧ mN "__init__" = none ∧ OwnTail h bmV bm := by
  unfold PySem.W.excIn at q
  split at q
  · rename_i dct cdt slots looked
    split at q
    · rename_i C2 tl j0 j1 j2 j3 nid j5 hm hs
      simp only [Bool.and_eq_true, beq_iff_eq, Bool.not_eq_true'] at q
      obtain ⟨⟨⟨⟨⟨rfl, rfl⟩, nodel⟩, tails⟩, nsok⟩, noini⟩ := q
      obtain ⟨cn, cbs, cmro, cns, cqn, chd, csn, csub, cab, ccol, cdel⟩ := cdt
      dsimp only at hm nodel nsok noini
      subst hm nodel
      have es : slots = #[j0, j1, j2, j3, some (.builtin "ValueError.__new__"), j5] := by
        obtain ⟨l⟩ := slots
        simp only at hs
        rw [hs]
      subst es
      exact ⟨tl, cns, cn, cqn, cbs, chd, csn, csub, cab, ccol, dct, j0, j1, j2, j3, j5, _, X _ _ looked, .of_isNs (PySem.W.isNs_of_in X nsok), PySem.W.nsMap_none_of_in X nsok noini, PySem.W.tail_of_in X tails⟩
    · cases q
  · cases q
section
variable {P : Program} {w : World} {K : PySem.W.Frag} {mg : Str → Option Value} {base : Heap} {N : List Str} {qual : Str} {scope : Scope} {f : Addr} {cd : Value} {A : Around} {outer : List Env} {s : Shared} {H : Hp} {E : XK} {CX : CXT}
theorem ps_raiseN {C : Addr} {x : Str} {e0 : Expr} {ta : TA} {np cpos pos : Pos} (q : PySem.W.excIn K C bmV "ValueError.__new__" = true) (hm : mg x = some (.ref C))
    (hg : Gl (cxOf CX P w K mg base N qual scope f cd A outer s H E) x) (ha : PA (cxOf CX P w K mg base N qual scope f cd A outer s H E) [e0] ta) (hCX : ∀ e s', CXN P w (.ref C) outer H s E e s' → CX outer H s E e s')
    (he : starEach [e0] (envOfC qual scope s.heap.objs.size f cd) = [(false, eval e0 (envOfC qual scope s.heap.objs.size f cd))] := by rfl) (hdb : (x == ("__debug__" : Str)) = false := by decide) :
    PS (cxOf CX P w K mg base N qual scope f cd A outer s H E) (.Raise (some (.Call (.Name x np) [e0] [] cpos)) none pos) (fun _ σ H1 => ta σ H1 fun vs H2 => vs.length ≤ sizeLine ∧ ∀ e, E (.ref e) none H2) := by
  intro pins s1 σ H1 D I h
  obtain ⟨bm, Nn, nm, qn, bs, hd, sn, sub, ab, col, dd, k0, k1, k2, k3, k5, mN, hC, hN, hni, T⟩ := exc_obj I.ok.mod.kin q
  have e1 : starEach [e0] (cxOf CX P w K mg base N qual scope f cd A outer s H E).env = [(false, eval e0 (cxOf CX P w K mg base N qual scope f cd A outer s H E).env)] := he
  refine wpAny_Raise_call_subT (C := C) (nm := nm) (q := qn) (N := Nn) (bs := bs) (bm := bm) (hdct := hd) (sn := sn) (sub := sub) (ab := ab) (col := col) (dd := dd) (k0 := k0) (k1 := k1) (k2 := k2) (k3 := k3) (k5 := k5)
    F.excBase_ValueError (mN := mN) (T.hasType F.excBase_ValueError.hasBase) (I.ok.hd rfl) (by rw [e1]; rfl) hni (ld_glob I hg hm ⟨rfl, ?_⟩ hdb)
  have hA := ha cpos pins s1 σ H1 _ I h
  rw [e1] at hA ⊢
  exact Calls.evalArgs_plain (thn hA fun us s2 ⟨vs, H2, I2, r, hl, hE⟩ => ⟨rfl, by rw [← r.length]; exact hl, I2.bk _ _ hC, hN.keeps I2.bk, T.keeps I2.bk, fun h' e hx => flies I2 hx (hE e) hCX⟩)
end
section
variable {X : Cx}
end
noncomputable abbrev Cx.inX (X : Cx) (e : Addr) (oe : Obj) : Cx := { X with A := X.A.mark (some (.ref e)), calm := false, pn := (e, oe) :: X.pn, xe := fun _ _ => False }
section
variable {X : Cx} {pins : List (Addr × Obj)} {σ : St} {H : Hp} {s : Shared} {e : Addr} {oe : Obj}
theorem Cx.Ok.inX (ok : X.Ok) : (X.inX e oe).Ok :=
  ⟨ok.mod, ok.kind, ok.glob, ok.blt, ok.above, ok.inj, ok.has, ok.cab, (fun z => by cases z), ok.frames, ok.stk, ok.exf, ok.bs, ok.bsz, ok.noex, ok.exfs, ok.funs, ok.frf⟩
theorem Inv.inX (I : Inv X pins σ H s) (he : s.heap.get? e = some oe) (hn : H e = none) (hL : e ≠ X.env.locals) (hf : e ∉ X.fs) (hd : ∀ v, oe.data ≠ .cell v) : Inv (X.inX e oe) pins σ H s :=
  ⟨I.ok.inX, I.os, I.bare, I.base, I.loc, I.cell, I.free, I.freeC, fun p hp => by
    rcases List.mem_append.mp hp with z | z
    · rcases List.mem_cons.mp z with z | z
      · subst z; exact ⟨he, hn, hL, hf, hd⟩
      · exact I.pin p (List.mem_append_left _ z)
    · exact I.pin p (List.mem_append_right _ z), I.hok, I.len⟩
theorem Inv.outX (ok : X.Ok) (J : Inv (X.inX e oe) pins σ H s) : Inv X pins σ H s :=
  ⟨ok, J.os, J.bare, J.base, J.loc, J.cell, J.free, J.freeC, fun p hp => by
    rcases List.mem_append.mp hp with z | z
    · exact J.pin p (List.mem_append_left _ (List.mem_cons_of_mem _ z))
    · exact J.pin p (List.mem_append_right _ z), J.hok, J.len⟩
theorem SP.outX (ok : X.Ok) {D : Ends} {f : Flow} {s' : Shared} (h : SP (X.inX e oe) pins D f s') : SP X pins D f s' := by
  cases f with
  | next => obtain ⟨σ', H', I, q⟩ := h; exact ⟨σ', H', I.outX ok, q⟩
  | brk => obtain ⟨σ', H', I, q⟩ := h; exact ⟨σ', H', I.outX ok, q⟩
  | cont => obtain ⟨σ', H', I, q⟩ := h; exact ⟨σ', H', I.outX ok, q⟩
  | ret u => obtain ⟨v, σ', H', I, r, q⟩ := h; exact ⟨v, σ', H', I.outX ok, r, q⟩
theorem inv_came {H' : Hp} {s' : Shared} {h : Heap} {B : Heap} (I : Inv X pins σ H s) (hos : s'.os = s.os) (hg : AllBare s'.gens) (un : Un (frs X.stack) [] H H' s.heap s'.heap) (hok : HOk X.prog X.w H' B)
    (kb : ∀ b o, s.heap.get? b = some o → H b = none → b ∉ frs X.stack → B.get? b = some o) (kb2 : ∀ b o, s.heap.get? b = some o → b ∉ frs X.stack → ∃ o', B.get? b = some o')
    (st : B.StaysIn h) (up : s'.heap.UpToSlots h) : Inv X pins σ H' { s' with heap := h } := by
  have slot : ∀ b o, s.heap.get? b = some o → H b = none → b ∈ frs X.stack → ∃ sl, h.get? b = some { o with slots := sl } := fun b o q n hb => by
    obtain ⟨sl, e1⟩ := un.slot b o q n hb (by simp)
    obtain ⟨_, o', ho', hnf⟩ := I.stack.mem hb
    rw [q] at ho'
    cases ho'
    obtain ⟨sl2, e2⟩ := up b _ e1 hnf
    exact ⟨sl2, e2⟩
  refine I.call' (ch := []) (s' := { s' with heap := h }) hos ⟨fun b o q n hb _ => st b o (kb b o q n hb), fun b o q n hb _ => slot b o q n hb, un.free, fun b o q _ => ?_, un.tups, un.frzs, un.tbls⟩ (hok.kept st) hg fun _ z => nomatch z
  by_cases hb : b ∈ frs X.stack
  · obtain ⟨sl, e1⟩ := slot b o q (I.stkFree b hb) hb
    exact ⟨_, e1⟩
  · obtain ⟨o', e1⟩ := kb2 b o q hb
    exact ⟨o', st b o' e1⟩
theorem caught {H' : Hp} {s' : Shared} {E : XK} {C Cx' : Addr} {v : Value} {x : Str} {np pos : Pos} {b0 : Stmt} {suite : List Stmt} {ts : TS} {D : Ends} {EX : Value → Shared → Prop} (I : Inv X pins σ H s) (hst : X.stack = X.env :: X.outer) (hfr : X.env.frame = some X.env.locals)
    (hx : CXN X.prog X.w (.ref C) X.stack H s E v s') (hg : Gl X x) (hm : X.mg x = some (.ref Cx'))
    (hmat : ∀ (h : Heap) (g : Array GenState) (d : Drawn) (t : Nat) (os : OsState) (e : Addr) (oe : Obj) (A : Around) (Q : Bool → Shared → Prop) (E : Value → Shared → Prop), X.K.In h → h.get? e = some oe → oe.cls = .ref C → Q true ⟨h, g, d, t, os⟩ → wpAny (model X.prog X.w) A (excMatches (.ref e) (.ref Cx')) Q E ⟨h, g, d, t, os⟩)
    (hs : ∀ e oe, oe.cls = .ref C → PSs (X.inX e oe) (b0 :: suite) ts) (hq : ∀ H', E v none H' → ts D σ H') (hdb : (x == ("__debug__" : Str)) = false := by decide) :
    wpAny (model X.prog X.w) X.A (noteFrame v X.env) (fun _ s2 => wpAny (model X.prog X.w) X.A (setFlight v none) (fun _ s3 => wpAny (model X.prog X.w) X.A (handleBy v X.env [.ExceptHandler (some (.Name x np)) none (b0 :: suite) pos]) (SP X pins D) EX s3) EX s2) EX s' := by
  obtain ⟨a, H', rfl, hos, hbare, un, hna, ⟨B, a0, fl, hokB, keepB, keep2⟩, hE⟩ := hx
  have fl' := fl
  rw [hst] at fl'
  have locF : X.env.locals ∈ frs X.stack := by
    rw [hst]
    unfold frs
    rw [List.filterMap_cons, hfr]
    exact List.mem_cons_self
  have apart : ∀ {h : Heap}, Heap.FlyingW B (X.env :: X.outer) a (.ref C) a0 h → ∃ oe, h.get? a = some oe ∧ oe.cls = .ref C ∧ a ≠ X.env.locals ∧ a ∉ X.fs ∧ ∀ v, oe.data ≠ .cell v := fun {h} z => by
    obtain ⟨oe, vs, T, oT, ts, he, hc, hd, h1, hnT, hTe, hT, hdT, h3⟩ := z.2.2.2
    refine ⟨oe, he, hc.1, fun w => ?_, fun w => ?_, fun v q => by rw [hd] at q; cases q⟩
    · obtain ⟨_, ⟨L', o, hf, hn', ho, hnf⟩, _⟩ := z.2.2.1
      rw [hfr] at hf
      cases hf
      rw [← w, he] at ho
      cases ho
      exact hnf _ hd
    · obtain ⟨_, o, ho, hnf⟩ := (z.2.2.1).2.2.mem w
      rw [he] at ho
      cases ho
      exact hnf _ hd
  refine wpAny_looks_onW (by rw [I.ok.frames, hst]) hfr fl' fun h4 held4 sm4 => ?_
  refine wpAny_landsW held4 fun h5 fl5 sm5 => ?_
  have I5 := inv_came I hos hbare un hokB keepB keep2 fl5.1 (sm4.trans sm5)
  obtain ⟨oe5, p1, p2, p3, p4, p5⟩ := apart fl5
  refine wpAny_handleBy_cons (codeAny_handlers_test (ld_glob (X := X.inX a oe5) (I5.inX p1 hna p3 p4 p5) hg hm ?_ hdb)) (by intro z; cases z)
  refine hmat h5 _ _ _ _ a oe5 _ _ _ I5.kIn p1 p2 (codeAny_handlers_suite ?_)
  refine lands_againW fl5 fun h6 fl6 sm6 => ?_
  have I6 := inv_came I hos hbare un hokB keepB keep2 fl6.1 ((sm4.trans sm5).trans sm6)
  obtain ⟨oe6, r1, r2, r3, r4, r5⟩ := apart fl6
  refine wpAny_mono (hs a oe6 r2 pins _ σ H' D (I6.inX r1 hna r3 r4 r5) (hq H' hE)) (fun f s2 z => ?_) fun _ _ z => z.elim
  exact z.outX I.ok
end
end L2
set_option Elab.async false
set_option linter.all false
set_option maxRecDepth 100000
namespace L2
open PySem PySem.Spec PyProof.Rows
section
variable {prog : Program} {w : World} {A : Around} {E : Value → Shared → Prop} {K : PySem.W.Frag} {h : Heap} {g : Array GenState} {d : Drawn} {t : Nat} {os : OsState} {a C : Addr} {o : Obj}
structure ExFacts (K : PySem.W.Frag) (C : Addr) : Prop where
  exc : PySem.W.excIn K C bmV "ValueError.__new__" = true
  ga : PySem.W.findIn K (.ref C) "__getattribute__" = some (some (.builtin "BaseException.__getattribute__"))
  gt : PySem.W.findIn K (.ref C) "__getattr__" = some none
  cl : PySem.W.findIn K (.ref C) "__class__" = some (some (.builtin "object.__class__"))
  sb : PySem.W.subIn K (.ref C) (.type "BaseException") = some true
  so : PySem.W.subIn K (.ref C) (.type "object") = some true
theorem exc_ty (hx : h.get? a = some o) (hc : o.cls = .ref C) (M : Model) : PySem.W.Looks M h (typeOf (.ref a)) (.ref C) := by
  intro A' Q' E' s' k q
  show wpAny M A' (do let z ← loadPart a (some headPart); pure z.cls) Q' E' s'
  exact wpAny_bind (wpAny_loadPart (k _ _ hx) (wpAny_pure (by rw [hc]; exact q)))
end
end L2
set_option Elab.async false
set_option linter.all false
set_option maxRecDepth 100000
namespace L2
open PySem PySem.Spec PyProof.Rows
theorem exc_matches {M : Model} {K : PySem.W.Frag} {h : Heap} {g : Array GenState} {d : Drawn} {t : Nat} {os : OsState} {e C D : Addr} {oe : Obj} {A : Around} {Q : Bool → Shared → Prop} {E : Value → Shared → Prop}
    (hD : PySem.W.kitCls K (.ref C) (.ref D) = some true) (hB : PySem.W.subIn K (.ref D) (.type "BaseException") = some true) (X : K.In h) (he : h.get? e = some oe) (hc : oe.cls = .ref C) (hq : Q true ⟨h, g, d, t, os⟩) :
    wpAny M A (excMatches (.ref e) (.ref D)) Q E ⟨h, g, d, t, os⟩ := by
  obtain ⟨hty, his, hsub⟩ := PySem.W.kit_cls (M := M) X hD
  have LT := exc_ty he hc M
  have LB := PySem.W.looks_subIn (M := M) X hB
  have f := tc_notTuple
  unfold excMatches isInstance isExcClass
  refine wpAny_bind (wpAny_bind (hty.at ?_))
  rw [f]
  refine wpAny_pure ?_
  simp only [Bool.false_eq_true, if_false]
  refine wpAny_bind (wpAny_pure ?_)
  simp only [List.forIn_cons, List.forIn_nil, bind_assoc]
  refine wpAny_bind (his.at ?_)
  simp only [if_true]
  refine wpAny_bind (LB.at ?_)
  simp only [Bool.not_true, Bool.false_eq_true, if_false, pure_bind]
  refine wpAny_bind (LT.at ?_)
  refine wpAny_bind (hsub.at ?_)
  simp only [if_true, pure_bind]
  exact wpAny_pure hq
section
variable {X : Cx} {CX : CXT} {k : Nat} {f C : Addr} {fd : FuncData} {ps : List Str} {sp : Sp} {x : Str} {p pos : Pos} {e : Expr} {es : List Expr} {t : TA}
noncomputable def Lands (X : Cx) (C : Addr) (hs : List ExceptHandler) (ts : TS) : Prop :=
  ∀ (pins : List (Addr × Obj)) (σ : St) (H : Hp) (s s' : Shared) (E : XK) (v : Value) (D : Ends) (EX : Value → Shared → Prop), Inv X pins σ H s → CXN X.prog X.w (.ref C) X.stack H s E v s' → (∀ H', E v none H' → ts D σ H') →
    wpAny (model X.prog X.w) X.A (noteFrame v X.env) (fun _ s2 => wpAny (model X.prog X.w) X.A (setFlight v none) (fun _ s3 => wpAny (model X.prog X.w) X.A (handleBy v X.env hs) (SP X pins D) EX s3) EX s2) EX s'
theorem lands {D : Addr} {y : Str} {np hpos : Pos} {b0 : Stmt} {suite : List Stmt} {ts : TS} (hst : X.stack = X.env :: X.outer) (hfr : X.env.frame = some X.env.locals) (hg : Gl X y) (hm : X.mg y = some (.ref D))
    (hD : PySem.W.kitCls X.K (.ref C) (.ref D) = some true) (hB : PySem.W.subIn X.K (.ref D) (.type "BaseException") = some true) (hs : ∀ e oe, oe.cls = .ref C → PSs (X.inX e oe) (b0 :: suite) ts) (hdb : (y == ("__debug__" : Str)) = false := by decide) :
    Lands X C [.ExceptHandler (some (.Name y np)) none (b0 :: suite) hpos] ts := fun pins σ H s s' E v D' EX I hx hq =>
  caught (H' := H) I hst hfr hx hg hm (fun h g d t os e oe A Q E K he hc q => exc_matches hD hB K he hc q) hs hq hdb
end
section
variable {X : Cx} {pins : List (Addr × Obj)} {σ : St} {H : Hp} {s : Shared}
end
end L2
set_option Elab.async false
set_option linter.all false
set_option maxRecDepth 100000
namespace L2
open PySem PySem.Spec PyProof.Rows
theorem thnT {α : Type} {t : Sem α} {Q Q' : α → Shared → Prop} {M : Model} {A : Around} {E : Value → Shared → Prop} {s : Shared} {n : Nat} (h : wpAny M A t Q E s) (hn : n ≤ s.toks) (hQ : ∀ a s', Q a s' → n ≤ s'.toks → Q' a s') : wpAny M A t Q' E s :=
  wpAny_mono (wpAny_toks h hn) (fun a s' z => hQ a s' z.1 z.2) fun _ _ x => x
noncomputable def PEt (n : Nat) (X : Cx) (e : Expr) (t : TE) : Prop := ∀ (pins : List (Addr × Obj)) (s : Shared) (σ : St) (H : Hp) (Q : VK), Inv X pins σ H s → n ≤ s.toks → t σ H Q → wpAny (model X.prog X.w) X.A (eval e X.env) (EP X pins σ Q) X.xe s
noncomputable def PTt (n : Nat) (X : Cx) (e : Expr) (t : TT) : Prop := ∀ (pins : List (Addr × Obj)) (s : Shared) (σ : St) (H : Hp) (Q : Bool → Hp → Prop), Inv X pins σ H s → n ≤ s.toks → t σ H Q → wpAny (model X.prog X.w) X.A (isTrue e X.env (eval e X.env)) (TP X pins σ Q) X.xe s
noncomputable def PWt (n : Nat) (X : Cx) (e : Expr) (t : TT) : Prop := ∀ (whole : Sem Value) (pins : List (Addr × Obj)) (s : Shared) (σ : St) (H : Hp) (Q : Bool → Hp → Prop), Inv X pins σ H s → n ≤ s.toks → t σ H Q → wpAny (model X.prog X.w) X.A (isTrue e X.env whole) (TP X pins σ Q) X.xe s
noncomputable def PAt (n : Nat) (X : Cx) (es : List Expr) (t : TA) : Prop := ∀ (pos : Pos) (pins : List (Addr × Obj)) (s : Shared) (σ : St) (H : Hp) (Q : List V → Hp → Prop), Inv X pins σ H s → n ≤ s.toks → t σ H Q → wpAny (model X.prog X.w) X.A (spliced (backTo pos (starEach es X.env))) (AP X pins σ Q) X.xe s
noncomputable def PSt (n : Nat) (X : Cx) (st : Stmt) (t : TS) : Prop := ∀ (pins : List (Addr × Obj)) (s : Shared) (σ : St) (H : Hp) (D : Ends), Inv X pins σ H s → n ≤ s.toks → t D σ H → wpAny (model X.prog X.w) X.A (exec st X.env) (SP X pins D) X.xe s
noncomputable def PSst (n : Nat) (X : Cx) (st : List Stmt) (t : TS) : Prop := ∀ (pins : List (Addr × Obj)) (s : Shared) (σ : St) (H : Hp) (D : Ends), Inv X pins σ H s → n ≤ s.toks → t D σ H → wpAny (model X.prog X.w) X.A (execs st X.env) (SP X pins D) X.xe s
structure FnOkT (n : Nat) (P : Program) (w : World) (K : PySem.W.Frag) (mg : Str → Option Value) (base : Heap) (CX : CXT) (k : Nat) (f : Addr) (fd : FuncData) (ps : List Str) (sp : Sp) : Prop where
  len : ∀ vs H Q E, sp vs H Q E → vs.length = ps.length
  run : ∀ (A : Around) (outer : List Env) (s : Shared) (H : Hp) (args : Args) (us : List Value) (vs : List V) (Q : VK) (E : XK), Room k A → Env0 P w K mg base A outer s H → BindsTo s fd args (ps.zip us) → Vals vs us → sp vs H Q E → n ≤ s.toks →
    codeAny (model P w) A (.call (.ref f) args) (CR CX outer P w H s Q E) s
section
variable {n : Nat} {X : Cx} {e a b o : Expr} {es rest : List Expr} {te ta tb to : TE} {t : TA} {tA tB' : TT} {st : Stmt} {sts : List Stmt} {ts us : TS} {pos : Pos}
theorem PA.tt (h : PA X es t) : PAt n X es t := fun pos pins s σ H Q I _ q => h pos pins s σ H Q I q
theorem PS.tt (h : PS X st ts) : PSt n X st ts := fun pins s σ H D I _ q => h pins s σ H D I q
theorem PSs.tt (h : PSs X sts ts) : PSst n X sts ts := fun pins s σ H D I _ q => h pins s σ H D I q
theorem FnOk.tt {P : Program} {w : World} {K : PySem.W.Frag} {mg : Str → Option Value} {base : Heap} {CX : CXT} {k : Nat} {f : Addr} {fd : FuncData} {ps : List Str} {sp : Sp} (F : FnOk P w K mg base CX k f fd ps sp) : FnOkT n P w K mg base CX k f fd ps sp :=
  ⟨F.len, fun A outer s H args us vs Q E hr he hb hv hs _ => F.run A outer s H args us vs Q E hr he hb hv hs⟩
theorem FnOkT.mono {P : Program} {w : World} {K : PySem.W.Frag} {mg : Str → Option Value} {base : Heap} {CX : CXT} {j k : Nat} {f : Addr} {fd : FuncData} {ps : List Str} {sp : Sp} (F : FnOkT n P w K mg base CX j f fd ps sp) (h : j ≤ k) : FnOkT n P w K mg base CX k f fd ps sp :=
  ⟨F.len, fun A outer s H args us vs Q E hr => F.run A outer s H args us vs Q E (hr.mono h)⟩
theorem pss_consT (h1 : PSt n X st ts) (h2 : PSst n X sts us) : PSst n X (st :: sts) (tSeq ts us) := by
  intro pins s σ H D I hn h
  refine wpAny_execs_cons (thnT (h1 pins s σ H { D with nx := us D } I hn h) hn fun f s1 q hn1 => ?_)
  cases f with
  | next =>
    obtain ⟨σ', H', I', q⟩ := q
    exact h2 pins s1 σ' H' D I' hn1 q
  | ret v => exact q
  | brk => exact q
  | cont => exact q
theorem pss_oneT (h1 : PSt n X st ts) : PSst n X [st] ts := by
  intro pins s σ H D I hn h
  refine wpAny_execs_cons (thn (h1 pins s σ H D I hn h) fun f s1 q => ?_)
  cases f with
  | next => exact wpAny_execs_nil q
  | ret v => exact q
  | brk => exact q
  | cont => exact q
theorem ps_setT {i : Nat} {x : Str} {pos' : Pos} (hN : X.N.Nodup) (hi : X.N[i]? = some x) (hl : X.env.scope.names.lookup x = some .local) (he : PEt n X e te) (hs : swapsWith e (some (.Name x pos')) pos.line X.env = pure false := by rfl) :
    PSt n X (.Assign [.Name x pos'] e pos) (tAsg te (gName i)) := by
  intro pins s σ H D I hn h
  refine wpAny_Assign_Name (thn (he pins s σ H _ I hn h) fun v s1 ⟨y, H1, I1, r1, q1⟩ => ?_) hs
  exact store_ok I1 hN hi (.inl hl) r1 (fun s2 I2 => ⟨_, H1, I2, q1⟩) (.inr hl)
theorem ps_exprT (he : PEt n X e te) (hs : swapsWith e none pos.line X.env = pure false := by rfl) : PSt n X (.Expr e pos) (tDrop te) := by
  intro pins s σ H D I hn h
  exact wpAny_Expr_any (thn (he pins s σ H _ I hn h) fun v s1 ⟨x, H1, I1, r1, q1⟩ => ⟨σ, H1, I1, q1⟩) I.quiet hs
theorem ps_retT (he : PEt n X e te) : PSt n X (.Return (some e) pos) (tRet te) := by
  intro pins s σ H D I hn h
  exact wpAny_Return_some (thn (he pins s σ H _ I hn h) fun v s1 ⟨x, H1, I1, r1, q1⟩ => ⟨x, σ, H1, I1, r1, q1⟩)
theorem pa_consT (ha : PEt n X e te) (hr : PAt n X es t) (hs : starEach (e :: es) X.env = (false, eval e X.env) :: starEach es X.env := by rfl) : PAt n X (e :: es) (tCons te t) := by
  intro pos pins s σ H Q I hn h
  rw [hs]
  show wpAny _ _ (spliced ((false, eval e X.env) :: backTo pos (starEach es X.env))) _ _ s
  refine Calls.spliced_cons (thnT (ha pins s σ H _ I hn h) hn fun u s1 ⟨x, H1, I1, r1, q1⟩ hn1 => ?_)
  exact thn (hr pos pins s1 σ H1 _ I1 hn1 q1) fun us s2 ⟨xs, H2, I2, r2, q2⟩ => ⟨x :: xs, H2, I2, .cons r1 r2, q2⟩
theorem run_fnT {CX : CXT} {k : Nat} {f : Addr} {fd : FuncData} {ps : List Str} {sp : Sp} {dvs : List V} {ds : List Value} {E : XK} {pins : List (Addr × Obj)} {σ : St} {H : Hp} {s : Shared} {Q : VK} {us : List Value} {vs : List V} (F : FnOkT n X.prog X.w X.K X.mg X.base CX k f fd ps sp) (hr : Room k X.A) (hb : Binds X.K fd ps ds) (hd : Vals dvs ds) (hx : Passes CX X E)
    (I : Inv X pins σ H s) (hn : n ≤ s.toks) (r : Vals vs us) (h : sp (vs ++ dvs) H Q E) : wpAny (model X.prog X.w) X.A (call (.ref f) us) (EP X pins σ Q) X.xe s := by
  have r2 : Vals (vs ++ dvs) (us ++ ds) := r.append hd
  have hl : (us ++ ds).length = ps.length := by rw [← r2.length]; exact F.len _ _ _ _ h
  refine wpAny_call (codeAny_mono (F.run X.A X.stack s H ⟨us, []⟩ (us ++ ds) (vs ++ dvs) Q E hr I.env0 (hb s us I.kIn hl) r2 h hn) fun r s' hq => ?_)
  cases r with
  | error e => exact hx pins σ H s e s' I hq
  | ok fl =>
    cases fl with
    | ret u => exact I.after hq
    | next => exact False.elim hq
    | brk => exact False.elim hq
    | cont => exact False.elim hq
theorem pe_callT {CX : CXT} {k : Nat} {f : Addr} {fd : FuncData} {ps : List Str} {sp : Sp} {dvs : List V} {ds : List Value} {E : XK} {x : Str} {p : Pos} (F : FnOkT n X.prog X.w X.K X.mg X.base CX k f fd ps sp) (hr : Room k X.A) (hg : Gl X x) (hm : X.mg x = some (.ref f)) (hk : PySem.W.keepIn X.K (.ref f) = true) (hb : Binds X.K fd ps ds) (hd : Vals dvs ds) (hx : Passes CX X E)
    (ha : PAt n X (e :: es) t) (hdb : (x == ("__debug__" : Str)) = false := by decide) (he : starEach (e :: es) X.env = (false, eval e X.env) :: starEach es X.env := by rfl) (hpl : (backTo pos (starEach es X.env)).any (·.1) = false := by rfl) :
    PEt n X (.Call (.Name x p) (e :: es) [] pos) (tCall sp dvs E t) := by
  intro pins s σ H Q I hn h
  refine wpAny_Call_Name_kw (ld_glob I hg hm ?_ hdb)
  refine PySem.W.callWith_K (h₀ := X.base) I.ok.mod.kin hk (thnT (ha pos pins s σ H _ I hn h) hn fun us s1 ⟨vs, H1, I1, r, q⟩ hn1 => ⟨I1.kIn, ?_⟩) he hpl
  exact run_fnT F hr hb hd hx I1 hn1 r q
theorem pe_makeT {CX : CXT} {k : Nat} {f C : Addr} {fd : FuncData} {ps : List Str} {sp : Sp} {dvs : List V} {ds : List Value} {E : XK} {x : Str} {p : Pos} (M : Mk X.K C f) (F : FnOk X.prog X.w X.K X.mg X.base CX k f fd ps sp) (hr : Room (k + 1) X.A) (hg : Gl X x) (hm : X.mg x = some (.ref C)) (hb : Binds X.K fd ps ds) (hd : Vals dvs ds) (hx : Passes CX X E)
    (ha : PAt n X (e :: es) t) (hdb : (x == ("__debug__" : Str)) = false := by decide) (he : starEach (e :: es) X.env = (false, eval e X.env) :: starEach es X.env := by rfl) (hpl : (backTo pos (starEach es X.env)).any (·.1) = false := by rfl) :
    PEt n X (.Call (.Name x p) (e :: es) [] pos) (tMake C sp dvs E t) := by
  intro pins s σ H Q I hn h
  refine wpAny_Call_Name_kw (ld_glob I hg hm ?_ hdb)
  refine PySem.W.callWith_K (h₀ := X.base) I.ok.mod.kin M.kp (thn (ha pos pins s σ H _ I hn h) fun us s1 ⟨vs, H1, I1, r, q⟩ => ⟨I1.kIn, ?_⟩) he hpl
  exact run_make M F hr hb hd hx I1 r q
theorem pe_bmT {name : Str} {apos cpos : Pos} {T id : String} {r : V → List V → Hp → VK → Prop} (pa : PlainAttrs T) (slot : Slot T name id) (hty : typeOf (.builtin id) = pure (.type "method_descriptor")) (hm : MtR X id r) (ho : PE X o to) (ha : PAt n X (e :: es) t)
    (hbase : attributeBase o name X.env (eval o X.env) = eval o X.env := by rfl)
    (hfew : ((backTo cpos (starEach (e :: es) X.env)).all (fun x => !x.1) && (backToKw cpos (keywordEach [] X.env)).all (fun x => x.1.isSome)
      && decide ((e :: es).length + ([] : List Keyword).length + (if ([] : List Keyword).isEmpty then 0 else 1) < 30)) = true := by rfl)
    (hline : (apos.endLine == cpos.line) = true := by rfl) (hs : starEach (e :: es) X.env = (false, eval e X.env) :: starEach es X.env := by rfl) (hplain : (backTo cpos (starEach es X.env)).any (·.1) = false := by rfl) :
    PEt n X (.Call (.Attribute o name apos) (e :: es) [] cpos) (tBM X.K T r to t) := by
  intro pins s σ H Q I hn h
  refine wpAny_Call_method_late hbase hfew hline rfl (thnT (ho pins s σ H _ I h) hn fun v s1 ⟨x, H1, I1, r1, ty, q1⟩ hn1 => ?_)
  obtain ⟨h1, h2⟩ := tyV_is I1 r1 ty
  refine ⟨T, id, pa, slot, hty, h1, h2, ?_⟩
  have hA := ha cpos pins s1 σ H1 _ I1 hn1 q1
  rw [hs] at hA ⊢
  refine Calls.callWith_builtin (by show (false || (backTo cpos (starEach es X.env)).any (·.1)) = false; rw [hplain] <;> rfl) (Calls.evalArgs_plain ?_)
  exact thn hA fun us s2 ⟨vs, H2, I2, r2, q2⟩ => hm pins s2 σ H2 x vs v us Q I2 r1 r2 q2
theorem ps_forT {tg : Expr} {iter : Expr} {body : List Stmt} {wi : TI} {g : TG} (hp : PassesOwn (model X.prog X.w) X.A X.env X.xe) (hc : X.calm = true) (hi : PI X tg iter wi) (hg : PG X tg g) (hb : PSst n X body ts)
    (hs : ∀ x, foldedSetIterable iter X.env x = pure x := by intro _; rfl) : PSt n X (.For tg iter body [] pos) (tFor wi g ts) := by
  intro pins s σ H D I hn h
  refine wpAny_For (thnT (hi pins s σ H _ I h) hn fun v s1 h1 hn1 => thnT h1 hn1 fun itv s2 h2 hn2 => ?_) hs
  refine hideG fun G_1 back_1 => ?_
  obtain ⟨it, fp, tn, J, H2, e, I2, T, st2, f2, W, ⟨m0, w0⟩, turn⟩ := h2
  refine back_1 ?_
  clear back_1 G_1
  subst e
  have stat : ∀ {H' : Hp}, (∀ b ∈ fp, H' b = none) → ∀ b ∈ fp, FpOk X pins H' b := fun hn b hb => ⟨hn b hb, (f2 b hb).2⟩
  refine codeAny_forLoop_any (fun m s' => ∃ i σ' H', Inv X pins σ' H' s' ∧ tn i s'.heap ∧ (∀ b ∈ fp, H' b = none) ∧ W i m σ' H' ∧ n ≤ s'.toks) ?_ m0 ⟨0, σ, H2, I2, st2, fun b hb => (f2 b hb).1, w0, hn2⟩
  intro m s3 hz_2
  refine hideG fun G_2 back_2 => ?_
  obtain ⟨i, σ3, H3, I3, st3, fr3, w3, hn3⟩ := hz_2
  refine back_2 ?_
  clear back_2 G_2
  rcases turn i m σ3 H3 w3 with ⟨stop, qn⟩ | ⟨go, N, hN, step⟩
  · refine wpAny_passesOwn hp (thn (T.done X rfl rfl rfl hc i pins s3 σ3 H3 X.xe I3 (stat fr3) st3 stop) fun r s4 ⟨hr, I4⟩ => ?_)
    subst hr
    exact wpAny_execs_nil ⟨σ3, H3, I4, qn⟩
  · refine wpAny_passesOwn hp (thnT (T.item X rfl rfl rfl hc i pins s3 σ3 H3 X.xe I3 (stat fr3) st3 go) hn3 fun r s4 ⟨u, hr, h4⟩ hn4 => ?_)
    subst hr
    refine wpAny_passesOwn hp (thnT h4 hn4 fun _ s5 ⟨x, H5, I5, r5, y5, st5, fr5⟩ hn5 => ?_)
    have I5' := I5.pinned (stat fr5) (T.obj _ _ st5)
    refine wpAny_passesOwn hp (thnT (hg _ s5 σ3 H5 x u _ I5' r5 (step x H5 y5)) hn5 fun _ s6 ⟨σ6, H6, I6, q6⟩ hn6 => ?_)
    refine wpAny_passesOwn hp (thnT (hb _ s6 σ6 H6 _ I6 hn6 q6) hn6 fun f s7 q7 hn7 => ?_)
    have again : ∀ {σ7 : St} {H7 : Hp}, Inv X (pins ++ pinsAt fp s5.heap) σ7 H7 s7 → N σ7 H7 → ∃ m', m' < m ∧ ∃ i σ' H', Inv X pins σ' H' s7 ∧ tn i s7.heap ∧ (∀ b ∈ fp, H' b = none) ∧ W i m' σ' H' ∧ n ≤ s7.toks := fun {σ7 H7} I7 n7 => by
      refine hideG fun G_3 back_3 => ?_
      obtain ⟨m', hm, w7⟩ := hN σ7 H7 n7
      refine back_3 ?_
      clear back_3 G_3
      refine ⟨m', hm, i + 1, σ7, H7, I7.unpinned, T.keep _ _ _ st5 fun b hb o e => (I7.pin (b, o) (List.mem_append_right _ (List.mem_append_right _ (mem_pinsAt hb e)))).1, fun b hb => ?_, w7, hn7⟩
      refine hideG fun G_4 back_4 => ?_
      obtain ⟨o, e, d⟩ := T.obj _ _ st5 b hb
      refine back_4 ?_
      clear back_4 G_4
      exact (I7.pin (b, o) (List.mem_append_right _ (List.mem_append_right _ (mem_pinsAt hb e)))).2.1
    cases f with
    | next => obtain ⟨σ7, H7, I7, n7⟩ := q7; exact again I7 n7
    | cont => obtain ⟨σ7, H7, I7, n7⟩ := q7; exact again I7 n7
    | brk => obtain ⟨σ7, H7, I7, q7⟩ := q7; exact ⟨σ7, H7, I7.unpinned, q7⟩
    | ret v => obtain ⟨x7, σ7, H7, I7, r7, q7⟩ := q7; exact ⟨x7, σ7, H7, I7.unpinned, r7, q7⟩
end
theorem fn_ofT {n : Nat} {CX : CXT} {P : Program} {w : World} {K : PySem.W.Frag} {mg : Str → Option Value} {base : Heap} {k : Nat} {f : Addr} {name qual : Str} {params : Arguments} {body : List Stmt} {scope : Scope} {dV kV doc pm cdv ct oc : Value} {an od : Option Addr}
    {osl : Array (Option Value)} {N ps : List Str} {sp : Sp} (lk : K.lookup f = some ⟨oc, od, .func (PySem.W.fnOf name qual params body scope dV kV doc pm an cdv ct), osl⟩) (hcd : PySem.W.codeIn K cdv qual = true) (S : FnScope N ps scope)
    (len : ∀ vs H Q E, sp vs H Q E → vs.length = ps.length)
    (hbody : ∀ (A : Around) (outer : List Env) (s : Shared) (H : Hp) (vs : List V) (Q : VK) (E : XK), Room k (A.deeper (envOfC qual scope s.heap.objs.size f cdv)) → sp vs H Q E →
      ∃ t, PSst n (cxOf CX P w K mg base N qual scope f cdv A outer s H E) body t ∧ t { nx := fun _ H' => Q .non H', rt := Q } (start N vs) H) :
    FnOkT n P w K mg base CX (k + 1) f (PySem.W.fnOf name qual params body scope dV kV doc pm an cdv ct) ps sp := by
  refine ⟨len, fun A outer s H args us vs Q E hr e0 hb r hsp hn => ?_⟩
  have hl := len _ _ _ _ hsp
  have KX : K.In s.heap := e0.mod.kin.keeps fun b o e => (e0.bs b o e).1
  have lim : s.heap.NoLimit := e0.mod.nolimit.keeps fun b o e => (e0.bs b o e).1
  have hkind : ∀ y ∈ ps.zip us, scope.names.lookup y.1 = some .local ∨ (scope.names.lookup y.1 = some .cell ∧ ((cellsFrom (s.heap.objs.size + 1) scope.names []).lookup y.1).isSome = true) := fun ⟨n, v⟩ hy => by
    rcases S.par n (List.of_mem_zip hy).1 with q | q
    · exact .inl q
    · exact .inr ⟨q, PySem.W.cellsFrom_some _ _ _ (.inl q)⟩
  refine codeAny_call_function hr.depth (KX _ _ lk) rfl S.co S.gen rfl (PySem.W.codeRec_of KX hcd) (hb _ _ _ _ ?_)
  refine thnT (wpAny_newFunctionEnv_cells (Q := fun env s1 => env = envOfC qual scope s.heap.objs.size f cdv ∧ InCallC s s.heap.objs.size (bindL (envOfC qual scope s.heap.objs.size f cdv).kindOf (ps.zip us) fun _ => none) (cellsFrom (s.heap.objs.size + 1) scope.names []) (bindC (envOfC qual scope s.heap.objs.size f cdv).kindOf (ps.zip us) fun _ => none) s1) S.kind hkind fun env he s1 x => ?_) hn fun env s1 z hn1 => ?_
  · subst he
    exact ⟨rfl, x⟩
  obtain ⟨rfl, x⟩ := z
  refine ⟨lim.keeps x.toInCall.keep, codeAny_func ?_⟩
  obtain ⟨t, ht, hq⟩ := hbody A outer s H vs Q E (hr.deeper _) hsp
  have I : Inv (cxOf CX P w K mg base N qual scope f cdv A outer s H E) [] (start N vs) H s1 := inv_start S hr.hd e0 hl r x
  refine wpAny_mono (ht [] s1 (start N vs) H _ I hn1 hq) (fun fl s' hs => ?_) fun e s' hs => hs
  have fin : ∀ {σ' : St} {H' : Hp} {v : V} {u : Value}, Inv (cxOf CX P w K mg base N qual scope f cdv A outer s H E) [] σ' H' s' → RelV v u → Q v H' → CE outer P w H s Q u s' :=
    fun {σ' H' v u} J rv q => ⟨v, H', J.os, J.bare, J.base, J.hok, rv, q⟩
  cases fl with
  | ret u =>
    obtain ⟨v, σ', H', J, rv, q⟩ := hs
    exact fin J rv q
  | next =>
    obtain ⟨σ', H', J, q⟩ := hs
    exact fin (v := V.non) (u := Value.none) J rfl q
  | brk =>
    obtain ⟨_, _, _, q⟩ := hs
    exact False.elim q
  | cont =>
    obtain ⟨_, _, _, q⟩ := hs
    exact False.elim q
theorem PSst.nox {n : Nat} {X : Cx} {sts : List Stmt} {t : TS} (h : PSst n X.nox sts t) : PSst n X sts t := fun pins s σ H D I hn hw =>
  wpAny_mono (h pins s σ H D (I.wish _) hn hw) (fun _ _ z => z.unwish) fun _ _ z => False.elim z
theorem Fun.okT {n : Nat} {P : Program} {w : World} {K : PySem.W.Frag} {mg : Str → Option Value} {base : Heap} {x qual : Str} {st : Stmt} {f : Addr} {fd : FuncData} {N ps : List Str} {k : Nat} {sp : Sp} (F : Fun K x qual st f fd) (S : FnScope N ps (defScope st)) (len : ∀ vs H Q E, sp vs H Q E → vs.length = ps.length)
    (hbody : ∀ (cdv : Value) (A : Around) (outer : List Env) (s : Shared) (H : Hp) (vs : List V) (Q : VK) (E : XK), Room k (A.deeper (envOfC qual (defScope st) s.heap.objs.size f cdv)) → sp vs H Q E →
      ∃ t, PSst n (cxOf CX0 P w K mg base N qual (defScope st) f cdv A outer s H E).nox (defBody st) t ∧ t { nx := fun _ H' => Q .non H', rt := Q } (start N vs) H) : FnOkT n P w K mg base CX0 (k + 1) f fd ps sp := by
  obtain ⟨oc, od, kV, doc, pm, an, cdv, ct, osl, rfl, lk, hcd⟩ := F.ex
  refine fn_ofT lk hcd S len fun A outer s H vs Q E hr hsp => ?_
  obtain ⟨t, h, q⟩ := hbody cdv A outer s H vs Q E hr hsp
  exact ⟨t, h.nox, q⟩
theorem passN {P : Program} {w : World} {K : PySem.W.Frag} {mg : Str → Option Value} {base : Heap} {N : List Str} {qual : Str} {scope : Scope} {f : Addr} {cd : Value} {A : Around} {outer : List Env} {s : Shared} {H : Hp} {E : XK} {cls : Value} :
    Passes (CXN P w cls) (cxOf (CXN P w cls) P w K mg base N qual scope f cd A outer s H E) E := by
  intro pins σ H1 s1 e s' I hx
  obtain ⟨a, H', rfl, hos, hbare, un, hna, ⟨B, a0, fl, hokB, keepB, keep2⟩, hE⟩ := hx
  have nx : ∀ b : Addr, b ∉ (cxOf (CXN P w cls) P w K mg base N qual scope f cd A outer s H E).ex := fun b z => absurd (show b ∈ ([] : List Addr) from z) (by simp)
  have sub : ∀ b ∈ frs outer, b ∈ frs (envOfC qual scope s.heap.objs.size f cd :: outer) := fun b hb => List.mem_cons_of_mem _ hb
  have old : ∀ b o, s.heap.get? b = some o → b ∉ frs outer → b ∉ frs (envOfC qual scope s.heap.objs.size f cd :: outer) := fun b o q n z => by
    rcases List.mem_cons.mp z with z | z
    · rw [z] at q
      exact absurd (Heap.lt_size q) (Nat.lt_irrefl _)
    · exact n z
  refine wpAny_leaves_onW (L := s.heap.objs.size) (outer := outer) I.ok.frames rfl fl fun h2 fl2 up => ?_
  have J := inv_came I hos hbare un hokB keepB keep2 fl2.1 up
  refine ⟨a, H', rfl, J.os, J.bare, J.base, hna, ⟨B, a0, fl2, hokB, fun b o q n hb => ?_, fun b o q n => ?_⟩, hE⟩
  · exact keepB b o (I.base.keep b o q n hb (nx b)) (I.base.free b o q n (nx b)) (old b o q hb)
  · obtain ⟨o', e1⟩ := I.base.there b o q (nx b)
    exact keep2 b o' e1 (old b o q n)
theorem ownN {P : Program} {w : World} {K : PySem.W.Frag} {mg : Str → Option Value} {base : Heap} {N : List Str} {qual : Str} {scope : Scope} {f : Addr} {cd : Value} {A : Around} {outer : List Env} {s : Shared} {H : Hp} {E : XK} {CX : CXT} :
    PassesOwn (model (cxOf CX P w K mg base N qual scope f cd A outer s H E).prog (cxOf CX P w K mg base N qual scope f cd A outer s H E).w) (cxOf CX P w K mg base N qual scope f cd A outer s H E).A (cxOf CX P w K mg base N qual scope f cd A outer s H E).env (cxOf CX P w K mg base N qual scope f cd A outer s H E).xe :=
  PassesOwn.leaving (Q₁ := fun e s'' => CX outer H s E e s'') (E₁ := fun e' s'' => CX outer H s E e' s'')
theorem pass0N {P : Program} {w : World} {X : Cx} {cls : Value} : Passes (CXN P w cls) X E0 := fun _ _ _ _ _ _ _ ⟨_, _, _, _, _, _, _, _, h⟩ => h.elim
end L2
set_option Elab.async false
set_option linter.all false
set_option maxRecDepth 100000
namespace L2
open PySem PySem.Spec PyProof.Rows
section
variable {n : Nat} {X : Cx} {a b : Expr} {rest : List Expr} {ta tb : TE} {pos : Pos}
theorem pe_oneT {op} {t : TE} (h : PEt n X a t) : PEt n X (.BoolOp op [a] pos) t := fun pins s σ H Q I hn hw => BoolOp_one (h pins s σ H Q I hn hw)
theorem pe_andT (ha : PEt n X a ta) (hb : PEt n X (.BoolOp .And (b :: rest) pos) tb) : PEt n X (.BoolOp .And (a :: b :: rest) pos) (tAndV ta tb) := by
  intro pins s σ H Q I hn h
  refine BoolOp_and (thnT (ha pins s σ H _ I hn h) hn fun v s1 ⟨x, H1, I1, r1, q1⟩ hn1 => ?_)
  obtain ⟨c, rfl, q1⟩ := q1
  cases r1
  refine wpAny_truthy_bool ?_
  cases c with
  | true => exact hb pins s1 σ H1 Q I1 hn1 q1
  | false => exact ⟨.bl false, H1, I1, rfl, q1⟩
end
section
variable {n : Nat} {X : Cx} {CX : CXT} {k : Nat} {f C : Addr} {fd : FuncData} {ps : List Str} {sp : Sp} {x : Str} {p pos : Pos} {e : Expr} {es : List Expr} {t : TA}
theorem call_fliesT {pins : List (Addr × Obj)} {σ : St} {H : Hp} {s : Shared} {Q : VK} {E : XK} {EX : Value → Shared → Prop} (F : FnOkT n X.prog X.w X.K X.mg X.base CX k f fd ps sp) (hr : Room k X.A) (hg : Gl X x) (hm : X.mg x = some (.ref f)) (hk : PySem.W.keepIn X.K (.ref f) = true) (hb : Binds X.K fd ps [])
    (ha : PA X (e :: es) t) (hnx : ∀ e s, X.xe e s → False) (I : Inv X pins σ H s) (hn : n ≤ s.toks) (h : t σ H fun vs H1 => sp vs H1 Q E) (hE : ∀ H1 s1 v s', Inv X pins σ H1 s1 → CX X.stack H1 s1 E v s' → EX v s')
    (hdb : (x == ("__debug__" : Str)) = false) (he : starEach (e :: es) X.env = (false, eval e X.env) :: starEach es X.env) (hpl : (backTo pos (starEach es X.env)).any (·.1) = false) :
    wpAny (model X.prog X.w) X.A (eval (.Call (.Name x p) (e :: es) [] pos) X.env) (EP X pins σ Q) EX s := by
  refine wpAny_Call_Name_kw (ld_glob I hg hm ?_ hdb)
  refine PySem.W.callWith_K (h₀ := X.base) I.ok.mod.kin hk (wpAny_mono (wpAny_toks (ha pos pins s σ H _ I h) hn) (fun us s1 ⟨⟨vs, H1, I1, r, q⟩, hn1⟩ => ⟨I1.kIn, ?_⟩) fun e s z => (hnx e s z).elim) he hpl
  have hl : (us ++ []).length = ps.length := by rw [List.append_nil, ← r.length]; exact F.len _ _ _ _ q
  have hb' := hb s1 us I1.kIn hl
  rw [List.append_nil] at hb'
  refine wpAny_call (codeAny_mono (F.run X.A X.stack s1 H1 ⟨us, []⟩ us vs Q E hr I1.env0 hb' r q hn1) fun r s' hq => ?_)
  cases r with
  | error e => exact hE H1 s1 e s' I1 hq
  | ok fl =>
    cases fl with
    | ret u => exact I1.after hq
    | next => exact False.elim hq
    | brk => exact False.elim hq
    | cont => exact False.elim hq
theorem ps_tryET {h0 : ExceptHandler} {hs : List ExceptHandler} {ts : TS} {epos tpos : Pos} (F : FnOkT n X.prog X.w X.K X.mg X.base (CXN X.prog X.w (.ref C)) k f fd ps sp) (hr : Room k X.A) (hg : Gl X x) (hm : X.mg x = some (.ref f)) (hk : PySem.W.keepIn X.K (.ref f) = true) (hb : Binds X.K fd ps [])
    (ha : PA X (e :: es) t) (L : Lands X C (h0 :: hs) ts) (hnx : ∀ e s, X.xe e s → False := by exact fun _ _ z => z) (hdb : (x == ("__debug__" : Str)) = false := by decide) (he : starEach (e :: es) X.env = (false, eval e X.env) :: starEach es X.env := by rfl) (hpl : (backTo pos (starEach es X.env)).any (·.1) = false := by rfl)
    (hsw : swapsWith (.Call (.Name x p) (e :: es) [] pos) none epos.line X.env = pure false := by rfl) :
    PSt n X (.Try [.Expr (.Call (.Name x p) (e :: es) [] pos) epos] (h0 :: hs) [] [] tpos) (fun D σ H => t σ H fun vs H1 => sp vs H1 (fun _ H2 => D.nx σ H2) (fun _ _ H' => ts D σ H')) := by
  intro pins s σ H D I hn h
  refine wpAny_Try_except (wpAny_execs_cons (wpAny_Expr_any (thn (call_fliesT F hr hg hm hk hb ha hnx I hn h (fun H1 s1 v s' I1 z => L pins σ H1 s1 s' _ v D _ I1 z fun _ q => q) hdb he hpl) fun v s1 ⟨y, H1, I1, r1, q1⟩ => ?_) I.quiet hsw))
  exact wpAny_execs_nil (wpAny_execs_nil ⟨σ, H1, I1, q1⟩)
end
end L2
set_option Elab.async false
set_option linter.all false
set_option maxRecDepth 100000
set_option maxHeartbeats 400000
namespace L2
open PySem PySem.Spec PyProof.Rows
noncomputable abbrev sg1 (c : Nat) : Str := ⟨#[c]⟩
noncomputable def rep (x : Str) (c : Nat) : Str := Txt.replace x (sg1 c) ((" " : Str) ++ sg1 c ++ (" " : Str))
section
variable {X : Cx} {pins : List (Addr × Obj)} {σ : St} {H : Hp} {s : Shared} {n i : Nat} {x y : Str}
theorem spread_turn {c u : Nat} {z : Str} {m : Str → Option Value} {D : Ends} {j1 j2 : Nat} {p1 p2 p3 p4 p5 p6 p7 apos cpos pos : Pos} (hN : X.N.Nodup) (hi : X.N[i]? = some x) (hx : X.env.scope.names.lookup x = some .local) (hy : X.env.scope.names.lookup y = some .local)
    (hxd : (x == ("__debug__" : Str)) = false) (hyd : (y == ("__debug__" : Str)) = false)
    (hbase : attributeBase (.Name x p2) "replace" X.env (eval (.Name x p2) X.env) = eval (.Name x p2) X.env) (hline : (apos.endLine == cpos.line) = true)
    (htr : backTo cpos (starEach [.Name y p3, .BinOp (.BinOp (.Constant (.str " ") j1 p4) .Add (.Name y p5) p6) .Add (.Constant (.str " ") j2 p7) pos] X.env) = [(false, eval (.Name y p3) X.env), (false, eval (.BinOp (.BinOp (.Constant (.str " ") j1 p4) .Add (.Name y p5) p6) .Add (.Constant (.str " ") j2 p7) pos) X.env)])
    {vpos : Pos} (hsw : swapsWith (.Call (.Attribute (.Name x p2) "replace" apos) [.Name y p3, .BinOp (.BinOp (.Constant (.str " ") j1 p4) .Add (.Name y p5) p6) .Add (.Constant (.str " ") j2 p7) pos] [] cpos) (some (.Name x p1)) vpos.line X.env = pure false)
    (I : Inv X pins σ H s) (hn : n ≤ s.toks) (hz : σ[i]? = some (some (.str z))) (hzl : z.length ≤ 1048576) (hns : s.heap.Ns X.env.locals m) (hmy : m y = some (.str (sg1 c) u)) (hu0 : u ≠ 0) (hun : u < n) (q : D.nx (σ.set i (some (.str (rep z c)))) H) :
    wpAny (model X.prog X.w) X.A (exec (.Assign [.Name x p1] (.Call (.Attribute (.Name x p2) "replace" apos) [.Name y p3, .BinOp (.BinOp (.Constant (.str " ") j1 p4) .Add (.Name y p5) p6) .Add (.Constant (.str " ") j2 p7) pos] [] cpos) vpos) X.env) (SP X pins D) X.xe s := by
  obtain ⟨m', hn', hl'⟩ := id I.loc
  obtain ⟨u0, r0, l0⟩ := hl' i x _ hi hz (.inl hx)
  have hm' : m' x = some u0 := by
    rcases l0 with ⟨_, e⟩ | ⟨hk, _⟩
    · exact e
    · rcases hk with hk | hk <;> cases (hx.symm.trans hk)
  obtain ⟨t0, rfl⟩ := r0
  have e1 : ((" " : Str).length == 0) = false := by decide
  have e2 : ((sg1 c).length == 0) = false := rfl
  have e3 : (((" " : Str) ++ sg1 c).length == 0) = false := by
    rw [Th.app_len]; rfl
  have l3 : ((" " : Str) ++ sg1 c ++ (" " : Str)).length = 3 := by rw [Th.app_len, Th.app_len]; rfl
  have ne : (sg1 c == ((" " : Str) ++ sg1 c ++ (" " : Str))) = false := by
    refine Bool.eq_false_iff.mpr fun e => ?_
    have := congrArg Str.length (eq_of_beq e)
    rw [l3] at this
    cases this
  refine wpAny_Assign_Name (E := X.xe) ?_ hsw
  refine wpAny_Call_method2_late hbase hline htr (wpAny_Name (wpAny_loadName_local I.ok.kind hx hn' hm' ?_) hxd)
  refine ⟨"str", "str.replace", F.plainAttrs_str, F.slot_str_replace, F.type_str_replace, typeIs_str _ _ _, (fun a e => nomatch e), ?_⟩
  refine Calls.callWith_builtin rfl (Calls.evalArgs_plain (Calls.spliced_cons (wpAny_Name (wpAny_loadName_local I.ok.kind hy hns hmy ?_) hyd)))
  refine Calls.spliced_cons ?_
  refine wpAny_BinOp (wpAny_BinOp (Calls.Constant_str (wpAny_Name (wpAny_loadName_local I.ok.kind hy hns hmy ?_) hyd)))
  refine P.add_str ?_
  rw [e1, e2]
  refine ⟨by rw [Th.app_len]; show (" " : Str).length + 1 ≤ sizeLine; decide, ?_⟩
  refine Calls.Constant_str ?_
  refine P.add_str ?_
  rw [e1, e3]
  refine ⟨by rw [l3]; decide, ?_⟩
  refine Calls.spliced_nil ?_
  refine SC.replace hu0 (by show s.toks + 1 + 1 + 1 ≠ 0; omega) (by show u ≠ s.toks + 1 + 1 + 1; omega) ne (by rw [l3]; omega) fun t' k => ?_
  exact store_ok (I.tok k) hN hi (.inl hx) (v := .str (rep z c)) ⟨t', rfl⟩ (fun s2 I2 => ⟨_, H, I2, q⟩) (.inr hx)
theorem Inv.bound {j : Nat} {m : Str → Option Value} {v : V} {u : Value} {h' : Heap} {tk : Nat} (I : Inv X pins σ H s) (hN : X.N.Nodup) (hj : X.N[j]? = some y) (hy : X.env.scope.names.lookup y = some .local) (r : RelV v u)
    (hn : s.heap.Ns X.env.locals m) (hl : ∀ (i : Nat) (x : Str) (v : V), X.N[i]? = some x → σ[i]? = some (some v) → Vis X.env.scope x → ∃ u, RelV v u ∧ Look X.env s.heap m x u)
    (hn' : h'.Ns X.env.locals (fun z => if z = y then some u else m z)) (hs : Heap.SameBut X.env.locals s.heap h') : Inv X pins (σ.set j (some v)) H { s with heap := h', toks := tk } := by
  have hiσ : j < σ.length := by rw [I.len]; exact (List.getElem?_eq_some_iff.mp hj).1
  have cne := I.cne
  have tracked : HOk X.prog X.w H h' := fun b ob e => by
    refine (I.hok b ob e).stay (fun c w' hc q => (hs.2 c ?_).trans q) (fun _ q => q) fun _ _ q => q
    rintro rfl
    rcases hc with rfl | hc
    · rw [I.free] at e; cases e
    · rw [I.free] at hc; cases hc
  refine ⟨I.ok, I.os, I.bare, ⟨fun b o e n hb hx => ?_, fun b o e n hb hx => ?_, I.base.free, fun b o e hx => ?_, I.base.tups, I.base.frzs, I.base.tbls⟩, ⟨_, hn', fun k z v' e1 e2 e3 => ?_⟩, fun z c e => ?_, I.free, I.freeC, fun p hp => ?_, tracked, by simpa using I.len⟩
  · exact (hs.2 b (Nat.ne_of_lt (Nat.lt_of_lt_of_le (Heap.lt_size e) I.ok.above))).trans (I.base.keep b o e n hb hx)
  · obtain ⟨sl, e1⟩ := I.base.slot b o e n hb hx
    exact ⟨sl, (hs.2 b (Nat.ne_of_lt (Nat.lt_of_lt_of_le (Heap.lt_size e) I.ok.above))).trans e1⟩
  · obtain ⟨o', e1⟩ := I.base.there b o e hx
    exact ⟨o', (hs.2 b (Nat.ne_of_lt (Nat.lt_of_lt_of_le (Heap.lt_size e) I.ok.above))).trans e1⟩
  · by_cases hk : k = j
    · subst hk
      rw [hj] at e1; cases e1
      rw [List.getElem?_set_self hiσ] at e2
      cases e2
      exact ⟨u, r, .inl ⟨hy, by simp⟩⟩
    · rw [List.getElem?_set_ne (Ne.symm hk)] at e2
      obtain ⟨u', r', q⟩ := hl k z v' e1 e2 e3
      refine ⟨u', r', ?_⟩
      rcases q with ⟨kk, e⟩ | ⟨kk, c, e, zz⟩
      · refine .inl ⟨kk, ?_⟩
        have : z ≠ y := fun e => hk (nodup_ix hN e1 (e ▸ hj))
        simp [this, e]
      · exact .inr ⟨kk, c, e, zz.sameBut hs (cne z c e)⟩
  · obtain ⟨w', zz⟩ := I.cell z c e
    exact ⟨w', zz.sameBut hs (cne z c e)⟩
  · obtain ⟨e, n, ne, nf, d⟩ := I.pin p hp
    exact ⟨(hs.2 p.1 ne).trans e, n, ne, nf, d⟩
theorem set4 {j i : Nat} (l : List (Option V)) (a b c d : Option V) : (((l.set j a).set i b).set j c).set i d = (l.set j c).set i d := by
  apply List.ext_getElem?
  intro k
  simp only [List.getElem?_set, List.length_set]
  by_cases h1 : i = k
  · simp [h1]
  · by_cases h2 : j = k <;> simp [h1, h2]
noncomputable abbrev spreadTo (cs : List (Nat × Nat)) (z : Str) : Str := cs.foldl (fun a p => rep a p.1) z
theorem ps_spreadT {j nz : Nat} {gm : Str} {pm : Addr} {om : Obj} {cs : List (Nat × Nat)} {j1 j2 : Nat} {p1 p2 p3 p4 p5 p6 p7 apos cpos pos vpos yp gp fpos : Pos} (hp : PassesOwn (model X.prog X.w) X.A X.env X.xe) (hcalm : X.calm = true)
    (hN : X.N.Nodup) (hi : X.N[i]? = some x) (hj : X.N[j]? = some y) (hij : i ≠ j) (hx : X.env.scope.names.lookup x = some .local) (hy : X.env.scope.names.lookup y = some .local)
    (hg : Gl X gm) (hm : X.mg gm = some (.ref pm)) (hk : X.K.lookup pm = some om) (hcl : om.cls = .type "tuple") (hdt : om.data = .seq (cs.map fun p => Value.str (sg1 p.1) p.2).toArray nz) (hcs : ∀ p ∈ cs, p.2 ≠ 0 ∧ p.2 < n)
    (hxd : (x == ("__debug__" : Str)) = false := by decide) (hyd : (y == ("__debug__" : Str)) = false := by decide) (hgd : (gm == ("__debug__" : Str)) = false := by decide)
    (hbase : attributeBase (.Name x p2) "replace" X.env (eval (.Name x p2) X.env) = eval (.Name x p2) X.env := by rfl) (hline : (apos.endLine == cpos.line) = true := by rfl)
    (htr : backTo cpos (starEach [.Name y p3, .BinOp (.BinOp (.Constant (.str " ") j1 p4) .Add (.Name y p5) p6) .Add (.Constant (.str " ") j2 p7) pos] X.env) = [(false, eval (.Name y p3) X.env), (false, eval (.BinOp (.BinOp (.Constant (.str " ") j1 p4) .Add (.Name y p5) p6) .Add (.Constant (.str " ") j2 p7) pos) X.env)] := by rfl)
    (hsw : swapsWith (.Call (.Attribute (.Name x p2) "replace" apos) [.Name y p3, .BinOp (.BinOp (.Constant (.str " ") j1 p4) .Add (.Name y p5) p6) .Add (.Constant (.str " ") j2 p7) pos] [] cpos) (some (.Name x p1)) vpos.line X.env = pure false := by rfl)
    (hs : ∀ z, foldedSetIterable (.Name gm gp) X.env z = pure z := by intro _; rfl) :
    PSt n X (.For (.Name y yp) (.Name gm gp) [.Assign [.Name x p1] (.Call (.Attribute (.Name x p2) "replace" apos) [.Name y p3, .BinOp (.BinOp (.Constant (.str " ") j1 p4) .Add (.Name y p5) p6) .Add (.Constant (.str " ") j2 p7) pos] [] cpos) vpos] [] fpos)
      (fun D σ H => ∃ z, σ[i]? = some (some (.str z)) ∧ (∀ k, (spreadTo (cs.take k) z).length ≤ 1048576) ∧ ∀ o, D.nx ((σ.set j o).set i (some (.str (spreadTo cs z)))) H) := by
  intro pins s σ H D I hn ⟨z, hz, hb, q⟩
  have hiσ : i < σ.length := (List.getElem?_eq_some_iff.mp hz).1
  have hjσ : j < σ.length := by rw [I.len]; exact (List.getElem?_eq_some_iff.mp hj).1
  have tup : ∀ {σ' : St} {s' : Shared} {pins' : List (Addr × Obj)}, Inv X pins' σ' H s' → s'.heap.IsTuple pm (cs.map fun p => Value.str (sg1 p.1) p.2).toArray := fun J => ⟨om, J.kIn pm om hk, hcl, nz, hdt⟩
  refine wpAny_For (ld_glob I hg hm ?_ hgd) hs
  refine wpAny_pyIter_tuple (tup I) ?_
  have I1 := I.kept (h' := s.heap.push { cls := .type "tuple_iterator", data := .fields #[.ref pm, rawInt 0] }) (t' := s.toks) fun b o e => Heap.get?_push_of_some _ e
  have f2 : FpOk X pins H s.heap.objs.size := I.fpOk (Nat.le_refl _) (I.hok.fresh (Nat.le_refl _))
  refine codeAny_forLoop_any (fun m s' => ∃ k o, k ≤ cs.length ∧ m = cs.length - k ∧ Inv X pins ((σ.set j o).set i (some (.str (spreadTo (cs.take k) z)))) H s' ∧ s'.heap.IsTupleIter s.heap.objs.size pm k ∧ n ≤ s'.toks) ?_ cs.length ?_
  · intro m s3 hz_2
    refine hideG fun G_1 back_1 => ?_
    obtain ⟨k, o, hkl, rfl, I3, st3, hn3⟩ := hz_2
    refine back_1 ?_
    clear back_1 G_1
    have f3 := f2
    refine hideG fun G_2 back_2 => ?_
    obtain ⟨g0, g1, g2, g3, g4, g5⟩ := f3
    refine back_2 ?_
    clear back_2 G_2
    by_cases hlt : k < cs.length
    · have hit : (cs.map fun p => Value.str (sg1 p.1) p.2).toArray[k]? = some (Value.str (sg1 cs[k].1) cs[k].2) := by simp [hlt]
      refine wpAny_passesOwn hp (thnT (wpAny_pyNext_tuple_item (Q := fun r s1 => r = some (Value.str (sg1 cs[k].1) cs[k].2) ∧ Inv X pins ((List.set σ j o).set i (some (V.str (spreadTo (List.take k cs) z)))) H s1 ∧ s1.heap.IsTupleIter s.heap.objs.size pm (k + 1)) (E := X.xe) st3 (tup I3) hit fun h' st' sb => ⟨rfl, ?_, st'⟩) hn3 fun r s4 ⟨hr, I4, st4⟩ hn4 => ?_)
      · exact I3.turned (t' := s3.toks) (fun b o hb e => (sb.2 b hb).trans e) g0 g1 g3 g4 g5
      subst hr
      refine hideG fun G_3 back_3 => ?_
      obtain ⟨oi, hoi, ci, di⟩ := id st4
      refine back_3 ?_
      clear back_3 G_3
      refine go_of hoi ci di (by decide) ?_
      refine hideG fun G_4 back_4 => ?_
      obtain ⟨m4, hn4', hl4⟩ := id I4.loc
      refine back_4 ?_
      clear back_4 G_4
      have hcls : (X.env.scope.kind == .class || (X.env.scope.kind == .module && X.env.locals != X.env.globals)) = false := by rw [I4.ok.kind]; rfl
      refine wpAny_passesOwn hp (wpAny_assign_Name (wpAny_storeName_local hy hn4' (fun h5 hn5 hs5 => ?_) hcls))
      have I5 := I4.bound (tk := s4.toks + 1) hN hj hy (v := .str (sg1 cs[k].1)) ⟨_, rfl⟩ hn4' hl4 hn5 hs5
      have hoi5 : h5.get? s.heap.objs.size = some oi := (hs5.2 _ g1).trans hoi
      have I5' := I5.pinned (fp := [s.heap.objs.size]) (fun b hb => by cases List.mem_singleton.mp hb; exact f2) (fun b hb => by cases List.mem_singleton.mp hb; exact ⟨oi, hoi5, fun v zz => by rw [di] at zz; cases zz⟩)
      have hc := hcs _ (List.getElem_mem hlt)
      have hzi : ((((List.set σ j o).set i (some (V.str (spreadTo (List.take k cs) z)))).set j (some (V.str (sg1 cs[k].1)))))[i]? = some (some (.str (spreadTo (List.take k cs) z))) := by
        rw [List.getElem?_set_ne (Ne.symm hij), List.getElem?_set_self (by rw [List.length_set]; exact hiσ)]
      have hmk : (fun z => if z = y then some (Value.str (sg1 cs[k].1) cs[k].2) else m4 z) y = some (Value.str (sg1 cs[k].1) cs[k].2) := if_pos rfl
      generalize hc1 : cs[k].1 = c1 at I5' hzi hmk hn5
      generalize hu1 : cs[k].2 = u1 at hc hmk hn5
      generalize hσ5 : ((List.set σ j o).set i (some (V.str (spreadTo (List.take k cs) z)))).set j (some (V.str (sg1 c1))) = σ5 at I5' hzi
      generalize hz5 : spreadTo (List.take k cs) z = z5 at hzi
      have hl5 : z5.length ≤ 1048576 := by rw [← hz5]; exact hb k
      generalize hm5 : (fun z => if z = y then some (Value.str (sg1 c1) u1) else m4 z) = m5 at hmk hn5
      have turn := spread_turn (n := n) (vpos := vpos) (D := { nx := fun σ' H' => σ' = σ5.set i (some (.str (rep z5 c1))) ∧ H' = H, rt := fun _ _ => False }) hN hi hx hy hxd hyd hbase hline htr hsw I5' (show n ≤ s4.toks + 1 by omega) hzi hl5 hn5 hmk hc.1 hc.2 ⟨rfl, rfl⟩
      refine wpAny_passesOwn hp (wpAny_execs_cons (thnT turn (show n ≤ s4.toks + 1 by omega) fun f s6 q6 hn6 => ?_))
      cases f with
      | next =>
        refine hideG fun G_5 back_5 => ?_
        obtain ⟨σ6, H6, I6, e6, eH⟩ := q6
        refine back_5 ?_
        clear back_5 G_5
        subst e6
        subst eH
        refine wpAny_execs_nil ⟨cs.length - (k + 1), by omega, k + 1, some (V.str (sg1 c1)), hlt, rfl, ?_, st4.at fun o' e => ?_, hn6⟩
        · have J := I6.unpinned
          have e1 : spreadTo (cs.take (k + 1)) z = rep z5 c1 := by
            rw [← hz5, ← hc1]
            rw [List.take_succ_eq_append_getElem hlt]
            show List.foldl _ _ _ = _
            rw [List.foldl_append]
            rfl
          rw [e1]
          have e2 : σ5.set i (some (V.str (rep z5 c1))) = ((List.set σ j (some (V.str (sg1 c1)))).set i (some (V.str (rep z5 c1)))) := by
            rw [← hσ5]; exact set4 _ _ _ _ _
          rw [e2] at J
          exact J
        · rw [hoi] at e
          cases e
          exact (I6.pin (s.heap.objs.size, oi) (List.mem_append_right _ (List.mem_append_right _ (mem_pinsAt (by simp) hoi5)))).1
      | ret v => obtain ⟨_, _, _, _, _, q⟩ := q6; exact q.elim
      | brk => obtain ⟨_, _, _, q⟩ := q6; exact q.elim
      | cont => obtain ⟨_, _, _, q⟩ := q6; exact q.elim
    · have ek : k = cs.length := by omega
      subst ek
      refine wpAny_passesOwn hp (wpAny_pyNext_tuple_end (E := X.xe) (I3.ok.hd hcalm) st3 (tup I3) (by simp) fun h' eb => ?_)
      have I4 : Inv X pins _ H { s3 with heap := h' } := I3.turned (t' := s3.toks) (fun b o hb e => eb b o hb e) g0 g1 g3 g4 g5
      rw [List.take_length] at I4
      exact wpAny_execs_nil ⟨_, H, I4, q o⟩
  · refine ⟨0, σ[j]'hjσ, Nat.zero_le _, rfl, ?_, ⟨_, Heap.get?_push_size _ rfl, rfl, rfl⟩, hn⟩
    have e : (List.set σ j (σ[j]'hjσ)).set i (some (V.str (spreadTo (List.take 0 cs) z))) = σ := by
      have e1 : (some (V.str (spreadTo (List.take 0 cs) z)) : Option V) = σ[i]'hiσ := by
        have := List.getElem?_eq_some_iff.mp hz
        exact this.2.symm
      rw [e1, List.set_getElem_self, List.set_getElem_self]
    rw [e]
    exact I1
end
end L2
set_option Elab.async false
set_option linter.all false
set_option maxRecDepth 100000
namespace L2
open PySem PySem.Spec PyProof.Rows
section
variable {X : Cx}
noncomputable def tFr (te : TE) : TE := fun σ H Q => te σ H fun x H1 => ∃ z : Str, x = .str z ∧ (∀ c ∈ z.cps.toList, c < 16 ^ 8) ∧ z.length ≤ 1000000 ∧ ∀ y : Str, Q (.str y) H1
theorem pe_fstrR {a : Str} {e : Expr} {te : TE} {j : Nat} {p1 p2 pos : Pos} (he : PE X e te) (ha : a.length ≤ 1000 := by decide) :
    PE X (.JoinedStr [.Constant (.str a) j p1, .FormattedValue e 114 none p2] pos) (tFr te) := by
  intro pins s σ H Q I h
  have el : ∀ u v : Str, (u ++ v).length = u.length + v.length := fun u v => Th.app_len u v
  have e0 : Str.empty.length = 0 := rfl
  have sz : ∀ n : Nat, n ≤ 16777216 → n ≤ sizeLine := fun n hn => by rw [sizeLine_eq]; exact hn
  refine JoinedStr_many (joinParts_cons (Calls.Constant_str ⟨sz _ (by rw [el, e0]; omega), joinParts_cons (wpAny_FormattedValue_repr ?_)⟩))
  refine thn (he pins _ σ H _ (I.tok _) h) fun v s1 ⟨x, H1, I1, r1, z, ex, hc, hl, q⟩ => ?_
  subst ex
  obtain ⟨t, rfl⟩ := r1
  have hr := StrLaws.reprText_len z hc
  refine pyReprObj_str ?_ (sz _ (by omega))
  refine formatField_str (fun t' tk => ⟨sz _ (by rw [el, el, e0]; omega), joinParts_nil ⟨.str _, H1, I1.tok _, ⟨_, rfl⟩, q _⟩ (sz _ (by rw [el, el, e0]; omega))⟩) (sz _ (by omega))
end
end L2
set_option Elab.async false
set_option linter.all false
set_option maxRecDepth 100000
namespace L2
open PySem PySem.Spec PyProof.Rows
theorem law_callT {n : Nat} {P : Program} {w : World} {K : PySem.W.Frag} {mg mb : Str → Option Value} {CX : CXT} {k : Nat} {fa a : Addr} {fd : FuncData} {x : Str} {sp : Sp} {s₁ : Shared} {vs : List Value} {ns : List Int}
    (KX : K.In s₁.heap) (hns : s₁.heap.Ns mainGlobals mg) (hb : s₁.heap.Ns builtinsNs mb) (hbb : ∀ x : Str, x ≠ "__name__" → mb x = bootBuiltins x) (hlim : s₁.heap.NoLimit) (hg : s₁.gens = #[])
    (ha : s₁.heap.get? a = some { cls := .type "list", data := .seq vs.toArray }) (hi : IntsAre vs ns) (hl : ns.length ≤ sizeLine) (hr : Room k callerA) (hn : n ≤ s₁.toks)
    (F : ∀ base : Heap, K.In base → base.Ns mainGlobals mg → FnOkT n P w K mg base CX k fa fd [x] sp) (hbind : ∀ (s : Shared) (u : Value), BindsTo s fd ⟨[u], []⟩ [(x, u)])
    (hsp : ∀ H : Hp, Only H → SqL K H a (ns.map V.int) → sp [.ref a] H (fun v _ => v = .bl true) fun _ _ _ => False)
    (hCX : ∀ H e s', CX [] H s₁ (fun _ _ _ => False) e s' → False) :
    codeAny (model P w) callerA (.call (.ref fa) ⟨[.ref a], []⟩) (fun r s' => r = .ok (.ret (.bool true)) ∧ OldK s₁.heap s'.heap ∧ s'.os = s₁.os ∧ AllBare s'.gens) s₁ := by
  have rv := vals_ints hi
  have lenV := hi.length
  have core : ∀ H : Hp, Only H → SqL K H a (ns.map V.int) → HOk P w H s₁.heap → (∀ b, H b ≠ none → b = a) → (H a ≠ none → K.lookup a = none) →
      codeAny (model P w) callerA (.call (.ref fa) ⟨[.ref a], []⟩) (fun r s' => r = .ok (.ret (.bool true)) ∧ OldK s₁.heap s'.heap ∧ s'.os = s₁.os ∧ AllBare s'.gens) s₁ := by
    intro H hO hS hok hA hK
    have base_of : ∀ {b : Addr} {o : Obj}, s₁.heap.get? b = some o → H b = none → (hidT s₁.heap H).get? b = some o := fun e n => hidT_get e n
    have noA : ∀ {b : Addr} {o : Obj} {es : Array DictEntry} {ep : Nat}, s₁.heap.get? b = some o → o.data = .dict es ep → H b = none := fun {b o es ep} e d => by
      cases q : H b with
      | none => rfl
      | some u =>
        have e' : b = a := hA b (by rw [q]; simp)
        subst e'
        rw [ha] at e; cases e
        have d' : Data.seq vs.toArray _ = Data.dict es ep := d
        cases d'
    have nsK : ∀ {b : Addr} {m : Str → Option Value}, s₁.heap.Ns b m → (hidT s₁.heap H).Ns b m := fun {b m} ⟨o, es, ep, e, d, r⟩ => ⟨o, es, ep, base_of e (noA e d), d, r⟩
    have hKb : K.In (hidT s₁.heap H) := fun b o e => base_of (KX b o e) (by
      cases q : H b with
      | none => rfl
      | some u =>
        have e' : b = a := hA b (by rw [q]; simp)
        subst e'
        rw [hK (by rw [q]; simp)] at e; cases e)
    have hM : Mod K mg (hidT s₁.heap H) := ⟨hKb, nsK hns, ⟨mb, nsK hb, hbb⟩, let ⟨mc, h1, h2⟩ := hlim; ⟨mc, nsK h1, h2⟩⟩
    have e0 : Env0 P w K mg (hidT s₁.heap H) callerA [] s₁ H := ⟨rfl, hM, fun b o e => of_hidT e, Nat.le_of_eq (hidT_size _ _), trivial, fun b hb => absurd (show b ∈ ([] : List Addr) from hb) (by simp), hok, .of_eq hg⟩
    refine codeAny_mono ((F _ hKb (nsK hns)).run callerA [] s₁ H ⟨[.ref a], []⟩ [.ref a] [.ref a] _ _ hr e0 (hbind s₁ (.ref a)) (.cons rfl .nil) (hsp H hO hS) hn) fun r s' h => ?_
    cases r with
    | error e => exact (hCX H e s' h).elim
    | ok fl =>
      cases fl with
      | next => exact False.elim h
      | brk => exact False.elim h
      | cont => exact False.elim h
      | ret u =>
        obtain ⟨v, H', os, bare, un, hok', r', q⟩ := h
        have q' : v = .bl true := q
        subst q'
        obtain rfl : u = Value.bool true := r'
        refine ⟨rfl, OldK.of_keep fun b o e => ?_, os, bare⟩
        cases q : H b with
        | none => exact un.keep b o e q (by intro z; exact absurd (show b ∈ ([] : List Addr) from z) (by simp)) (by simp)
        | some u =>
          rcases hO b with z | ⟨ob, xs, z⟩
          · rw [q] at z; cases z
          · have z2 := un.frzs b ob _ z
            obtain ⟨e1, _⟩ := hok b _ z
            obtain ⟨e2, _⟩ := hok' b _ z2
            rw [e] at e1; cases e1
            exact e2
  cases hk : K.lookup a with
  | some o =>
    have e := KX a o hk
    rw [ha] at e
    cases e
    refine core (fun _ => none) (fun _ => .inl rfl) (.inr ⟨_, vs.toArray, _, hk, rfl, rfl, rfl, by rw [List.size_toArray, lenV]; exact hl, by simpa using rv⟩) (fun b u z => by have z' : (none : Option HO) = some u := z; cases z') (fun b z => absurd rfl z) fun z => absurd rfl z
  | none =>
    refine core (fun b => if b = a then some (.frz { cls := .type "list", data := .seq vs.toArray } (.lst (ns.map V.int))) else none) (fun b => ?_) (.inl (.inr ⟨{ cls := .type "list", data := .seq vs.toArray }, if_pos rfl⟩)) (fun b u z => ?_) (fun b z => ?_) fun _ => hk
    · by_cases hb : b = a
      · exact .inr ⟨_, _, if_pos hb⟩
      · exact .inl (if_neg hb)
    · by_cases hb : b = a
      · have z' := (if_pos hb).symm.trans z
        cases z'
        subst hb
        exact ⟨ha, by rw [List.length_map]; exact hl, vs, _, rv, ha⟩
      · have z' := (if_neg hb).symm.trans z
        cases z'
    · by_cases hb : b = a
      · exact hb
      · exact absurd (if_neg hb) z
open PySem.W PySem.W.X in
theorem walk_ofT {l : PySem.W.OpenLaw} {n k nt nz tz : Nat} {q : Program} {loose : List Str} {XP : (Str → Option Value) → Heap → Prop} {d : DefRec} {K : Params → PySem.W.Frag} {as : List Addr} {sp : PySem.W.Frag → Sp} {x : Str}
    (ea : ∀ P, as = (K P).map (·.1)) (hn : l.most = some n) (hn2 : n ≤ sizeLine) (hdf : d.params.defaults = []) (hr : Room k callerA) (hnt : nt ≤ tz)
    (F : ∀ (w : World) (mg : Str → Option Value) (fa : Addr) (h : Heap), (K w.params).In h → h.Ns mainGlobals mg → mg d.name = some (.ref fa) →
      ∃ fd : FuncData, (∀ (s : Shared) (u : Value), BindsTo s fd ⟨[u], []⟩ [(x, u)]) ∧
        ∀ base : Heap, (K w.params).In base → base.Ns mainGlobals mg → FnOkT nt l.prog w (K w.params) mg base CX0 k fa fd [x] (sp (K w.params)))
    (hsp : ∀ (K : PySem.W.Frag) (H : Hp) (a : Addr) (ns : List Int), ns.length ≤ n → Only H → SqL K H a (ns.map V.int) → sp K [.ref a] H (fun v _ => v = .bl true) fun _ _ _ => False) :
    PySem.W.WalkX q loose XP (obsZ as) (valZ K nz tz) l.row.toRowW d [] (fun f vs => PySem.call f vs) := by
  intro w s₀ s₁ mg mb G Y fa o pm cd doc dV kV ho hd hcd hD hmg hg args vals as' L hpre hlay hrd hwl hlo
  obtain rfl : dV = .none := PySem.W.Dflts.none hD hdf
  obtain rfl : kV = .none := PySem.W.Dflts.noKw hD
  obtain ⟨_, KX0, _, ht⟩ := z_facts ea Y
  obtain ⟨a, vs, ns, rfl, rfl, hobj, hints, hlen⟩ := Att.script_of hn hpre hwl
  obtain ⟨ord, _, hlaid⟩ := L.laid
  have ht1 : nt ≤ s₁.toks := Nat.le_trans (by rw [ht]; exact hnt) (layAllW_grows _ _ _ hlaid).toks
  have KX : (K w.params).In s₁.heap := InK.keeps w _ _ KX0 (layAllW_keeps _ _ _ hlaid)
  obtain ⟨fd, hb, hF⟩ := F w mg fa _ KX G.T.g hmg
  refine PySem.W.enter_call (codeAny_mono (law_callT (n := nt) KX G.T.g G.T.b G.T.builtins G.T.nolimit hg hobj hints (Nat.le_trans hlen hn2) hr ht1 hF hb (fun H hO hS => hsp _ H a ns hlen hO hS) fun H e s' z => z) fun r s' hq => ?_)
  obtain ⟨rfl, h2, h3, h4⟩ := hq
  exact ⟨.inl ⟨.bool true, .bool true, [], rfl, fun _ => rfl, .bool true, Att.post_true l _, fun _ => ⟨List.Pairwise.nil, fun _ hm => (nomatch hm)⟩⟩, h2, h3, h4⟩
end L2
set_option Elab.async false
set_option linter.all false
set_option maxRecDepth 100000
set_option maxHeartbeats 4000000
namespace C
open PySem PySem.Spec PyProof.Rows L2
noncomputable def top (i : Nat) : Stmt := PySem.Challenge.pw_foldrows_k13_whole_laid_anew.main.body.getD i (.Pass ⟨0, 0, 0, 0⟩)
noncomputable def clsBody : Stmt → List Stmt
  | .ClassDef _ _ _ b _ _ _ _ _ _ _ => b
  | _ => []
noncomputable abbrev s_filled : Stmt := top 4
theorem sc_filled : FnScope ["words", "room", "rows", "used", "word", "grown"] ["words", "room"] (defScope s_filled) := ⟨rfl, rfl, rfl, by decide +kernel, rfl, by decide +kernel, by decide +kernel⟩
noncomputable abbrev s_flat : Stmt := top 6
theorem sc_flat : FnScope ["thing"] ["thing"] (defScope s_flat) := ⟨rfl, rfl, rfl, by decide +kernel, rfl, by decide +kernel, by decide +kernel⟩
noncomputable abbrev s_laid : Stmt := top 9
theorem sc_laid : FnScope ["thing", "width"] ["thing", "width"] (defScope s_laid) := ⟨rfl, rfl, rfl, by decide +kernel, rfl, by decide +kernel, by decide +kernel⟩
noncomputable abbrev s_rows_of_thing : Stmt := top 10
theorem sc_rows_of_thing : FnScope ["thing", "width", "indent", "lead", "tail", "blanks", "row", "within"] ["thing", "width", "indent", "lead", "tail"] (defScope s_rows_of_thing) := ⟨rfl, rfl, rfl, by decide +kernel, rfl, by decide +kernel, by decide +kernel⟩
noncomputable abbrev s_can_be_broken : Stmt := top 11
theorem sc_can_be_broken : FnScope ["thing"] ["thing"] (defScope s_can_be_broken) := ⟨rfl, rfl, rfl, by decide +kernel, rfl, by decide +kernel, by decide +kernel⟩
noncomputable abbrev s_rows_of_parts : Stmt := top 12
theorem sc_rows_of_parts : FnScope ["parts", "width", "indent", "rows", "place", "part", "tail"] ["parts", "width", "indent"] (defScope s_rows_of_parts) := ⟨rfl, rfl, rfl, by decide +kernel, rfl, by decide +kernel, by decide +kernel⟩
noncomputable abbrev s_rows_of_words : Stmt := top 13
theorem sc_rows_of_words : FnScope ["words", "width", "indent"] ["words", "width", "indent"] (defScope s_rows_of_words) := ⟨rfl, rfl, rfl, by decide +kernel, rfl, by decide +kernel, by decide +kernel⟩
noncomputable abbrev s_is_word : Stmt := top 18
theorem sc_is_word : FnScope ["text"] ["text"] (defScope s_is_word) := ⟨rfl, rfl, rfl, by decide +kernel, rfl, by decide +kernel, by decide +kernel⟩
noncomputable abbrev s_read : Stmt := top 19
theorem sc_read : FnScope ["rows", "tokens", "begun", "thing"] ["rows"] (defScope s_read) := ⟨rfl, rfl, rfl, by decide +kernel, rfl, by decide +kernel, by decide +kernel⟩
noncomputable abbrev s_laid_anew : Stmt := top 20
theorem sc_laid_anew : FnScope ["rows", "width"] ["rows", "width"] (defScope s_laid_anew) := ⟨rfl, rfl, rfl, by decide +kernel, rfl, by decide +kernel, by decide +kernel⟩
noncomputable abbrev s_tokens_of_rows : Stmt := top 21
theorem sc_tokens_of_rows : FnScope ["rows", "tokens", "row"] ["rows"] (defScope s_tokens_of_rows) := ⟨rfl, rfl, rfl, by decide +kernel, rfl, by decide +kernel, by decide +kernel⟩
noncomputable abbrev s_tokens_of_row : Stmt := top 22
theorem sc_tokens_of_row : FnScope ["row", "spread", "mark"] ["row"] (defScope s_tokens_of_row) := ⟨rfl, rfl, rfl, by decide +kernel, rfl, by decide +kernel, by decide +kernel⟩
noncomputable abbrev s_begin : Stmt := top 24
theorem sc_begin : FnScope ["tokens", "begun", "word"] ["tokens", "begun"] (defScope s_begin) := ⟨rfl, rfl, rfl, by decide +kernel, rfl, by decide +kernel, by decide +kernel⟩
noncomputable abbrev s_hand_over : Stmt := top 25
theorem sc_hand_over : FnScope ["thing", "tokens", "begun", "around"] ["thing", "tokens", "begun"] (defScope s_hand_over) := ⟨rfl, rfl, rfl, by decide +kernel, rfl, by decide +kernel, by decide +kernel⟩
noncomputable abbrev s_words_of_run : Stmt := top 26
theorem sc_words_of_run : FnScope ["tokens", "words"] ["tokens"] (defScope s_words_of_run) := ⟨rfl, rfl, rfl, by decide +kernel, rfl, by decide +kernel, by decide +kernel⟩
noncomputable abbrev s__law_at : Stmt := top 28
theorem sc__law_at : FnScope ["_law_script", "_law_k"] ["_law_script", "_law_k"] (defScope s__law_at) := ⟨rfl, rfl, rfl, by decide +kernel, rfl, by decide +kernel, by decide +kernel⟩
noncomputable abbrev s__law_texts : Stmt := top 29
theorem sc__law_texts : FnScope ["_law_found", "_law_row"] ["_law_found"] (defScope s__law_texts) := ⟨rfl, rfl, rfl, by decide +kernel, rfl, by decide +kernel, by decide +kernel⟩
noncomputable abbrev s__law_word_by : Stmt := top 30
theorem sc__law_word_by : FnScope ["_law_salt", "_law_signs", "_law_size", "_law_made", "_law_k"] ["_law_salt"] (defScope s__law_word_by) := ⟨rfl, rfl, rfl, by decide +kernel, rfl, by decide +kernel, by decide +kernel⟩
noncomputable abbrev s__law_tags : Stmt := top 31
theorem sc__law_tags : FnScope ["_law_thing", "_law_deep", "_law_inner"] ["_law_thing"] (defScope s__law_tags) := ⟨rfl, rfl, rfl, by decide +kernel, rfl, by decide +kernel, by decide +kernel⟩
noncomputable abbrev s__law_step : Stmt := top 32
theorem sc__law_step : FnScope ["_law_frames", "_law_way", "_law_salt", "_law_parts", "_law_inner"] ["_law_frames", "_law_way", "_law_salt"] (defScope s__law_step) := ⟨rfl, rfl, rfl, by decide +kernel, rfl, by decide +kernel, by decide +kernel⟩
noncomputable abbrev s__law_grown : Stmt := top 33
theorem sc__law_grown : FnScope ["_law_cells", "_law_frames", "_law_k"] ["_law_cells"] (defScope s__law_grown) := ⟨rfl, rfl, rfl, by decide +kernel, rfl, by decide +kernel, by decide +kernel⟩
noncomputable abbrev s__law_flat_line : Stmt := top 34
theorem sc__law_flat_line : FnScope ["_law_thing", "_law_line", "_law_todo", "_law_one", "_law_k"] ["_law_thing"] (defScope s__law_flat_line) := ⟨rfl, rfl, rfl, by decide +kernel, rfl, by decide +kernel, by decide +kernel⟩
noncomputable abbrev s__law_pieces_of : Stmt := top 35
theorem sc__law_pieces_of : FnScope ["_law_line", "_law_pieces", "_law_word", "_law_sign"] ["_law_line"] (defScope s__law_pieces_of) := ⟨rfl, rfl, rfl, by decide +kernel, rfl, by decide +kernel, by decide +kernel⟩
noncomputable abbrev s__law_wordy : Stmt := top 36
theorem sc__law_wordy : FnScope ["_law_piece"] ["_law_piece"] (defScope s__law_wordy) := ⟨rfl, rfl, rfl, by decide +kernel, rfl, by decide +kernel, by decide +kernel⟩
noncomputable abbrev s__law_strewn_rows : Stmt := top 37
theorem sc__law_strewn_rows : FnScope ["_law_pieces", "_law_cells", "_law_rows", "_law_k", "_law_cell", "_law_apart"] ["_law_pieces", "_law_cells"] (defScope s__law_strewn_rows) := ⟨rfl, rfl, rfl, by decide +kernel, rfl, by decide +kernel, by decide +kernel⟩
noncomputable abbrev s__law_refuses : Stmt := top 38
theorem sc__law_refuses : FnScope ["_law_rows", "_law_width"] ["_law_rows", "_law_width"] (defScope s__law_refuses) := ⟨rfl, rfl, rfl, by decide +kernel, rfl, by decide +kernel, by decide +kernel⟩
noncomputable abbrev s__law_unbroken : Stmt := top 39
theorem sc__law_unbroken : FnScope ["_law_one", "_law_wide", "_law_width", "_law_cell"] ["_law_one", "_law_wide", "_law_width", "_law_cell"] (defScope s__law_unbroken) := ⟨rfl, rfl, rfl, by decide +kernel, rfl, by decide +kernel, by decide +kernel⟩
noncomputable abbrev s__law_word_rows : Stmt := top 40
theorem sc__law_word_rows : FnScope ["_law_words", "_law_room", "_law_cell", "_law_rows", "_law_line", "_law_k", "_law_early"] ["_law_words", "_law_room", "_law_cell"] (defScope s__law_word_rows) := ⟨rfl, rfl, rfl, by decide +kernel, rfl, by decide +kernel, by decide +kernel⟩
noncomputable abbrev s__law_other_rows : Stmt := top 41
theorem sc__law_other_rows : FnScope ["_law_thing", "_law_width", "_law_cells", "_law_rows", "_law_seen", "_law_todo", "_law_one", "_law_indent", "_law_lead", "_law_tail", "_law_cell", "_law_pad", "_law_line", "_law_row", "_law_k", "_law_behind"] ["_law_thing", "_law_width", "_law_cells"] (defScope s__law_other_rows) := ⟨rfl, rfl, rfl, by decide +kernel, rfl, by decide +kernel, by decide +kernel⟩
noncomputable abbrev s__law_mixed : Stmt := top 42
theorem sc__law_mixed : FnScope ["_law_script"] ["_law_script"] (defScope s__law_mixed) := ⟨rfl, rfl, rfl, by decide +kernel, rfl, by decide +kernel, by decide +kernel⟩
noncomputable abbrev s_law : Stmt := top 43
theorem sc_law : FnScope ["_law_script", "_law_width", "_law_wider", "_law_thing", "_law_due", "_law_rows", "_law_strewn", "_law_handed", "_law_found", "_law_spoilt"] ["_law_script"] (defScope s_law) := ⟨rfl, rfl, rfl, by decide +kernel, rfl, by decide +kernel, by decide +kernel⟩
noncomputable abbrev s_Tokens___init__ : Stmt := (clsBody (top 23)).getD 0 (.Pass ⟨0, 0, 0, 0⟩)
theorem sc_Tokens___init__ : FnScope ["self", "tokens"] ["self", "tokens"] (defScope s_Tokens___init__) := ⟨rfl, rfl, rfl, by decide +kernel, rfl, by decide +kernel, by decide +kernel⟩
noncomputable abbrev s_Tokens_takes : Stmt := (clsBody (top 23)).getD 1 (.Pass ⟨0, 0, 0, 0⟩)
theorem sc_Tokens_takes : FnScope ["self", "token", "found"] ["self", "token"] (defScope s_Tokens_takes) := ⟨rfl, rfl, rfl, by decide +kernel, rfl, by decide +kernel, by decide +kernel⟩
noncomputable abbrev s_Tokens_take_word : Stmt := (clsBody (top 23)).getD 2 (.Pass ⟨0, 0, 0, 0⟩)
theorem sc_Tokens_take_word : FnScope ["self", "token"] ["self"] (defScope s_Tokens_take_word) := ⟨rfl, rfl, rfl, by decide +kernel, rfl, by decide +kernel, by decide +kernel⟩
noncomputable abbrev XF_filled (P : Program) (w : World) (K : PySem.W.Frag) (mg : Str → Option Value) (base : Heap) (f : Addr) (cdv : Value) (A : Around) (outer : List Env) (s : Shared) (H : Hp) (E : XK) : Cx := (cxOf CX0 P w K mg base ["words", "room", "rows", "used", "word", "grown"] "filled" (defScope s_filled) f cdv A outer s H E).nox
noncomputable abbrev XF_flat (P : Program) (w : World) (K : PySem.W.Frag) (mg : Str → Option Value) (base : Heap) (f : Addr) (cdv : Value) (A : Around) (outer : List Env) (s : Shared) (H : Hp) (E : XK) : Cx := (cxOf CX0 P w K mg base ["thing"] "flat" (defScope s_flat) f cdv A outer s H E).nox
noncomputable abbrev XF_rows_of_thing (P : Program) (w : World) (K : PySem.W.Frag) (mg : Str → Option Value) (base : Heap) (f : Addr) (cdv : Value) (A : Around) (outer : List Env) (s : Shared) (H : Hp) (E : XK) : Cx := (cxOf CX0 P w K mg base ["thing", "width", "indent", "lead", "tail", "blanks", "row", "within"] "rows_of_thing" (defScope s_rows_of_thing) f cdv A outer s H E).nox
noncomputable abbrev XF_rows_of_parts (P : Program) (w : World) (K : PySem.W.Frag) (mg : Str → Option Value) (base : Heap) (f : Addr) (cdv : Value) (A : Around) (outer : List Env) (s : Shared) (H : Hp) (E : XK) : Cx := (cxOf CX0 P w K mg base ["parts", "width", "indent", "rows", "place", "part", "tail"] "rows_of_parts" (defScope s_rows_of_parts) f cdv A outer s H E).nox
noncomputable abbrev XF_rows_of_words (P : Program) (w : World) (K : PySem.W.Frag) (mg : Str → Option Value) (base : Heap) (f : Addr) (cdv : Value) (A : Around) (outer : List Env) (s : Shared) (H : Hp) (E : XK) : Cx := (cxOf CX0 P w K mg base ["words", "width", "indent"] "rows_of_words" (defScope s_rows_of_words) f cdv A outer s H E).nox
noncomputable abbrev XF__law_tags (P : Program) (w : World) (K : PySem.W.Frag) (mg : Str → Option Value) (base : Heap) (f : Addr) (cdv : Value) (A : Around) (outer : List Env) (s : Shared) (H : Hp) (E : XK) : Cx := (cxOf CX0 P w K mg base ["_law_thing", "_law_deep", "_law_inner"] "_law_tags" (defScope s__law_tags) f cdv A outer s H E).nox
noncomputable abbrev XF__law_step (P : Program) (w : World) (K : PySem.W.Frag) (mg : Str → Option Value) (base : Heap) (f : Addr) (cdv : Value) (A : Around) (outer : List Env) (s : Shared) (H : Hp) (E : XK) : Cx := (cxOf CX0 P w K mg base ["_law_frames", "_law_way", "_law_salt", "_law_parts", "_law_inner"] "_law_step" (defScope s__law_step) f cdv A outer s H E).nox
noncomputable abbrev XF__law_grown (P : Program) (w : World) (K : PySem.W.Frag) (mg : Str → Option Value) (base : Heap) (f : Addr) (cdv : Value) (A : Around) (outer : List Env) (s : Shared) (H : Hp) (E : XK) : Cx := (cxOf CX0 P w K mg base ["_law_cells", "_law_frames", "_law_k"] "_law_grown" (defScope s__law_grown) f cdv A outer s H E).nox
noncomputable abbrev XF__law_flat_line (P : Program) (w : World) (K : PySem.W.Frag) (mg : Str → Option Value) (base : Heap) (f : Addr) (cdv : Value) (A : Around) (outer : List Env) (s : Shared) (H : Hp) (E : XK) : Cx := (cxOf CX0 P w K mg base ["_law_thing", "_law_line", "_law_todo", "_law_one", "_law_k"] "_law_flat_line" (defScope s__law_flat_line) f cdv A outer s H E).nox
noncomputable abbrev XF__law_pieces_of (P : Program) (w : World) (K : PySem.W.Frag) (mg : Str → Option Value) (base : Heap) (f : Addr) (cdv : Value) (A : Around) (outer : List Env) (s : Shared) (H : Hp) (E : XK) : Cx := (cxOf CX0 P w K mg base ["_law_line", "_law_pieces", "_law_word", "_law_sign"] "_law_pieces_of" (defScope s__law_pieces_of) f cdv A outer s H E).nox
noncomputable abbrev XF__law_word_rows (P : Program) (w : World) (K : PySem.W.Frag) (mg : Str → Option Value) (base : Heap) (f : Addr) (cdv : Value) (A : Around) (outer : List Env) (s : Shared) (H : Hp) (E : XK) : Cx := (cxOf CX0 P w K mg base ["_law_words", "_law_room", "_law_cell", "_law_rows", "_law_line", "_law_k", "_law_early"] "_law_word_rows" (defScope s__law_word_rows) f cdv A outer s H E).nox
noncomputable abbrev XF__law_other_rows (P : Program) (w : World) (K : PySem.W.Frag) (mg : Str → Option Value) (base : Heap) (f : Addr) (cdv : Value) (A : Around) (outer : List Env) (s : Shared) (H : Hp) (E : XK) : Cx := (cxOf CX0 P w K mg base ["_law_thing", "_law_width", "_law_cells", "_law_rows", "_law_seen", "_law_todo", "_law_one", "_law_indent", "_law_lead", "_law_tail", "_law_cell", "_law_pad", "_law_line", "_law_row", "_law_k", "_law_behind"] "_law_other_rows" (defScope s__law_other_rows) f cdv A outer s H E).nox
structure At (K : PySem.W.Frag) (mg : Str → Option Value) (x : Str) (st : Stmt) (ps : List Str) (f : Addr) (fd : FuncData) : Prop where
  F : Fun K x x st f fd
  m : mg x = some (.ref f)
  b : Binds K fd ps []
structure Bn (mg : Str → Option Value) : Prop where
  len : mg "len" = none
  isinstance : mg "isinstance" = none
  list : mg "list" = none
  str : mg "str" = none
  int : mg "int" = none
  range : mg "range" = none
  tuple : mg "tuple" = none
  bool : mg "bool" = none
  max : mg "max" = none
theorem le_size {n : Nat} (h : n ≤ 16777216) : n ≤ sizeLine := by rw [sizeLine_eq]; exact h
theorem lt_size {n : Nat} (h : n < 16777216) : n < sizeLine := by rw [sizeLine_eq]; exact h
theorem same_new {H : Hp} {p : Addr} (h : H p = none) (o : HO) : Same H (upd H p o) := fun b u q => by rw [upd_ne (ne_of_none q h)]; exact q
theorem same_upd {H H' : Hp} {p : Addr} (s : Same H H') (h : H p = none) (o : HO) : Same H (upd H' p o) := fun b u q => by rw [upd_ne (ne_of_none q h)]; exact s b u q
theorem len_app (a b : Str) : (a ++ b).length = a.length + b.length := by
  show (a.cps ++ b.cps).size = _
  rw [Array.size_append]
  rfl
structure ExKn (K : PySem.W.Frag) (C : Addr) : Prop where
  x : ExFacts K C
  self : PySem.W.kitCls K (.ref C) (.ref C) = some true
section
variable {P : Program} {w : World} {K : PySem.W.Frag} {mg : Str → Option Value} {base : Heap}
structure Marks (K : PySem.W.Frag) (mg : Str → Option Value) (n : Nat) (cs : List (Nat × Nat)) (pm : Addr) (om : Obj) (nz : Nat) : Prop where
  g : mg "MARKS" = some (.ref pm)
  k : K.lookup pm = some om
  c : om.cls = .type "tuple"
  d : om.data = .seq (cs.map fun p => Value.str (sg1 p.1) p.2).toArray nz
  t : ∀ p ∈ cs, p.2 ≠ 0 ∧ p.2 < n
  m : cs.map (·.1) = Rd.marks
noncomputable def toksRow (cs : List (Nat × Nat)) (x : Str) : List Str := (Txt.split (spreadTo cs x) ⟨#[32]⟩).filter fun y => !decide (y = ("" : Str))
theorem spread_sg {cs : List (Nat × Nat)} (hm : cs.map (·.1) = Rd.marks) (x : Str) (k : Nat) : Sl.sg (spreadTo (cs.take k) x) = (Sl.sg x).flatMap (Rd.sp1 (Rd.marks.take k)) := by
  have key : ∀ (l : List (Nat × Nat)) (y : Str), Sl.sg (spreadTo l y) = (l.map (·.1)).foldl (fun a c => a.flatMap fun s => if s = c then [32, c, 32] else [s]) (Sl.sg y) := by
    intro l
    induction l with
    | nil => intro y; rfl
    | cons p l ih =>
      intro y
      show Sl.sg (spreadTo l (rep y p.1)) = _
      rw [ih, List.map_cons, List.foldl_cons]
      congr 1
      have := Rd.repl_sg y ((" " : Str) ++ sg1 p.1 ++ (" " : Str)) p.1
      have e : Sl.sg ((" " : Str) ++ sg1 p.1 ++ (" " : Str)) = [32, p.1, 32] := by
        rw [Sl.sg_app, Sl.sg_app]; rfl
      rw [e] at this
      exact this
  rw [key, List.map_take, hm]
  refine Rd.sp_fold _ _ ?_ ?_
  · exact (show Rd.marks.Nodup by decide).sublist (List.take_sublist _ _)
  · intro z
    exact absurd (List.mem_of_mem_take z) (by decide)
theorem sg_len (x : Str) : (Sl.sg x).length = x.length := by
  unfold Sl.sg
  exact Array.length_toList
theorem spread_len {cs : List (Nat × Nat)} (hm : cs.map (·.1) = Rd.marks) (x : Str) (k : Nat) : (spreadTo (cs.take k) x).length ≤ 3 * x.length := by
  rw [← sg_len, spread_sg hm, ← sg_len]
  exact Rd.sp1_len _ _
theorem toksRow_sg {cs : List (Nat × Nat)} (hm : cs.map (·.1) = Rd.marks) (x : Str) : (toksRow cs x).map Sl.sg = Rd.tokL (Sl.sg x) := by
  have e0 : spreadTo cs x = spreadTo (cs.take cs.length) x := by rw [List.take_length]
  have hl : Rd.marks.take cs.length = Rd.marks := by
    have : cs.length = Rd.marks.length := by rw [← hm, List.length_map]
    rw [this, List.take_length]
  have e1 : Sl.sg (spreadTo cs x) = Rd.spL (Sl.sg x) := by
    rw [e0, spread_sg hm, hl]
    rfl
  unfold toksRow Rd.tokL
  rw [← e1, ← Rd.split_is]
  generalize Txt.split (spreadTo cs x) ⟨#[32]⟩ = l
  show (l.filter _).map Sl.sg = (l.map Sl.sg).filter _
  rw [List.filter_map]
  congr 1
  apply List.filter_congr
  intro y _
  show (!decide (y = ("" : Str))) = !(Sl.sg y).isEmpty
  congr 1
  by_cases h : y = ("" : Str)
  · subst h; rfl
  · have : Sl.sg y ≠ [] := fun e => h (Sl.sg_ext (by rw [e]; rfl))
    cases q : Sl.sg y with
    | nil => exact absurd q this
    | cons a b => simp [h]
set_option tactic.hygienic true in
theorem sp32_len : ∀ l : List Nat, (Rd.sp32 l).length ≤ l.length + 1 := by
  intro l
  induction l with
  | nil => simp [Rd.sp32]
  | cons s l ih =>
    rw [Rd.sp32]
    split
    · simp only [List.length_cons]; omega
    · split
      · simp
      · rename_i v vs q
        rw [q] at ih
        simp only [List.length_cons] at ih ⊢
        omega
inductive SpTokRowI (cs : List (Nat × Nat)) (vs : List V) (H : Hp) (Q : VK) (a_3 : XK) : Prop
  | mk (x : Str) (h_0 : vs = [.str x]) (h_1 : x.length ≤ 300000) (h_2 : ∀ (D : Addr) (H' : Hp), Same H H' → H D = none → H' D = some (.lst ((toksRow cs x).map V.str)) → Q (.ref D) H') : SpTokRowI cs vs H Q a_3
noncomputable def spTokRow (cs : List (Nat × Nat)) : Sp := fun vs H Q a_3 => SpTokRowI cs vs H Q a_3
theorem ok_tokrow {n k : Nat} {cs : List (Nat × Nat)} {pm f : Addr} {om : Obj} {nz : Nat} {fd : FuncData} (MK : Marks K mg n cs pm om nz) (TT : At K mg "tokens_of_row" s_tokens_of_row ["row"] f fd) : FnOkT n P w K mg base CX0 (k + 1) f fd ["row"] (spTokRow cs) := by
  have sc := sc_tokens_of_row
  refine TT.F.okT sc (fun vs H Q E h => ?_) (fun cdv A outer s H vs Q E hr h => ?_)
  · obtain ⟨x, rfl, _⟩ := h; rfl
  obtain ⟨x, rfl, hx, q⟩ := h
  refine ⟨_, (pss_consT (PS.tt (ps_setL (i := 1) sc.nd rfl rfl (pv 0)))
    (pss_consT (ps_spreadT (i := 1) (j := 2) PassesOwn.never rfl sc.nd rfl rfl (by decide) rfl rfl rfl MK.g MK.k MK.c MK.d MK.t)
    (pss_oneT (PS.tt (ps_ret (pe_compI rfl (pi_list (pe_bm PySem.F.plainAttrs_str PySem.F.slot_str_split PySem.F.type_str_split mt_split (pv 1) (pa_cons pe_str pa_nil))) (CompOk.none (by decide +kernel) (by decide +kernel) rfl (by decide +kernel) (by decide +kernel)) (fun _ _ _ => (pt_cmpR op_ne (pv 0) pe_str (nomark _))) (fun _ _ _ => (pv 0)))))))), ?_⟩
  refine ⟨_, rfl, x, rfl, fun k => ?_, fun o => ?_⟩
  · have := spread_len MK.m x k
    omega
  have hsl : (spreadTo cs x).length ≤ 900000 := by
    have := spread_len MK.m x cs.length
    rw [List.take_length] at this
    omega
  refine ⟨_, rfl, rfl, spreadTo cs x, 32, rfl, rfl, by omega, fun p hp => ⟨p, rfl, ⟨_, SqL.of upd_same⟩, fun D hD => ?_⟩⟩
  have hpl : (Txt.split (spreadTo cs x) ⟨#[32]⟩).length ≤ sizeLine := by
    have h1 : (Txt.split (spreadTo cs x) ⟨#[32]⟩).length = (Rd.sp32 (Sl.sg (spreadTo cs x))).length := by rw [← Rd.split_is, List.length_map]
    have h2 := sp32_len (Sl.sg (spreadTo cs x))
    rw [sg_len] at h2
    rw [h1]
    exact le_size (by omega)
  refine comp_keep (fun y => !decide (y = ("" : Str))) (SqL.of upd_same) hD hpl (fun y H' R _ k => ?_) (fun y H' R k => ?_) fun H' s' hD' => ?_
  · refine ⟨_, rfl, rfl, _, rfl, ?_⟩
    have := k H' (Same.refl H')
    have e : (!decide (V.str y = V.str ("" : Str))) = !decide (y = ("" : Str)) := by
      congr 1
      exact decide_eq_decide.mpr ⟨fun z => by injection z, fun z => by rw [z]⟩
    rw [← e] at this
    exact this
  · exact ⟨_, rfl, k H' (Same.refl H')⟩
  · refine q D H' ((same_new hp _).trans s') ?_ hD'
    by_cases e : D = p
    · rw [e, upd_same] at hD; cases hD
    · rwa [upd_ne e] at hD
noncomputable def toksOf (cs : List (Nat × Nat)) (rows : List Str) : List Str := rows.flatMap (toksRow cs)
theorem toksOf_sg {cs : List (Nat × Nat)} (hm : cs.map (·.1) = Rd.marks) (rows : List Str) : (toksOf cs rows).map Sl.sg = Rd.tokR rows := by
  unfold toksOf Rd.tokR
  rw [List.map_flatMap]
  congr 1
  funext x
  exact toksRow_sg hm x
inductive SpTokRowsI (K : PySem.W.Frag) (cs : List (Nat × Nat)) (vs : List V) (H : Hp) (Q : VK) (a_3 : XK) : Prop
  | mk (r : Addr) (rows : List Str) (h_0 : vs = [.ref r]) (h_1 : SqL K H r (rows.map V.str)) (h_2 : (toksOf cs rows).length ≤ 5000000) (h_3 : rows.length ≤ 1000000) (h_4 : (∀ x ∈ rows, x.length ≤ 300000)) (h_5 : ∀ (D : Addr) (H' : Hp), Same H H' → H' D = some (.lst ((toksOf cs rows).map V.str)) → Q (.ref D) H') : SpTokRowsI K cs vs H Q a_3
noncomputable def spTokRows (K : PySem.W.Frag) (cs : List (Nat × Nat)) : Sp := fun vs H Q a_3 => SpTokRowsI K cs vs H Q a_3
theorem ok_tokrows {n k : Nat} {cs : List (Nat × Nat)} {pm f g : Addr} {om : Obj} {nz : Nat} {fd gd : FuncData} (MK : Marks K mg n cs pm om nz) (TR : At K mg "tokens_of_rows" s_tokens_of_rows ["rows"] f fd) (TT : At K mg "tokens_of_row" s_tokens_of_row ["row"] g gd) :
    FnOkT n P w K mg base CX0 (k + 2) f fd ["rows"] (spTokRows K cs) := by
  have sc := sc_tokens_of_rows
  refine TR.F.okT sc (fun vs H Q E h => ?_) (fun cdv A outer s H vs Q E hr h => ?_)
  · obtain ⟨r, rows, rfl, _⟩ := h; rfl
  obtain ⟨r, rows, rfl, hS, hsum, hlen, hx, q⟩ := h
  have G : FnOkT n P w K mg base CX0 (k + 1) g gd ["row"] (spTokRow cs) := ok_tokrow MK TT
  refine ⟨_, (pss_consT (PS.tt (ps_setL (i := 1) sc.nd rfl rfl (pe_lst pa_nil)))
    (pss_consT (ps_forT PassesOwn.never rfl (pi_list (pv 0)) (pg_nameL (i := 2) sc.nd rfl rfl)
      (pss_oneT (ps_exprT (pe_bmT PySem.F.plainAttrs_list PySem.F.slot_list_extend PySem.F.type_list_extend mt_extend (pv 1) (pa_consT (pe_callT G hr rfl TT.m TT.F.kp TT.b .nil pass0 (PA.tt (pa_cons (pv 2) pa_nil))) (PA.tt pa_nil))))))
    (pss_oneT (PS.tt (ps_ret (pv 1)))))), ?_⟩
  refine ⟨by show 0 ≤ sizeLine; exact Nat.zero_le _, fun D hD => ?_⟩
  refine ⟨_, rfl, r, rfl, ⟨_, (same_new hD _).seq hS⟩, ?_⟩
  refine for_list (xs := rows.map V.str) (fun i σ H' => E1 fun z => A3 (σ = [some (.ref r), some (.ref D), z]) (Same H H') (H' D = some (.lst ((toksOf cs (rows.take i)).map V.str)))) ⟨none, rfl, same_new hD _, upd_same⟩ (fun i σ H' _ ⟨z, _, s1, _⟩ => s1.seq hS) (fun i x σ H' hxi ⟨z, e, s1, hd⟩ => ?_) (fun σ H' ⟨z, e, s1, hd⟩ => ?_)
  · subst e
    rw [List.getElem?_map] at hxi
    cases ex : rows[i]? with
    | none => rw [ex] at hxi; cases hxi
    | some y =>
      rw [ex] at hxi
      have exy : V.str y = x := Option.some.inj hxi
      subst exy
      have et : rows.take (i + 1) = rows.take i ++ [y] := by
        obtain ⟨h1, h2⟩ := List.getElem?_eq_some_iff.mp ex
        rw [List.take_succ_eq_append_getElem h1, h2]
      have ek : toksOf cs (rows.take (i + 1)) = toksOf cs (rows.take i) ++ toksRow cs y := by
        rw [et]
        unfold toksOf
        rw [List.flatMap_append]
        simp
      have hb : (toksOf cs (rows.take i)).length + (toksRow cs y).length ≤ 5000000 := by
        have e1 : toksOf cs rows = toksOf cs (rows.take (i + 1)) ++ toksOf cs (rows.drop (i + 1)) := by
          unfold toksOf
          rw [← List.flatMap_append, List.take_append_drop]
        have e2 := congrArg List.length e1
        rw [List.length_append, ek, List.length_append] at e2
        omega
      refine ⟨_, rfl, .inl ⟨rfl, _, SqL.of hd⟩, _, rfl, y, rfl, hx y (List.mem_of_getElem? ex), fun D2 H2 s2 hn2 hD2 => ?_⟩
      refine ⟨D, D2, _, _, rfl, rfl, s2 _ _ hd, hD2, by rw [List.length_map, List.length_map]; exact le_size (by omega), some (.str y), rfl, same_upd (s1.trans s2) hD _, ?_⟩
      rw [upd_same, ek, List.map_append]
  · subst e
    rw [List.length_map, List.take_length] at hd
    exact ⟨_, rfl, q D H' s1 hd⟩
end
noncomputable def wordy (c : Nat) : Bool := decide (97 ≤ c ∧ c ≤ 122) || decide (48 ≤ c ∧ c ≤ 57)
noncomputable def isWordM (x : Str) : Bool := !decide (V.str x = V.str "") && x.cps.toList.all wordy
inductive SpIsWordI  (vs : List V) (H : Hp) (Q : VK) (a_3 : XK) : Prop
  | mk (x : Str) (h_0 : vs = [.str x]) (h_1 : x.length ≤ 1000) (h_2 : ∀ H', Same H H' → Q (.bl (isWordM x)) H') : SpIsWordI  vs H Q a_3
noncomputable def spIsWord  : Sp := fun vs H Q a_3 => SpIsWordI  vs H Q a_3
section
variable {P : Program} {w : World} {K : PySem.W.Frag} {mg : Str → Option Value} {base : Heap}
noncomputable abbrev SIGNS : Str := "abcdefghijklmnopqrstuvwxyz0123456789"
theorem signs_wy (c : Nat) : decide (c ∈ SIGNS.cps.toList) = wordy c := by
  by_cases h : c < 128
  · have key : ∀ c, c < 128 → decide (c ∈ SIGNS.cps.toList) = wordy c := by decide +kernel
    exact key c h
  · have h1 : c ∉ SIGNS.cps.toList := fun z => h ((by decide +kernel : ∀ c ∈ SIGNS.cps.toList, c < 128) c z)
    have h2 : wordy c = false := by
      unfold wordy
      rw [decide_eq_false (by omega), decide_eq_false (by omega)]
      rfl
    rw [decide_eq_false h1, h2]
theorem ok_is_word {n : Nat} {f : Addr} {fd : FuncData} (TI : At K mg "is_word" s_is_word ["text"] f fd) (B : Bn mg) (m_all : mg "all" = none) {tk : Tok} (g_SIGNS_OF_WORDS : mg "SIGNS_OF_WORDS" = some (.str SIGNS tk)) :
    FnOk P w K mg base CX0 (n + 1) f fd ["text"] spIsWord := by
  have sc := sc_is_word
  refine TI.F.ok sc (fun vs H Q E h => ?_) (fun cdv A outer s H vs Q E hr h => ?_)
  · obtain ⟨x, rfl, _⟩ := h; rfl
  obtain ⟨x, rfl, hx, q⟩ := h
  refine ⟨_, ((pss_one (ps_ret (pe_and (pe_cmpR op_ne (pv 0) pe_str (nomark _)) (pe_one (pe_callB (call_all rfl) rfl m_all boot_all' (pa_cons (pe_comp rfl (pi_str (pv 0)) (CompOk.none (by decide +kernel) (by decide +kernel) rfl (by decide +kernel) (by decide +kernel)) (fun _ _ _ => (pe_cmpR op_in_str (pv 0) (pe_glob (v := .str "abcdefghijklmnopqrstuvwxyz0123456789") rfl g_SIGNS_OF_WORDS ⟨_, rfl⟩) (by with_unfolding_all rfl)))) pa_nil))))))), ?_⟩
  refine ⟨_, rfl, rfl, _, rfl, ?_⟩
  by_cases c : V.str x = V.str ""
  · have e : isWordM x = false := by rw [isWordM, decide_eq_true c]; rfl
    rw [decide_eq_true c]
    refine iteF ?_
    have q' := q H (Same.refl H)
    rw [e] at q'
    exact q'
  rw [decide_eq_false c]
  refine iteT ?_
  refine ⟨_, rfl, x, rfl, fun D hD => ?_⟩
  have hsz : x.cps.size ≤ sizeLine := le_size (by have : x.length = x.cps.size := rfl; omega)
  refine comp_str (fun i => V.bl (wordy (x.cps.toList.getD i 0))) hD hsz ?_ ?_
  · intro i c H' R hc _ k
    have hci : x.cps.toList[i]? = some c := by rw [Array.getElem?_toList]; exact hc
    have := k H' (Same.refl H')
    rw [List.getD_eq_getElem?_getD, hci, Option.getD_some] at this
    refine ⟨_, rfl, _, _, rfl, rfl, ?_⟩
    rw [StrLaws.found_one, signs_wy]
    exact this
  · intro H' s1 hD'
    have em : (List.range x.cps.size).map (fun i => V.bl (wordy (x.cps.toList.getD i 0))) = (x.cps.toList.map wordy).map V.bl := by
      have h := range_map x.cps.toList (fun i => V.bl (wordy (x.cps.toList.getD i 0))) (fun c => V.bl (wordy c)) fun i c e => by rw [List.getD_eq_getElem?_getD, e]; rfl
      rw [Array.length_toList] at h
      rw [h, List.map_map]
      rfl
    rw [em] at hD'
    refine ⟨D, x.cps.toList.map wordy, rfl, SqL.of hD', ?_⟩
    have e : isWordM x = (x.cps.toList.map wordy).all id := by rw [isWordM, decide_eq_false c, List.all_map]; rfl
    have q' := q H' s1
    rw [e] at q'
    exact q'
end
section
variable {P : Program} {w : World} {K : PySem.W.Frag} {mg : Str → Option Value} {base : Heap}
structure AtM (K : PySem.W.Frag) (C : Addr) (x qual : Str) (st : Stmt) (ps : List Str) (f : Addr) (fd : FuncData) : Prop where
  F : Fun K x qual st f fd
  M : Meth K C x f
  b : Binds K fd ps []
structure TkCls (K : PySem.W.Frag) (C : Addr) : Prop where
  c : Cls K C
  n1 : NoAttr K C "tokens"
  n2 : NoAttr K C "place"
noncomputable abbrev insT (C dx l : Addr) (k : Nat) : HO := .ins C dx [("tokens", .ref l), ("place", .int (k : Int))]
structure TkAt (C : Addr) (H : Hp) (x dx l : Addr) (ts : List Str) (k : Nat) : Prop where
  o : H x = some (insT C dx l k)
  l : H l = some (.lst ((ts ++ [("" : Str)]).map V.str))
  le : k ≤ ts.length
noncomputable def tkNow (ts : List Str) (k : Nat) : Str := (ts ++ [("" : Str)]).getD k ""
theorem tk_atI {ts : List Str} {k : Nat} (h : k ≤ ts.length) : atI ((ts ++ [("" : Str)]).map V.str) (k : Int) = some (.str (tkNow ts k)) := by
  refine atI_nat ?_
  have hl : k < (ts ++ [("" : Str)]).length := by rw [List.length_append]; show k < ts.length + 1; omega
  rw [List.getElem?_map, List.getElem?_eq_getElem hl]
  unfold tkNow
  rw [List.getD_eq_getElem?_getD, List.getElem?_eq_getElem hl]
  rfl
inductive SpTakesI (C : Addr) (vs : List V) (H : Hp) (Q : VK) (a_3 : XK) : Prop
  | mk (x dx l : Addr) (ts : List Str) (k : Nat) (t : Str) (h_0 : vs = [.ref x, .str t]) (h_1 : TkAt C H x dx l ts k) (h_2 : Q (.bl (decide (tkNow ts k = t))) (if tkNow ts k = t then upd H x (insT C dx l (k + 1)) else H)) : SpTakesI C vs H Q a_3
noncomputable def spTakes (C : Addr) : Sp := fun vs H Q a_3 => SpTakesI C vs H Q a_3
theorem ok_takes {n : Nat} {C f : Addr} {fd : FuncData} (TC : TkCls K C) (TT : AtM K C "takes" "Tokens.takes" s_Tokens_takes ["self", "token"] f fd) : FnOk P w K mg base CX0 (n + 1) f fd ["self", "token"] (spTakes C) := by
  have sc := sc_Tokens_takes
  refine TT.F.ok sc (fun vs H Q E h => ?_) (fun cdv A outer s H vs Q E hr h => ?_)
  · obtain ⟨x, dx, l, ts, k, t, rfl, _⟩ := h; rfl
  obtain ⟨x, dx, l, ts, k, t, rfl, TA, q⟩ := h
  refine ⟨_, ((pss_cons (ps_setL (i := 2) sc.nd rfl rfl (pe_cmpR op_eq (pe_ix ix_list (pe_fld (pv 0) rfl) (pe_fld (pv 0) rfl) (fun _ _ => rfl)) (pv 1) (nomark _)))
    (pss_cons (ps_if (pt_val (pv 2))
      (pss_one (ps_fldaug (pv 0) pe_int in_add))
      pss_nil)
    (pss_one (ps_ret (pv 2)))))), ?_⟩
  refine ⟨_, rfl, x, C, dx, _, _, rfl, TA.o, TC.c, TC.n1, rfl, _, rfl, x, C, dx, _, _, rfl, TA.o, TC.c, TC.n2, rfl, l, _, _, _, rfl, rfl, SqL.of TA.l, tk_atI TA.le, _, rfl, rfl, ?_⟩
  have ed : decide (V.str (tkNow ts k) = V.str t) = decide (tkNow ts k = t) := decide_eq_decide.mpr ⟨fun z => by injection z, fun z => by rw [z]⟩
  rw [ed]
  refine ⟨_, rfl, _, rfl, ?_⟩
  by_cases c : tkNow ts k = t
  · rw [if_pos c] at q
    rw [decide_eq_true c] at q ⊢
    refine iteT ?_
    refine ⟨_, rfl, x, C, dx, _, _, rfl, TA.o, TC.c, TC.n2, rfl, _, _, rfl, rfl, dx, _, TA.o, (by show 2 < 1000; decide), ?_⟩
    exact ⟨_, rfl, q⟩
  · rw [if_neg c] at q
    rw [decide_eq_false c] at q ⊢
    refine iteF ?_
    exact ⟨_, rfl, q⟩
noncomputable def But (x : Addr) (H H' : Hp) : Prop := ∀ b o, b ≠ x → H b = some o → H' b = some o
inductive SpInitI (C : Addr) (vs : List V) (H : Hp) (Q : VK) (a_3 : XK) : Prop
  | mk (x dx l : Addr) (ts : List Str) (h_0 : vs = [.ref x, .ref l]) (h_1 : H x = some (.ins C dx [])) (h_2 : H l = some (.lst (ts.map V.str))) (h_3 : ts.length ≤ 10000000) (h_4 : ∀ (m : Addr) (H' : Hp), TkAt C H' x dx m ts 0 → But x H H' → H m = none → Q .non H') : SpInitI C vs H Q a_3
noncomputable def spInit (C : Addr) : Sp := fun vs H Q a_3 => SpInitI C vs H Q a_3
theorem ok_init {n : Nat} {C f : Addr} {fd : FuncData} {tkE : Tok} (TC : TkCls K C) (FI : Fun K "__init__" "Tokens.__init__" s_Tokens___init__ f fd) (g_END : mg "END" = some (.str "" tkE)) : FnOk P w K mg base CX0 (n + 1) f fd ["self", "tokens"] (spInit C) := by
  have sc := sc_Tokens___init__
  refine FI.ok sc (fun vs H Q E h => ?_) (fun cdv A outer s H vs Q E hr h => ?_)
  · obtain ⟨x, dx, l, ts, rfl, _⟩ := h; rfl
  obtain ⟨x, dx, l, ts, rfl, hx, hl, hz, q⟩ := h
  refine ⟨_, ((pss_cons (ps_fld (pv 0) (pe_op op_cat (pv 1) (pe_lst (pa_cons (pe_glob (v := .str "") rfl g_END ⟨_, rfl⟩) pa_nil))) rfl)
    (pss_one (ps_fld (pv 0) pe_int rfl)))), ?_⟩
  refine ⟨_, rfl, (by show 1 ≤ sizeLine; decide), fun e he => ?_⟩
  have sl := same_new he (.lst [V.str ""])
  refine ⟨l, e, _, _, rfl, rfl, sl _ _ hl, upd_same, le_size (by rw [List.length_map]; show ts.length + 1 ≤ _; omega), fun m hm => ?_⟩
  have sm := sl.trans (same_new hm (.lst (ts.map V.str ++ [V.str ""])))
  have hmx : m ≠ x := fun z => by rw [z, sl _ _ hx] at hm; cases hm
  have hmH : H m = none := by
    cases q : H m with
    | none => rfl
    | some o => rw [sl _ _ q] at hm; cases hm
  refine ⟨_, rfl, x, C, dx, _, rfl, sm _ _ hx, TC.c, TC.n1, (by show 0 < 1000; decide), ?_⟩
  refine ⟨_, rfl, x, C, dx, _, rfl, upd_same, TC.c, TC.n2, (by show 1 < 1000; decide), ?_⟩
  refine q m _ ⟨?_, ?_, Nat.zero_le _⟩ (fun b o hb q => ?_) hmH
  · exact upd_same
  · rw [upd_ne hmx, upd_ne hmx, upd_same, List.map_append]
    rfl
  · rw [upd_ne hb, upd_ne hb]
    exact sm b o q
inductive SpTakeWordI (C : Addr) (vs : List V) (H : Hp) (Q : VK) (E : XK) : Prop
  | mk (x dx l : Addr) (ts : List Str) (k : Nat) (h_0 : vs = [.ref x]) (h_1 : TkAt C H x dx l ts k) (h_2 : (∀ c ∈ (tkNow ts k).cps.toList, c < 16 ^ 8)) (h_3 : (tkNow ts k).length ≤ 1000) (h_4 : (isWordM (tkNow ts k) = true → ∀ H', Same H H' → Q (.str (tkNow ts k)) (upd H' x (insT C dx l (k + 1))))) (h_5 : (isWordM (tkNow ts k) = false → ∀ (e : Addr) H', Same H H' → E (.ref e) none H')) : SpTakeWordI C vs H Q E
noncomputable def spTakeWord (C : Addr) : Sp := fun vs H Q E => SpTakeWordI C vs H Q E
theorem ok_take_word {n : Nat} {C f g c_NoThing : Addr} {fd gd : FuncData} (TC : TkCls K C) (TT : AtM K C "take_word" "Tokens.take_word" s_Tokens_take_word ["self"] f fd) (TI : At K mg "is_word" s_is_word ["text"] g gd) (G_is_word : FnOk P w K mg base CX0 n g gd ["text"] spIsWord)
    (g_NoThing : mg "NoThing" = some (.ref c_NoThing)) (xf : ExFacts K c_NoThing) : FnOk P w K mg base (CXN P w (.ref c_NoThing)) (n + 1) f fd ["self"] (spTakeWord C) := by
  have sc := sc_Tokens_take_word
  obtain ⟨oc, od, kV, doc, pm, an, cdv, ct, osl, rfl, lk, hcd⟩ := TT.F.ex
  refine fn_of lk hcd sc (fun vs H Q E h => ?_) (fun A outer s H vs Q E hr h => ?_)
  · obtain ⟨x, dx, l, ts, k, rfl, _⟩ := h; rfl
  obtain ⟨x, dx, l, ts, k, rfl, TA, hcp, hln, q, qE⟩ := h
  have m_is_word := TI.m
  have k_is_word := TI.F.kp
  have b_is_word := TI.b
  refine ⟨_, ((pss_cons (ps_setL (i := 1) sc.nd rfl rfl (pe_ix ix_list (pe_fld (pv 0) rfl) (pe_fld (pv 0) rfl) (fun _ _ => rfl)))
    (pss_cons (ps_if (pt_not (pt_val (pe_call G_is_word hr rfl m_is_word k_is_word b_is_word .nil pass0 (pa_cons (pv 1) pa_nil))))
      (pss_one (ps_raiseN xf.exc g_NoThing rfl (pa_cons (pe_fstrR (pv 1)) pa_nil) (fun _ _ z => z)))
      pss_nil)
    (pss_cons (ps_fldaug (pv 0) pe_int in_add)
    (pss_one (ps_ret (pv 1))))))), ?_⟩
  refine ⟨_, rfl, x, C, dx, _, _, rfl, TA.o, TC.c, TC.n1, rfl, _, rfl, x, C, dx, _, _, rfl, TA.o, TC.c, TC.n2, rfl, l, _, _, _, rfl, rfl, SqL.of TA.l, tk_atI TA.le, ?_⟩
  refine ⟨_, rfl, tkNow ts k, rfl, hln, fun H1 s1 => ⟨_, rfl, ?_⟩⟩
  cases c : isWordM (tkNow ts k) with
  | true =>
    refine iteF ?_
    refine ⟨_, rfl, x, C, dx, _, _, rfl, s1 _ _ TA.o, TC.c, TC.n2, rfl, _, _, rfl, rfl, dx, _, s1 _ _ TA.o, (by show 2 < 1000; decide), ?_⟩
    exact ⟨_, rfl, q c H1 s1⟩
  | false =>
    refine iteT ?_
    refine ⟨_, rfl, tkNow ts k, rfl, hcp, by omega, fun y => ⟨by show 1 ≤ sizeLine; decide, fun e => qE c e H1 s1⟩⟩
end
section
open Rp
open Th (T)
variable {P : Program} {w : World} {K : PySem.W.Frag} {mg : Str → Option Value} {base : Heap}
noncomputable def TkOk (ts : List Str) : Prop := ts.length ≤ 5000000 ∧ ∀ t ∈ ts, t ≠ ("" : Str) ∧ t.length ≤ 1000 ∧ ∀ c ∈ t.cps.toList, c < 16 ^ 8
theorem now_nil {ts : List Str} {k : Nat} (hk : k ≤ ts.length) (h : ts.drop k = []) : tkNow ts k = "" ∧ k = ts.length := by
  have e : k = ts.length := by
    have := congrArg List.length h
    rw [List.length_drop] at this
    have : ts.length - k = 0 := this
    omega
  subst e
  refine ⟨?_, rfl⟩
  unfold tkNow
  rw [List.getD_eq_getElem?_getD, List.getElem?_append_right (Nat.le_refl _), Nat.sub_self]
  rfl
theorem now_cons {ts r : List Str} {k : Nat} {t : Str} (h : ts.drop k = t :: r) : tkNow ts k = t ∧ ts.drop (k + 1) = r ∧ k + 1 ≤ ts.length ∧ t ∈ ts := by
  have hl := congrArg List.length h
  rw [List.length_drop, List.length_cons] at hl
  have hk : k < ts.length := by omega
  have e : ts[k]? = some t := by
    have := congrArg (·[0]?) h
    rw [List.getElem?_drop] at this
    simpa using this
  refine ⟨?_, ?_, hk, List.mem_of_getElem? e⟩
  · unfold tkNow
    rw [List.getD_eq_getElem?_getD, List.getElem?_append_left hk, e]
    rfl
  · have := congrArg (List.drop 1) h
    rw [List.drop_drop] at this
    exact this
theorem now_ok {ts : List Str} {k : Nat} (ok : TkOk ts) (hk : k ≤ ts.length) : (∀ c ∈ (tkNow ts k).cps.toList, c < 16 ^ 8) ∧ (tkNow ts k).length ≤ 1000 := by
  cases h : ts.drop k with
  | nil =>
    rw [(now_nil hk h).1]
    exact ⟨fun c z => absurd (show c ∈ ([] : List Nat) from z) (by simp), by decide⟩
  | cons t r =>
    obtain ⟨e, _, _, hm⟩ := now_cons h
    rw [e]
    exact ⟨(ok.2 t hm).2.2, (ok.2 t hm).2.1⟩
theorem But.trans {x : Addr} {a b c : Hp} (h : But x a b) (g : But x b c) : But x a c := fun y o n q => g y o n (h y o n q)
theorem same_but {x : Addr} {a b : Hp} (h : Same a b) : But x a b := fun y o _ q => h y o q
theorem but_upd {x : Addr} {H : Hp} (o : HO) : But x H (upd H x o) := fun b u n q => by rw [upd_ne n]; exact q
inductive SpRunWI (C : Addr) (vs : List V) (H : Hp) (Q : VK) (E : XK) : Prop
  | mk (x dx l : Addr) (ts : List Str) (k : Nat) (h_0 : vs = [.ref x]) (h_1 : TkAt C H x dx l ts k) (h_2 : TkOk ts) (h_3 : x ≠ l) (h_4 : (∀ ws r, Rd.runM isWordM (ts.drop k) = some (ws, r) → ∀ (p : Addr) (k' : Nat) (H' : Hp), TkAt C H' x dx l ts k' → ts.drop k' = r → But x H H' → H' p = some (.lst (ws.map V.str)) → H p = none → Q (.ref p) H')) (h_5 : (Rd.runM isWordM (ts.drop k) = none → ∀ (e : Addr) (H' : Hp), But x H H' → E (.ref e) none H')) : SpRunWI C vs H Q E
noncomputable def spRunW (C : Addr) : Sp := fun vs H Q E => SpRunWI C vs H Q E
theorem ok_runw {n : Nat} {C f c_NoThing : Addr} {fd : FuncData} {ft : Addr} {dt : FuncData} {fw : Addr} {dw : FuncData} (TC : TkCls K C) (TR : At K mg "words_of_run" s_words_of_run ["tokens"] f fd)
    (TT : AtM K C "takes" "Tokens.takes" s_Tokens_takes ["self", "token"] ft dt) (TW : AtM K C "take_word" "Tokens.take_word" s_Tokens_take_word ["self"] fw dw)
    (G_Tokens_takes : FnOk P w K mg base CX0 n ft dt ["self", "token"] (spTakes C)) (G_Tokens_take_word : FnOk P w K mg base (CXN P w (.ref c_NoThing)) n fw dw ["self"] (spTakeWord C)) :
    FnOk P w K mg base (CXN P w (.ref c_NoThing)) (n + 1) f fd ["tokens"] (spRunW C) := by
  have sc := sc_words_of_run
  obtain ⟨oc, od, kV, doc, pm, an, cdv, ct, osl, rfl, lk, hcd⟩ := TR.F.ex
  refine fn_of lk hcd sc (fun vs H Q E h => ?_) (fun A outer s H vs Q E hr h => ?_)
  · obtain ⟨x, dx, l, ts, k, rfl, _⟩ := h; rfl
  obtain ⟨x, dx, l, ts, k, rfl, TA, ok, hxl, q, qE⟩ := h
  have C_Tokens := TC.c
  have M_Tokens_takes := TT.M
  have b_Tokens_takes := TT.b
  have M_Tokens_take_word := TW.M
  have b_Tokens_take_word := TW.b
  refine ⟨_, ((pss_cons (ps_setL (i := 1) sc.nd rfl rfl (pe_lst pa_nil))
    (pss_cons (ps_while ownN (pt_not (pt_val (pe_meth (pv 0) C_Tokens M_Tokens_takes G_Tokens_takes hr b_Tokens_takes .nil pass0 (pa_cons pe_str pa_nil))))
      (pss_one (ps_expr (pe_bm PySem.F.plainAttrs_list PySem.F.slot_list_append PySem.F.type_list_append mt_append (pv 1) (pa_cons (pe_meth0 (pv 0) C_Tokens M_Tokens_take_word G_Tokens_take_word hr b_Tokens_take_word .nil passN) pa_nil)))))
    (pss_one (ps_ret (pv 1)))))), ?_⟩
  refine ⟨by show 0 ≤ sizeLine; exact Nat.zero_le _, fun p hp => ?_⟩
  have hpx : p ≠ x := fun z => by rw [z, TA.o] at hp; cases hp
  have hpl : p ≠ l := fun z => by rw [z, TA.l] at hp; cases hp
  refine ⟨fun m σ H' => E2 fun (k' : Nat) (wsd : List Str) => A7 (σ = [some (.ref x), some (.ref p)]) (TkAt C H' x dx l ts k') (But x H H') (H' p = some (.lst (wsd.map V.str))) (wsd.length ≤ k') (m = ts.length + 1 - k') (Rd.runM isWordM (ts.drop k) = (Rd.runM isWordM (ts.drop k')).map fun z => (wsd ++ z.1, z.2)),
    ⟨_, k, [], rfl, ⟨(same_new hp _) _ _ TA.o, (same_new hp _) _ _ TA.l, TA.le⟩, same_but (same_new hp _), upd_same, Nat.zero_le _, rfl, by simp⟩, ?_⟩
  rintro m σ H2 ⟨k', wsd, rfl, T2, B2, hd, hwk, rfl, hrun⟩
  refine ⟨_, rfl, x, dx, _, rfl, T2.o, rfl, x, dx, l, ts, k', ("]" : Str), rfl, T2, _, rfl, ?_⟩
  obtain ⟨hcp, hln⟩ := now_ok ok T2.le
  have word : tkNow ts k' ≠ "]" → (Rd.runM isWordM (ts.drop k') = if isWordM (tkNow ts k') = true then (Rd.runM isWordM (ts.drop (k' + 1))).map (fun z => (tkNow ts k' :: z.1, z.2)) else none) ∧ (isWordM (tkNow ts k') = true → k' + 1 ≤ ts.length) := fun hne => by
    cases hdr : ts.drop k' with
    | nil =>
      have e := (now_nil T2.le hdr).1
      rw [e]
      have e2 : isWordM ("" : Str) = false := by decide
      rw [e2]
      exact ⟨rfl, fun z => nomatch z⟩
    | cons t r =>
      obtain ⟨e, er, hk1, _⟩ := now_cons hdr
      rw [e] at hne ⊢
      rw [Rd.runM, if_neg hne, er]
      exact ⟨rfl, fun _ => hk1⟩
  by_cases ht : tkNow ts k' = "]"
  · rw [decide_eq_true ht, if_pos ht]
    refine iteF ?_
    cases hdr : ts.drop k' with
    | nil =>
      have e := (now_nil T2.le hdr).1
      rw [e] at ht
      exact absurd ht (by decide)
    | cons t r =>
      obtain ⟨e, er, hk1, _⟩ := now_cons hdr
      rw [e] at ht
      have hr1 : Rd.runM isWordM (ts.drop k) = some (wsd, r) := by
        rw [hrun, hdr, Rd.runM, if_pos ht]
        simp
      refine ⟨_, rfl, q wsd r hr1 p (k' + 1) _ ⟨upd_same, ?_, hk1⟩ er (B2.trans (but_upd _)) ?_ hp⟩
      · rw [upd_ne (Ne.symm hxl)]; exact T2.l
      · rw [upd_ne hpx]; exact hd
  · rw [decide_eq_false ht, if_neg ht]
    obtain ⟨hw, hk1⟩ := word ht
    refine iteT ?_
    refine ⟨_, fun _ _ z => z, ?_⟩
    refine ⟨_, rfl, .inl ⟨rfl, _, SqL.of hd⟩, _, rfl, x, dx, _, rfl, T2.o, rfl, x, dx, l, ts, k', rfl, T2, hcp, hln, fun hi H3 s3 => ?_, fun hi e H3 s3 => ?_⟩
    · refine ⟨p, wsd.map V.str, _, rfl, rfl, ?_, ?_, ?_⟩
      · rw [upd_ne hpx]; exact s3 _ _ hd
      · rw [List.length_map]
        have := ok.1
        have := T2.le
        exact lt_size (by omega)
      · refine ⟨ts.length + 1 - (k' + 1), by have := hk1 hi; omega, k' + 1, wsd ++ [tkNow ts k'], rfl, ⟨?_, ?_, hk1 hi⟩, ?_, ?_, ?_, rfl, ?_⟩
        · rw [upd_ne (Ne.symm hpx), upd_same]
        · rw [upd_ne (Ne.symm hpl), upd_ne (Ne.symm hxl)]; exact s3 _ _ T2.l
        · intro b o nb hb
          have hbp : b ≠ p := fun z => by rw [z, hp] at hb; cases hb
          rw [upd_ne hbp, upd_ne nb]
          exact s3 _ _ (B2 b o nb hb)
        · rw [upd_same, List.map_append]; rfl
        · rw [List.length_append]; show wsd.length + 1 ≤ k' + 1; omega
        · rw [hrun, hw, if_pos hi, Option.map_map]
          congr 1
          funext z
          simp
    · refine qE ?_ e H3 (B2.trans (same_but s3))
      rw [hrun, hw, hi]
      rfl
end
section
open Rp
open Th (T)
variable {P : Program} {w : World} {K : PySem.W.Frag} {mg : Str → Option Value} {base : Heap}
noncomputable def New (H G : Hp) : Prop := ∀ a o, G a = some o → H a = none
noncomputable def FrNew (H H' : Hp) : Rd.Fr → Addr → Prop
  | .tag w, p => H p = none ∧ H' p = some (.tup [.str "tag", .str w])
  | .bun w ps, p => ps = [] ∧ H p = none ∧ ∃ q, H q = none ∧ q ≠ p ∧ H' p = some (.tup [.str "bundle", .str w, .ref q]) ∧ H' q = some (.lst [])
inductive SpBeginI (C : Addr) (vs : List V) (H : Hp) (Q : VK) (E : XK) : Prop
  | mk (x dx l b : Addr) (ts : List Str) (k : Nat) (fs : List V) (h_0 : vs = [.ref x, .ref b]) (h_1 : TkAt C H x dx l ts k) (h_2 : TkOk ts) (h_3 : x ≠ l) (h_4 : x ≠ b) (h_5 : b ≠ l) (h_6 : H b = some (.lst fs)) (h_7 : fs.length ≤ 10000000) (h_8 : (∀ t r, Rd.beginM isWordM (ts.drop k) = some (.thing t r) → ∀ (v : V) (k' : Nat) (H' G : Hp), TkAt C H' x dx l ts k' → ts.drop k' = r → But x H H' → Rep G t v → Same G H' → New H G → Q v H')) (h_9 : (∀ f r, Rd.beginM isWordM (ts.drop k) = some (.open_ f r) → ∀ (p : Addr) (k' : Nat) (H' : Hp), TkAt C H' x dx l ts k' → ts.drop k' = r → (∀ a o, a ≠ x → a ≠ b → H a = some o → H' a = some o) → H' b = some (.lst (fs ++ [.ref p])) → FrNew H H' f p → Q .non H')) (h_10 : (Rd.beginM isWordM (ts.drop k) = none → ∀ (e : Addr) (H' : Hp), But x H H' → E (.ref e) none H')) : SpBeginI C vs H Q E
noncomputable def spBegin (C : Addr) : Sp := fun vs H Q E => SpBeginI C vs H Q E
noncomputable abbrev H0 : Hp := fun _ => none
theorem TkAt.step {C x dx l : Addr} {H : Hp} {ts : List Str} {k k' : Nat} (T : TkAt C H x dx l ts k) (hxl : x ≠ l) (h : k' ≤ ts.length) : TkAt C (upd H x (insT C dx l k')) x dx l ts k' :=
  ⟨upd_same, by rw [upd_ne (Ne.symm hxl)]; exact T.l, h⟩
theorem TkAt.keep {C x dx l : Addr} {H H' : Hp} {ts : List Str} {k : Nat} (T : TkAt C H x dx l ts k) (s : Same H H') : TkAt C H' x dx l ts k := ⟨s _ _ T.o, s _ _ T.l, T.le⟩
theorem none_of_but {x a : Addr} {H H' : Hp} {o : HO} (h : But x H H') (hx : H x ≠ none) (n : H' a = none) (hx' : H' x = some o) : H a = none := by
  cases q : H a with
  | none => rfl
  | some u =>
    by_cases e : a = x
    · rw [e, hx'] at n; cases n
    · rw [h a u e q] at n; cases n
theorem ok_begin {n : Nat} {C f c_NoThing : Addr} {fd : FuncData} {ft : Addr} {dt : FuncData} {fw : Addr} {dw : FuncData} {fr : Addr} {dr : FuncData} (TC : TkCls K C) (TB : At K mg "begin" s_begin ["tokens", "begun"] f fd) (TR : At K mg "words_of_run" s_words_of_run ["tokens"] fr dr)
    (TT : AtM K C "takes" "Tokens.takes" s_Tokens_takes ["self", "token"] ft dt) (TW : AtM K C "take_word" "Tokens.take_word" s_Tokens_take_word ["self"] fw dw)
    (G_Tokens_takes : FnOk P w K mg base CX0 n ft dt ["self", "token"] (spTakes C)) (G_Tokens_take_word : FnOk P w K mg base (CXN P w (.ref c_NoThing)) n fw dw ["self"] (spTakeWord C))
    (G_words_of_run : FnOk P w K mg base (CXN P w (.ref c_NoThing)) n fr dr ["tokens"] (spRunW C)) :
    FnOk P w K mg base (CXN P w (.ref c_NoThing)) (n + 1) f fd ["tokens", "begun"] (spBegin C) := by
  have sc := sc_begin
  obtain ⟨oc, od, kV, doc, pm, an, cdv, ct, osl, rfl, lk, hcd⟩ := TB.F.ex
  refine fn_of lk hcd sc (fun vs H Q E h => ?_) (fun A outer s H vs Q E hr h => ?_)
  · obtain ⟨x, dx, l, b, ts, k, fs, rfl, _⟩ := h; rfl
  obtain ⟨x, dx, l, b, ts, k, fs, rfl, TA, ok, hxl, hxb, hbl, hb, hfl, qT, qO, qE⟩ := h
  have C_Tokens := TC.c
  have M_Tokens_takes := TT.M
  have b_Tokens_takes := TT.b
  have M_Tokens_take_word := TW.M
  have b_Tokens_take_word := TW.b
  have m_words_of_run := TR.m
  have k_words_of_run := TR.F.kp
  have b_words_of_run := TR.b
  obtain ⟨hcp, hln⟩ := now_ok ok TA.le
  refine ⟨_, ((pss_cons (ps_if (pt_val (pe_meth (pv 0) C_Tokens M_Tokens_takes G_Tokens_takes hr b_Tokens_takes .nil pass0 (pa_cons pe_str pa_nil)))
      (pss_one (ps_ret (pe_tup (pa_cons pe_str (pa_cons (pe_call G_words_of_run hr rfl m_words_of_run k_words_of_run b_words_of_run .nil passN (pa_cons (pv 0) pa_nil)) pa_nil)))))
      pss_nil)
    (pss_cons (ps_setL (i := 2) sc.nd rfl rfl (pe_meth0 (pv 0) C_Tokens M_Tokens_take_word G_Tokens_take_word hr b_Tokens_take_word .nil passN))
    (pss_cons (ps_if (pt_val (pe_meth (pv 0) C_Tokens M_Tokens_takes G_Tokens_takes hr b_Tokens_takes .nil pass0 (pa_cons pe_str pa_nil)))
      (pss_cons (ps_expr (pe_bm PySem.F.plainAttrs_list PySem.F.slot_list_append PySem.F.type_list_append mt_append (pv 1) (pa_cons (pe_tup (pa_cons pe_str (pa_cons (pv 2) pa_nil))) pa_nil)))
      (pss_one (ps_ret pe_non)))
      pss_nil)
    (pss_cons (ps_if (pt_not (pt_val (pe_meth (pv 0) C_Tokens M_Tokens_takes G_Tokens_takes hr b_Tokens_takes .nil pass0 (pa_cons pe_str pa_nil))))
      (pss_one (ps_ret (pv 2)))
      pss_nil)
    (pss_cons (ps_if (pt_val (pe_meth (pv 0) C_Tokens M_Tokens_takes G_Tokens_takes hr b_Tokens_takes .nil pass0 (pa_cons pe_str pa_nil)))
      (pss_one (ps_ret (pe_tup (pa_cons pe_str (pa_cons (pv 2) (pa_cons (pe_lst pa_nil) pa_nil))))))
      pss_nil)
    (pss_cons (ps_expr (pe_bm PySem.F.plainAttrs_list PySem.F.slot_list_append PySem.F.type_list_append mt_append (pv 1) (pa_cons (pe_tup (pa_cons pe_str (pa_cons (pv 2) (pa_cons (pe_lst pa_nil) pa_nil)))) pa_nil)))
    (pss_one (ps_ret pe_non))))))))), ?_⟩
  refine ⟨_, rfl, x, dx, _, rfl, TA.o, rfl, x, dx, l, ts, k, ("[" : Str), rfl, TA, _, rfl, ?_⟩
  by_cases h0 : tkNow ts k = "["
  · rw [decide_eq_true h0, if_pos h0]
    refine iteT ?_
    cases hdr : ts.drop k with
    | nil =>
      rw [(now_nil TA.le hdr).1] at h0
      exact absurd h0 (by decide)
    | cons t r0 =>
      obtain ⟨e, er, hk1, _⟩ := now_cons hdr
      rw [e] at h0
      have hbm : Rd.beginM isWordM (ts.drop k) = (Rd.runM isWordM r0).map fun p => .thing (.run p.1) p.2 := by
        rw [hdr, Rd.beginM_eq, if_pos h0]
      have T1 := TA.step hxl hk1
      refine ⟨_, rfl, x, dx, l, ts, k + 1, rfl, T1, ok, hxl, fun ws r hrn p k' H' T' hd B hp hn => ?_, fun hrn e2 H' B => ?_⟩
      · refine ⟨by show 2 ≤ sizeLine; decide, fun a ha => ?_⟩
        rw [er] at hrn
        have hap : a ≠ p := fun z => by rw [z, hp] at ha; cases ha
        have hax : a ≠ x := fun z => by rw [z, T'.o] at ha; cases ha
        have hHp : H p = none := by
          cases q : H p with
          | none => rfl
          | some u =>
            have : p ≠ x := fun z => by rw [z, upd_same] at hn; cases hn
            rw [upd_ne this, q] at hn; cases hn
        have hHa : H a = none := by
          cases q : H a with
          | none => rfl
          | some u =>
            have := B a u hax (by rw [upd_ne hax]; exact q)
            rw [this] at ha; cases ha
        have sa := same_new ha (.tup [.str "run", .ref p])
        refine qT (.run ws) r (by rw [hbm, hrn]; rfl) (.ref a) k' _ (upd (upd H0 p (.lst (ws.map V.str))) a (.tup [.str "run", .ref p])) (T'.keep sa) hd ?_ ?_ ?_ ?_
        · intro c o nc hc
          exact sa _ _ (B c o nc (by rw [upd_ne nc]; exact hc))
        · exact ⟨a, p, rfl, upd_same, by rw [upd_ne (Ne.symm hap), upd_same]⟩
        · intro c o hc
          by_cases e1 : c = a
          · subst e1; rw [upd_same] at hc ⊢; exact hc
          · rw [upd_ne e1] at hc
            by_cases e2 : c = p
            · subst e2; rw [upd_same] at hc; cases hc; exact sa _ _ hp
            · rw [upd_ne e2] at hc; cases hc
        · intro c o hc
          by_cases e1 : c = a
          · subst e1; exact hHa
          · rw [upd_ne e1] at hc
            by_cases e2 : c = p
            · subst e2; exact hHp
            · rw [upd_ne e2] at hc; cases hc
      · rw [er] at hrn
        exact qE (by rw [hbm, hrn]; rfl) e2 H' ((but_upd _).trans B)
  rw [decide_eq_false h0, if_neg h0]
  refine iteF ?_
  refine ⟨_, rfl, x, dx, _, rfl, TA.o, rfl, x, dx, l, ts, k, rfl, TA, hcp, hln, fun hi H1 s1 => ?_, fun hi e H1 s1 => ?_⟩
  · cases hdr : ts.drop k with
    | nil =>
      rw [(now_nil TA.le hdr).1] at hi
      exact absurd hi (by decide)
    | cons t r0 =>
      obtain ⟨e, er, hk1, _⟩ := now_cons hdr
      rw [e] at h0 hi ⊢
      have T1 := (TA.keep s1).step hxl hk1
      have B1 : But x H (upd H1 x (insT C dx l (k + 1))) := (same_but s1).trans (but_upd _)
      have hb1 : (upd H1 x (insT C dx l (k + 1))) b = some (.lst fs) := B1 b _ (Ne.symm hxb) hb
      generalize upd H1 x (insT C dx l (k + 1)) = H2 at T1 B1 hb1
      have hbm : Rd.beginM isWordM (ts.drop k) = Rd.beginM isWordM (t :: ts.drop (k + 1)) := by rw [hdr, er]
      have freshH : ∀ {Hz : Hp} {kz : Nat}, But x H Hz → TkAt C Hz x dx l ts kz → ∀ {a : Addr}, Hz a = none → H a = none := fun {Hz kz} Bz Tz {a} ha => none_of_but Bz (by rw [TA.o]; simp) ha Tz.o
      refine ⟨_, rfl, x, dx, _, rfl, T1.o, rfl, x, dx, l, ts, k + 1, (":" : Str), rfl, T1, _, rfl, ?_⟩
      by_cases h1 : tkNow ts (k + 1) = ":"
      · rw [decide_eq_true h1, if_pos h1]
        refine iteT ?_
        cases hdr1 : ts.drop (k + 1) with
        | nil =>
          rw [(now_nil T1.le hdr1).1] at h1
          exact absurd h1 (by decide)
        | cons y r1 =>
          obtain ⟨e1, er1, hk2, _⟩ := now_cons hdr1
          rw [e1] at h1
          have T2 := T1.step hxl hk2
          have B2 : But x H (upd H2 x (insT C dx l (k + 1 + 1))) := B1.trans (but_upd _)
          have hb2 : (upd H2 x (insT C dx l (k + 1 + 1))) b = some (.lst fs) := B2 b _ (Ne.symm hxb) hb
          generalize upd H2 x (insT C dx l (k + 1 + 1)) = H3 at T2 B2 hb2
          refine ⟨_, rfl, .inl ⟨rfl, _, SqL.of hb2⟩, _, rfl, by show 2 ≤ sizeLine; decide, fun p hp => ?_⟩
          have sp := same_new hp (.tup [.str "tag", .str t])
          have hpb : p ≠ b := fun z => by rw [z, hb2] at hp; cases hp
          refine ⟨b, fs, .ref p, rfl, rfl, sp _ _ hb2, lt_size (by omega), ?_⟩
          refine qO (.tag t) r1 (by rw [hbm, hdr1, Rd.beginM_eq, if_neg h0, if_pos hi]; simp only [if_pos h1]) p (k + 1 + 1) _ ⟨?_, ?_, T2.le⟩ er1 ?_ upd_same ⟨freshH B2 T2 hp, ?_⟩
          · rw [upd_ne hxb]; exact sp _ _ T2.o
          · rw [upd_ne (Ne.symm hbl)]; exact sp _ _ T2.l
          · intro a o na nb ha
            rw [upd_ne nb]
            exact sp _ _ (B2 a o na ha)
          · rw [upd_ne hpb, upd_same]
      rw [decide_eq_false h1, if_neg h1]
      refine iteF ?_
      refine ⟨_, rfl, x, dx, _, rfl, T1.o, rfl, x, dx, l, ts, k + 1, ("(" : Str), rfl, T1, _, rfl, ?_⟩
      by_cases h2 : tkNow ts (k + 1) = "("
      · rw [decide_eq_true h2, if_pos h2]
        refine iteF ?_
        cases hdr1 : ts.drop (k + 1) with
        | nil =>
          rw [(now_nil T1.le hdr1).1] at h2
          exact absurd h2 (by decide)
        | cons y r1 =>
          obtain ⟨e1, er1, hk2, _⟩ := now_cons hdr1
          rw [e1] at h1 h2
          have T2 := T1.step hxl hk2
          have B2 : But x H (upd H2 x (insT C dx l (k + 1 + 1))) := B1.trans (but_upd _)
          have hb2 : (upd H2 x (insT C dx l (k + 1 + 1))) b = some (.lst fs) := B2 b _ (Ne.symm hxb) hb
          generalize upd H2 x (insT C dx l (k + 1 + 1)) = H3 at T2 B2 hb2
          refine ⟨_, rfl, x, dx, _, rfl, T2.o, rfl, x, dx, l, ts, k + 1 + 1, (")" : Str), rfl, T2, _, rfl, ?_⟩
          by_cases h3 : tkNow ts (k + 1 + 1) = ")"
          · rw [decide_eq_true h3, if_pos h3]
            refine iteT ?_
            cases hdr2 : ts.drop (k + 1 + 1) with
            | nil =>
              rw [(now_nil T2.le hdr2).1] at h3
              exact absurd h3 (by decide)
            | cons z r2 =>
              obtain ⟨e2, er2, hk3, _⟩ := now_cons hdr2
              rw [e2] at h3
              have T3 := T2.step hxl hk3
              have B3 : But x H (upd H3 x (insT C dx l (k + 1 + 1 + 1))) := B2.trans (but_upd _)
              generalize upd H3 x (insT C dx l (k + 1 + 1 + 1)) = H4 at T3 B3
              refine ⟨_, rfl, by show 0 ≤ sizeLine; exact Nat.zero_le _, fun q hq => ⟨by show 3 ≤ sizeLine; decide, fun a ha => ?_⟩⟩
              have sq := same_new hq (.lst [])
              have sa := same_new ha (.tup [.str "bundle", .str t, .ref q])
              have haq : a ≠ q := fun z => by rw [z, upd_same] at ha; cases ha
              have ha4 : H4 a = none := by rw [upd_ne haq] at ha; exact ha
              refine qT (.bundle t []) r2 (by rw [hbm, hdr1, Rd.beginM_eq, if_neg h0, if_pos hi, ← er1, hdr2]; simp only [if_neg h1, if_pos h2, if_pos h3]) (.ref a) (k + 1 + 1 + 1) _ (upd (upd H0 q (.lst [])) a (.tup [.str "bundle", .str t, .ref q])) ((T3.keep sq).keep sa) er2 (B3.trans ((same_but sq).trans (same_but sa))) ⟨a, q, [], rfl, upd_same, by rw [upd_ne (Ne.symm haq), upd_same], rfl⟩ ?_ ?_
              · intro c o hc
                by_cases e1 : c = a
                · subst e1; rw [upd_same] at hc ⊢; exact hc
                · rw [upd_ne e1] at hc ⊢
                  by_cases e2 : c = q
                  · subst e2; rw [upd_same] at hc ⊢; exact hc
                  · rw [upd_ne e2] at hc; cases hc
              · intro c o hc
                by_cases e1 : c = a
                · subst e1; exact freshH B3 T3 ha4
                · rw [upd_ne e1] at hc
                  by_cases e2 : c = q
                  · subst e2; exact freshH B3 T3 hq
                  · rw [upd_ne e2] at hc; cases hc
          rw [decide_eq_false h3, if_neg h3]
          refine iteF ?_
          refine ⟨_, rfl, .inl ⟨rfl, _, SqL.of hb2⟩, _, rfl, by show 0 ≤ sizeLine; exact Nat.zero_le _, fun q hq => ⟨by show 3 ≤ sizeLine; decide, fun p hp => ?_⟩⟩
          have sq := same_new hq (.lst [])
          have sp := same_new hp (.tup [.str "bundle", .str t, .ref q])
          have hpq : p ≠ q := fun z => by rw [z, upd_same] at hp; cases hp
          have hp3 : H3 p = none := by rw [upd_ne hpq] at hp; exact hp
          have hpb : p ≠ b := fun z => by rw [z, hb2] at hp3; cases hp3
          have hqb : q ≠ b := fun z => by rw [z, hb2] at hq; cases hq
          refine ⟨b, fs, .ref p, rfl, rfl, sp _ _ (sq _ _ hb2), lt_size (by omega), ?_⟩
          refine qO (.bun t []) (ts.drop (k + 1 + 1)) ?_ p (k + 1 + 1) _ ⟨?_, ?_, T2.le⟩ rfl ?_ upd_same ⟨rfl, freshH B2 T2 hp3, q, freshH B2 T2 hq, Ne.symm hpq, ?_, ?_⟩
          · rw [hbm, hdr1, Rd.beginM_eq, if_neg h0, if_pos hi, ← er1]
            cases hdr2 : ts.drop (k + 1 + 1) with
            | nil => simp only [if_neg h1, if_pos h2]
            | cons z r2 =>
              obtain ⟨e2, _⟩ := now_cons hdr2
              rw [e2] at h3
              simp only [if_neg h1, if_pos h2, if_neg h3]
          · rw [upd_ne hxb]; exact sp _ _ (sq _ _ T2.o)
          · rw [upd_ne (Ne.symm hbl)]; exact sp _ _ (sq _ _ T2.l)
          · intro a o na nb ha
            rw [upd_ne nb]
            exact sp _ _ (sq _ _ (B2 a o na ha))
          · rw [upd_ne hpb, upd_same]
          · rw [upd_ne hqb]
            exact sp _ _ upd_same
      rw [decide_eq_false h2, if_neg h2]
      refine iteT ?_
      refine ⟨_, rfl, qT (.word t) (ts.drop (k + 1)) ?_ (.str t) (k + 1) H2 H0 T1 rfl B1 rfl (fun _ _ z => nomatch z) (fun _ _ z => nomatch z)⟩
      rw [hbm, Rd.beginM_eq, if_neg h0, if_pos hi]
      cases hdr1 : ts.drop (k + 1) with
      | nil => rfl
      | cons y r1 =>
        obtain ⟨e1, _⟩ := now_cons hdr1
        rw [e1] at h1 h2
        simp only [if_neg h1, if_neg h2]
  · refine qE ?_ e H1 (same_but s1)
    cases hdr : ts.drop k with
    | nil => rfl
    | cons t r0 =>
      obtain ⟨e, _⟩ := now_cons hdr
      rw [e] at h0 hi
      rw [Rd.beginM_eq, if_neg h0, hi]
      rfl
end
section
open Rp
open Th (T)
variable {P : Program} {w : World} {K : PySem.W.Frag} {mg : Str → Option Value} {base : Heap}
inductive SpHandI (C : Addr) (vs : List V) (H : Hp) (Q : VK) (E : XK) : Prop
  | mk (v : V) (x dx l b : Addr) (ts : List Str) (k : Nat) (fs : List V) (p : Addr) (h_0 : vs = [v, .ref x, .ref b]) (h_1 : TkAt C H x dx l ts k) (h_2 : x ≠ l) (h_3 : x ≠ b) (h_4 : b ≠ l) (h_5 : H b = some (.lst (fs ++ [.ref p]))) (h_6 : ((∃ w : Str, H p = some (.tup [.str "tag", .str w]) ∧ ∀ a, (upd H b (.lst fs)) a = none → Q (.ref a) (upd (upd H b (.lst fs)) a (.tup [.str "tag", .str w, v]))) ∨ (∃ (w : Str) (q : Addr) (us : List V), H p = some (.tup [.str "bundle", .str w, .ref q]) ∧ H q = some (.lst us) ∧ us.length ≤ 10000000 ∧ q ≠ b ∧ q ≠ x ∧ q ≠ l ∧ k < ts.length + 1 ∧ (tkNow ts k = "," → Q .non (upd (upd H q (.lst (us ++ [v]))) x (insT C dx l (k + 1)))) ∧ (tkNow ts k = ")" → Q (.ref p) (upd (upd (upd H q (.lst (us ++ [v]))) x (insT C dx l (k + 1))) b (.lst fs))) ∧ (tkNow ts k ≠ "," → tkNow ts k ≠ ")" → ∀ e : Addr, E (.ref e) none (upd H q (.lst (us ++ [v]))))))) : SpHandI C vs H Q E
noncomputable def spHand (C : Addr) : Sp := fun vs H Q E => SpHandI C vs H Q E
theorem ok_hand {n : Nat} {C f c_NoThing : Addr} {fd : FuncData} {ft : Addr} {dt : FuncData} (TC : TkCls K C) (TH : At K mg "hand_over" s_hand_over ["thing", "tokens", "begun"] f fd)
    (TT : AtM K C "takes" "Tokens.takes" s_Tokens_takes ["self", "token"] ft dt) (G_Tokens_takes : FnOk P w K mg base CX0 n ft dt ["self", "token"] (spTakes C)) (g_NoThing : mg "NoThing" = some (.ref c_NoThing)) (xf : ExFacts K c_NoThing) :
    FnOk P w K mg base (CXN P w (.ref c_NoThing)) (n + 1) f fd ["thing", "tokens", "begun"] (spHand C) := by
  have sc := sc_hand_over
  obtain ⟨oc, od, kV, doc, pm, an, cdv, ct, osl, rfl, lk, hcd⟩ := TH.F.ex
  refine fn_of lk hcd sc (fun vs H Q E h => ?_) (fun A outer s H vs Q E hr h => ?_)
  · obtain ⟨v, x, dx, l, b, ts, k, fs, p, rfl, _⟩ := h; rfl
  obtain ⟨v, x, dx, l, b, ts, k, fs, p, rfl, TA, hxl, hxb, hbl, hb, h⟩ := h
  have C_Tokens := TC.c
  have M_Tokens_takes := TT.M
  have b_Tokens_takes := TT.b
  have hpop : (fs ++ [V.ref p])[(fs ++ [V.ref p]).length - 1]? = some (.ref p) := by simp
  have hdl : (fs ++ [V.ref p]).dropLast = fs := by simp
  refine ⟨_, ((pss_cons (ps_setL (i := 3) sc.nd rfl rfl (pe_ix ix_list (pv 2) (pe_un un_neg pe_int) (fun _ _ => rfl)))
    (pss_cons (ps_if (pt_cmpR op_eq (pe_ix ix_tup (pv 3) pe_int (fun _ _ => rfl)) pe_str (nomark _))
      (pss_cons (ps_expr (pe_bm0 PySem.F.plainAttrs_list PySem.F.slot_list_pop PySem.F.type_list_pop mt_pop (pv 2)))
      (pss_one (ps_ret (pe_tup (pa_cons pe_str (pa_cons (pe_ix ix_tup (pv 3) pe_int (fun _ _ => rfl)) (pa_cons (pv 0) pa_nil)))))))
      pss_nil)
    (pss_cons (ps_expr (pe_bm PySem.F.plainAttrs_list PySem.F.slot_list_append PySem.F.type_list_append mt_append (pe_ix ix_tup (pv 3) pe_int (fun _ _ => rfl)) (pa_cons (pv 0) pa_nil)))
    (pss_cons (ps_if (pt_val (pe_meth (pv 1) C_Tokens M_Tokens_takes G_Tokens_takes hr b_Tokens_takes .nil pass0 (pa_cons pe_str pa_nil)))
      (pss_one (ps_ret pe_non))
      pss_nil)
    (pss_cons (ps_if (pt_val (pe_meth (pv 1) C_Tokens M_Tokens_takes G_Tokens_takes hr b_Tokens_takes .nil pass0 (pa_cons pe_str pa_nil)))
      (pss_one (ps_ret (pe_bm0 PySem.F.plainAttrs_list PySem.F.slot_list_pop PySem.F.type_list_pop mt_pop (pv 2))))
      pss_nil)
    (pss_one (ps_raiseN xf.exc g_NoThing rfl (pa_cons pe_str pa_nil) (fun _ _ z => z))))))))), ?_⟩
  refine ⟨_, rfl, _, rfl, b, _, _, .ref p, rfl, rfl, SqL.of hb, atI_last _ _, ?_⟩
  rcases h with ⟨w, hp, q⟩ | ⟨w, q, us, hp, hq, hul, hqb, hqx, hql, hkl, q1, q2, q3⟩
  · refine ⟨_, rfl, p, _, _, _, rfl, rfl, SqT.of hp, rfl, rfl, _, rfl, ?_⟩
    refine iteT ?_
    have hpb : p ≠ b := fun z => by rw [z, hb] at hp; cases hp
    refine ⟨_, rfl, .inl ⟨rfl, _, SqL.of hb⟩, b, _, _, rfl, rfl, hb, hpop, ?_⟩
    rw [hdl]
    refine ⟨_, rfl, p, _, _, _, rfl, rfl, SqT.of (by rw [upd_ne hpb]; exact hp), rfl, _, rfl, by show 3 ≤ sizeLine; decide, fun a ha => q a ha⟩
  · refine ⟨_, rfl, p, _, _, _, rfl, rfl, SqT.of hp, rfl, rfl, _, rfl, ?_⟩
    refine iteF ?_
    refine ⟨_, rfl, p, _, _, _, rfl, rfl, SqT.of hp, rfl, .inl ⟨rfl, _, SqL.of hq⟩, _, rfl, q, us, v, rfl, rfl, hq, lt_size (by omega), ?_⟩
    have T1 : TkAt C (upd H q (.lst (us ++ [v]))) x dx l ts k := ⟨by rw [upd_ne (Ne.symm hqx)]; exact TA.o, by rw [upd_ne (Ne.symm hql)]; exact TA.l, TA.le⟩
    have hb1 : (upd H q (.lst (us ++ [v]))) b = some (.lst (fs ++ [.ref p])) := by rw [upd_ne (Ne.symm hqb)]; exact hb
    generalize upd H q (.lst (us ++ [v])) = H1 at T1 hb1 q1 q2 q3
    refine ⟨_, rfl, x, dx, _, rfl, T1.o, rfl, x, dx, l, ts, k, ("," : Str), rfl, T1, _, rfl, ?_⟩
    by_cases h1 : tkNow ts k = ","
    · rw [decide_eq_true h1, if_pos h1]
      refine iteT ?_
      exact q1 h1
    rw [decide_eq_false h1, if_neg h1]
    refine iteF ?_
    refine ⟨_, rfl, x, dx, _, rfl, T1.o, rfl, x, dx, l, ts, k, (")" : Str), rfl, T1, _, rfl, ?_⟩
    by_cases h2 : tkNow ts k = ")"
    · rw [decide_eq_true h2, if_pos h2]
      refine iteT ?_
      have hb2 : (upd H1 x (insT C dx l (k + 1))) b = some (.lst (fs ++ [.ref p])) := by rw [upd_ne (Ne.symm hxb)]; exact hb1
      refine ⟨_, rfl, .inl ⟨rfl, _, SqL.of hb2⟩, b, _, _, rfl, rfl, hb2, hpop, ?_⟩
      rw [hdl]
      exact q2 h2
    rw [decide_eq_false h2, if_neg h2]
    refine iteF ?_
    exact ⟨by show 1 ≤ sizeLine; decide, fun e => q3 h1 h2 e⟩
end
section
open Rp
open Th (T)
noncomputable def unH (G G2 : Hp) : Hp := fun a => match G a with
  | some o => some o
  | none => G2 a
theorem un_left (G G2 : Hp) : Same G (unH G G2) := fun a o h => by
  show (match G a with | some o => some o | none => G2 a) = some o
  rw [h]
theorem un_right {G G2 : Hp} (h : ∀ a o, G2 a = some o → G a = none) : Same G2 (unH G G2) := fun a o q => by
  show (match G a with | some o => some o | none => G2 a) = some o
  rw [h a o q]
  exact q
theorem un_cases {G G2 : Hp} {a : Addr} {o : HO} (h : unH G G2 a = some o) : G a = some o ∨ (G a = none ∧ G2 a = some o) := by
  have h' : (match G a with | some o => some o | none => G2 a) = some o := h
  cases q : G a with
  | some u => rw [q] at h'; exact .inl h'
  | none => rw [q] at h'; exact .inr ⟨rfl, h'⟩
theorem un_none {G G2 : Hp} {a : Addr} (h1 : G a = none) (h2 : G2 a = none) : unH G G2 a = none := by
  show (match G a with | some o => some o | none => G2 a) = none
  rw [h1]
  exact h2
noncomputable def FrA (G H : Hp) (k : Nat) (x b l : Addr) : Rd.Fr → Addr → Prop
  | .tag w, p => G p = some (.tup [.str "tag", .str w])
  | .bun w ps, p => ∃ (q : Addr) (us : List V), G p = some (.tup [.str "bundle", .str w, .ref q]) ∧ G q = none ∧ H q = some (.lst us) ∧ Reps G ps us ∧ us.length ≤ k ∧ q ≠ b ∧ q ≠ x ∧ q ≠ l
noncomputable def OpenIn (G : Hp) (ps : List Addr) (q : Addr) : Prop := ∃ p ∈ ps, ∃ w : Str, G p = some (.tup [.str "bundle", .str w, .ref q])
noncomputable def FrsA (G H : Hp) (k : Nat) (x b l : Addr) : List Rd.Fr → List Addr → Prop
  | [], ps => ps = []
  | f :: st, ps => ∃ (p : Addr) (r : List Addr), ps = p :: r ∧ FrA G H k x b l f p ∧ (∀ w q, G p = some (.tup [.str "bundle", .str w, .ref q]) → ¬ OpenIn G r q) ∧ FrsA G H k x b l st r
theorem FrA.keep {G G' H H' : Hp} {k k' : Nat} {x b l : Addr} (sG : Same G G') (hk : k ≤ k') : ∀ {f : Rd.Fr} {p : Addr}, FrA G H k x b l f p → (∀ q w, G p = some (.tup [.str "bundle", .str w, .ref q]) → G q = none → G' q = none ∧ ∀ o, H q = some o → H' q = some o) → FrA G' H' k' x b l f p
  | .tag w, p, h, _ => sG _ _ h
  | .bun w ps, p, ⟨q, us, h1, h2, h3, h4, h5, h6⟩, hq => by
    obtain ⟨e1, e2⟩ := hq q w h1 h2
    exact ⟨q, us, sG _ _ h1, e1, e2 _ h3, Reps.mono sG _ _ h4, Nat.le_trans h5 hk, h6⟩
theorem FrsA.keep {G G' H H' : Hp} {k k' : Nat} {x b l : Addr} (sG : Same G G') (hk : k ≤ k') : ∀ {st : List Rd.Fr} {ps : List Addr}, FrsA G H k x b l st ps → (∀ p ∈ ps, ∀ q w, G p = some (.tup [.str "bundle", .str w, .ref q]) → G q = none → G' q = none ∧ ∀ o, H q = some o → H' q = some o) → FrsA G' H' k' x b l st ps
  | [], ps, h, _ => h
  | f :: st, ps, ⟨p, r, e, hf, hn, hs⟩, hq => by
    subst e
    have inG : ∀ {f : Rd.Fr} {p : Addr}, FrA G H k x b l f p → ∃ o, G p = some o := fun {f p} h => by
      cases f with
      | tag w => exact ⟨_, h⟩
      | bun w ps => obtain ⟨q, us, h1, _⟩ := h; exact ⟨_, h1⟩
    have all : ∀ {st : List Rd.Fr} {r : List Addr}, FrsA G H k x b l st r → ∀ p ∈ r, ∃ o, G p = some o := by
      intro st
      induction st with
      | nil => intro r h p hp; cases h; cases hp
      | cons f st ih =>
        intro r h p hp
        obtain ⟨p', r', e, h1, _, h2⟩ := h
        subst e
        rcases List.mem_cons.mp hp with rfl | hp
        · exact inG h1
        · exact ih h2 p hp
    refine ⟨p, r, rfl, hf.keep sG hk (hq p List.mem_cons_self), fun w q h => ?_, FrsA.keep sG hk hs fun p' hp' => hq p' (List.mem_cons_of_mem _ hp')⟩
    obtain ⟨o, ho⟩ := inG hf
    have h' : G p = some (.tup [.str "bundle", .str w, .ref q]) := by
      have := sG _ _ ho
      rw [h] at this
      rw [ho, ← this]
    rintro ⟨p', hp', w', h2⟩
    obtain ⟨o', ho'⟩ := all hs p' hp'
    have h2' : G p' = some (.tup [.str "bundle", .str w', .ref q]) := by
      have := sG _ _ ho'
      rw [h2] at this
      rw [ho', ← this]
    exact hn w q h' ⟨p', hp', w', h2'⟩
theorem reps_snoc {G : Hp} : ∀ {ps : List T} {us : List V} {t : T} {v : V}, Reps G ps us → Rep G t v → Reps G (ps ++ [t]) (us ++ [v])
  | [], us, t, v, h, hv => by
    have e : us = [] := h
    subst e
    exact ⟨v, [], rfl, hv, rfl⟩
  | p :: ps, us, t, v, ⟨u, r, e, h1, h2⟩, hv => by
    subst e
    exact ⟨u, r ++ [v], rfl, h1, reps_snoc h2 hv⟩
end
section
open Rp
open Th (T)
structure RdS (H : Hp) (C x dx l b : Addr) (ts : List Str) (k : Nat) (st : List Rd.Fr) (ps : List Addr) (G H' : Hp) : Prop where
  tk : TkAt C H' x dx l ts k
  bg : H' b = some (.lst (ps.reverse.map V.ref))
  hg : Same H G
  gh : Same G H'
  gx : G x = none
  gb : G b = none
  fr : FrsA G H' k x b l st ps
  pl : ps.length ≤ k
theorem FrsA.open_ {G H : Hp} {k : Nat} {x b l : Addr} : ∀ {st : List Rd.Fr} {ps : List Addr}, FrsA G H k x b l st ps → ∀ p ∈ ps, ∀ w q, G p = some (.tup [.str "bundle", .str w, .ref q]) → ∃ us, H q = some (.lst us) ∧ G q = none ∧ q ≠ b ∧ q ≠ x ∧ q ≠ l
  | [], ps, h, p, hp, w, q, hq => by cases h; cases hp
  | f :: st, ps, ⟨p', r, e, hf, hn, hs⟩, p, hp, w, q, hq => by
    subst e
    rcases List.mem_cons.mp hp with rfl | hp
    · cases f with
      | tag w' => rw [show G p = some (.tup [.str "tag", .str w']) from hf] at hq; cases hq
      | bun w' ps' =>
        obtain ⟨q', us, h1, h2, h3, _, _, h6⟩ := hf
        rw [h1] at hq
        cases hq
        exact ⟨us, h3, h2, h6⟩
    · exact FrsA.open_ hs p hp w q hq
theorem RdS.thing {H G H' H2 G2 : Hp} {C x dx l b : Addr} {ts : List Str} {k k2 : Nat} {st : List Rd.Fr} {ps : List Addr} {t : T} {v : V} (S : RdS H C x dx l b ts k st ps G H') (hxb : x ≠ b) (hxl : x ≠ l) (T2 : TkAt C H2 x dx l ts k2) (hk : k ≤ k2) (B : But x H' H2) (R : Rep G2 t v) (s2 : Same G2 H2) (nw : New H' G2) :
    RdS H C x dx l b ts k2 st ps (unH G G2) H2 ∧ Rep (unH G G2) t v := by
  have dis : ∀ a o, G2 a = some o → G a = none := fun a o h => by
    have n := nw a o h
    cases q : G a with
    | none => rfl
    | some u => rw [S.gh _ _ q] at n; cases n
  have none2 : ∀ {a : Addr} {o : HO}, H' a = some o → G2 a = none := fun {a o} h => by
    cases q : G2 a with
    | none => rfl
    | some u => rw [nw a u q] at h; cases h
  refine ⟨⟨T2, B _ _ (Ne.symm hxb) S.bg, fun a o h => un_left G G2 a o (S.hg a o h), fun a o h => ?_, un_none S.gx (none2 S.tk.o), un_none S.gb (none2 S.bg), ?_, Nat.le_trans S.pl hk⟩, Rep.mono (un_right dis) _ _ R⟩
  · rcases un_cases h with h | ⟨_, h⟩
    · have : a ≠ x := fun z => by rw [z, S.gx] at h; cases h
      exact B _ _ this (S.gh _ _ h)
    · exact s2 _ _ h
  · refine S.fr.keep (un_left G G2) hk fun p hp q w hq hn => ?_
    obtain ⟨us, h1, h2, h3, h4, h5⟩ := S.fr.open_ p hp w q hq
    exact ⟨un_none h2 (none2 h1), fun o ho => B _ _ h4 ho⟩
theorem RdS.opened {H G H' H2 : Hp} {C x dx l b : Addr} {ts : List Str} {k k2 : Nat} {st : List Rd.Fr} {ps : List Addr} {f : Rd.Fr} {p : Addr} (S : RdS H C x dx l b ts k st ps G H') (T2 : TkAt C H2 x dx l ts k2) (hk : k < k2) (hxb : x ≠ b) (B : ∀ a o, a ≠ x → a ≠ b → H' a = some o → H2 a = some o)
    (hb : H2 b = some (.lst (ps.reverse.map V.ref ++ [.ref p]))) (N : FrNew H' H2 f p) : ∃ G2, RdS H C x dx l b ts k2 (f :: st) (p :: ps) G2 H2 := by
  have gn : ∀ {a : Addr}, H' a = none → G a = none := fun {a} h => by
    cases q : G a with
    | none => rfl
    | some u => rw [S.gh _ _ q] at h; cases h
  have hpn : H' p = none := by cases f with
    | tag w => exact N.1
    | bun w ps => exact N.2.1
  have htup : ∃ xs, H2 p = some (.tup xs) := by cases f with
    | tag w => exact ⟨_, N.2⟩
    | bun w ps => obtain ⟨_, _, q, _, _, h, _⟩ := N; exact ⟨_, h⟩
  obtain ⟨xs, hxs⟩ := htup
  have hpx : p ≠ x := fun z => by rw [z, S.tk.o] at hpn; cases hpn
  have hpb : p ≠ b := fun z => by rw [z, S.bg] at hpn; cases hpn
  have sG : Same G (upd G p (.tup xs)) := same_new (gn hpn) _
  refine ⟨upd G p (.tup xs), ⟨T2, ?_, fun a o h => sG _ _ (S.hg _ _ h), fun a o h => ?_, by rw [upd_ne (Ne.symm hpx)]; exact S.gx, by rw [upd_ne (Ne.symm hpb)]; exact S.gb, ?_, ?_⟩⟩
  · rw [hb, List.reverse_cons, List.map_append]; rfl
  · by_cases e : a = p
    · subst e; rw [upd_same] at h; rw [← h]; exact hxs
    · rw [upd_ne e] at h
      have e1 : a ≠ x := fun z => by rw [z, S.gx] at h; cases h
      have e2 : a ≠ b := fun z => by rw [z, S.gb] at h; cases h
      exact B _ _ e1 e2 (S.gh _ _ h)
  · have rest : FrsA (upd G p (.tup xs)) H2 k2 x b l st ps := S.fr.keep sG (Nat.le_of_lt hk) fun p' hp' q w hq hn => by
      obtain ⟨us, h1, h2, h3, h4, h5⟩ := S.fr.open_ p' hp' w q hq
      have : q ≠ p := fun z => by rw [z, hpn] at h1; cases h1
      exact ⟨by rw [upd_ne this]; exact h2, fun o ho => B _ _ h4 h3 ho⟩
    refine ⟨p, ps, rfl, ?_, fun w q hq => ?_, rest⟩
    · cases f with
      | tag w =>
        have := N.2
        rw [hxs] at this
        cases this
        exact upd_same
      | bun w ps' =>
        obtain ⟨rfl, _, q, hq, hqp, h1, h2⟩ := N
        rw [hxs] at h1
        cases h1
        have hqx : q ≠ x := fun z => by rw [z, S.tk.o] at hq; cases hq
        have hqb : q ≠ b := fun z => by rw [z, S.bg] at hq; cases hq
        have hql : q ≠ l := fun z => by rw [z, S.tk.l] at hq; cases hq
        exact ⟨q, [], upd_same, by rw [upd_ne hqp]; exact gn hq, h2, rfl, Nat.zero_le _, hqb, hqx, hql⟩
    · rintro ⟨p', hp', w', h2⟩
      obtain ⟨us, g1, _⟩ := rest.open_ p' hp' w' q h2
      have hp'p : p' ≠ p := fun z => by
        subst z
        have : ∃ o, G p' = some o := by
          have all : ∀ {st : List Rd.Fr} {r : List Addr}, FrsA G H' k x b l st r → ∀ p ∈ r, ∃ o, G p = some o := by
            intro st
            induction st with
            | nil => intro r h p hp; cases h; cases hp
            | cons f st ih =>
              intro r h p hp
              obtain ⟨p'', r', e, h1, _, h2⟩ := h
              subst e
              rcases List.mem_cons.mp hp with rfl | hp
              · cases f with
                | tag w => exact ⟨_, h1⟩
                | bun w ps => obtain ⟨q, us, h1, _⟩ := h1; exact ⟨_, h1⟩
              · exact ih h2 p hp
          exact all S.fr p' hp'
        obtain ⟨o, ho⟩ := this
        rw [gn hpn] at ho
        cases ho
      rw [upd_ne hp'p] at h2
      obtain ⟨us', g2, _⟩ := S.fr.open_ p' hp' w' q h2
      rw [upd_same] at hq
      cases f with
      | tag w'' =>
        have := N.2
        rw [hxs] at this
        cases this
        cases hq
      | bun w'' ps' =>
        obtain ⟨_, _, q', hq', _, h1, _⟩ := N
        rw [hxs] at h1
        cases h1
        cases hq
        rw [hq'] at g2
        cases g2
  · show ps.length + 1 ≤ k2
    have := S.pl
    omega
end
section
open Rp
open Th (T)
theorem RdS.tagged {H G H' : Hp} {C x dx l b a p : Addr} {ts : List Str} {k : Nat} {st : List Rd.Fr} {ps : List Addr} {w : Str} {t : T} {v : V} (S : RdS H C x dx l b ts k (.tag w :: st) (p :: ps) G H') (hxb : x ≠ b) (hbl : b ≠ l) (R : Rep G t v) (ha : (upd H' b (.lst (ps.reverse.map V.ref))) a = none) :
    RdS H C x dx l b ts k st ps (upd G a (.tup [.str "tag", .str w, v])) (upd (upd H' b (.lst (ps.reverse.map V.ref))) a (.tup [.str "tag", .str w, v])) ∧ Rep (upd G a (.tup [.str "tag", .str w, v])) (.tag w t) (.ref a) := by
  have hab : a ≠ b := fun z => by rw [z, upd_same] at ha; cases ha
  have ha' : H' a = none := by rw [upd_ne hab] at ha; exact ha
  have hax : a ≠ x := fun z => by rw [z, S.tk.o] at ha'; cases ha'
  have hal : a ≠ l := fun z => by rw [z, S.tk.l] at ha'; cases ha'
  have ga : G a = none := by
    cases q : G a with
    | none => rfl
    | some u => rw [S.gh _ _ q] at ha'; cases ha'
  have sG := same_new ga (.tup [.str "tag", .str w, v])
  obtain ⟨p', r', e, hf, hn, hs⟩ := S.fr
  cases e
  refine ⟨⟨⟨?_, ?_, S.tk.le⟩, ?_, fun c o h => sG _ _ (S.hg _ _ h), fun c o h => ?_, by rw [upd_ne (Ne.symm hax)]; exact S.gx, by rw [upd_ne (Ne.symm hab)]; exact S.gb, ?_, ?_⟩, ⟨a, v, rfl, upd_same, Rep.mono sG _ _ R⟩⟩
  · rw [upd_ne (Ne.symm hax), upd_ne hxb]; exact S.tk.o
  · rw [upd_ne (Ne.symm hal), upd_ne (Ne.symm hbl)]; exact S.tk.l
  · rw [upd_ne (Ne.symm hab), upd_same]
  · by_cases e : c = a
    · subst e; rw [upd_same] at h ⊢; exact h
    · rw [upd_ne e] at h ⊢
      have : c ≠ b := fun z => by rw [z, S.gb] at h; cases h
      rw [upd_ne this]
      exact S.gh _ _ h
  · refine hs.keep sG (Nat.le_refl _) fun p' hp' q w hq hn => ?_
    obtain ⟨us, h1, h2, h3, h4, h5⟩ := hs.open_ p' hp' w q hq
    have hqa : q ≠ a := fun z => by rw [z, ha'] at h1; cases h1
    exact ⟨by rw [upd_ne hqa]; exact h2, fun o ho => by rw [upd_ne hqa, upd_ne h3]; exact ho⟩
  · have := S.pl
    simp only [List.length_cons] at this
    omega
theorem RdS.more {H G H' : Hp} {C x dx l b p q : Addr} {ts : List Str} {k : Nat} {st : List Rd.Fr} {ps : List Addr} {w : Str} {ds : List T} {t : T} {v : V} {us : List V} (S : RdS H C x dx l b ts k (.bun w ds :: st) (p :: ps) G H') (hxb : x ≠ b) (hxl : x ≠ l) (R : Rep G t v)
    (hp : G p = some (.tup [.str "bundle", .str w, .ref q])) (hq : H' q = some (.lst us)) (hk : k + 1 ≤ ts.length) :
    RdS H C x dx l b ts (k + 1) (.bun w (ds ++ [t]) :: st) (p :: ps) G (upd (upd H' q (.lst (us ++ [v]))) x (insT C dx l (k + 1))) := by
  obtain ⟨p', r', e, hf, hn, hs⟩ := S.fr
  cases e
  obtain ⟨q', us', h1, h2, h3, h4, h5, h6, h7, h8⟩ := hf
  rw [hp] at h1
  cases h1
  rw [hq] at h3
  cases h3
  refine ⟨⟨upd_same, ?_, hk⟩, ?_, S.hg, fun c o h => ?_, S.gx, S.gb, ⟨p, ps, rfl, ⟨q, us ++ [v], hp, h2, ?_, reps_snoc h4 R, ?_, h6, h7, h8⟩, hn, ?_⟩, Nat.le_succ_of_le S.pl⟩
  · rw [upd_ne (Ne.symm hxl), upd_ne (Ne.symm h8)]; exact S.tk.l
  · rw [upd_ne (Ne.symm hxb), upd_ne (Ne.symm h6)]; exact S.bg
  · have e1 : c ≠ x := fun z => by rw [z, S.gx] at h; cases h
    have e2 : c ≠ q := fun z => by rw [z, h2] at h; cases h
    rw [upd_ne e1, upd_ne e2]
    exact S.gh _ _ h
  · rw [upd_ne h7, upd_same]
  · rw [List.length_append]; show us.length + 1 ≤ k + 1; omega
  · refine hs.keep (fun _ _ z => z) (Nat.le_succ _) fun p' hp' q2 w2 hq2 hn2 => ?_
    obtain ⟨us2, g1, g2, g3, g4, g5⟩ := hs.open_ p' hp' w2 q2 hq2
    have hne : q2 ≠ q := fun z => hn w q hp ⟨p', hp', w2, z ▸ hq2⟩
    exact ⟨hn2, fun o ho => by rw [upd_ne g4, upd_ne hne]; exact ho⟩
theorem RdS.ended {H G H' : Hp} {C x dx l b p q : Addr} {ts : List Str} {k : Nat} {st : List Rd.Fr} {ps : List Addr} {w : Str} {ds : List T} {t : T} {v : V} {us : List V} (S : RdS H C x dx l b ts k (.bun w ds :: st) (p :: ps) G H') (hxb : x ≠ b) (hxl : x ≠ l) (hbl : b ≠ l) (R : Rep G t v)
    (hp : G p = some (.tup [.str "bundle", .str w, .ref q])) (hq : H' q = some (.lst us)) (hk : k + 1 ≤ ts.length) :
    RdS H C x dx l b ts (k + 1) st ps (upd G q (.lst (us ++ [v]))) (upd (upd (upd H' q (.lst (us ++ [v]))) x (insT C dx l (k + 1))) b (.lst (ps.reverse.map V.ref))) ∧ Rep (upd G q (.lst (us ++ [v]))) (.bundle w (ds ++ [t])) (.ref p) := by
  obtain ⟨p', r', e, hf, hn, hs⟩ := S.fr
  cases e
  obtain ⟨q', us', h1, h2, h3, h4, h5, h6, h7, h8⟩ := hf
  rw [hp] at h1
  cases h1
  rw [hq] at h3
  cases h3
  have sG := same_new h2 (.lst (us ++ [v]))
  have hpq : p ≠ q := fun z => by rw [z, h2] at hp; cases hp
  refine ⟨⟨⟨?_, ?_, hk⟩, upd_same, fun c o h => sG _ _ (S.hg _ _ h), fun c o h => ?_, by rw [upd_ne (Ne.symm h7)]; exact S.gx, by rw [upd_ne (Ne.symm h6)]; exact S.gb, ?_, ?_⟩, ⟨p, q, us ++ [v], rfl, sG _ _ hp, upd_same, Reps.mono sG _ _ (reps_snoc h4 R)⟩⟩
  · rw [upd_ne hxb, upd_same]
  · rw [upd_ne (Ne.symm hbl), upd_ne (Ne.symm hxl), upd_ne (Ne.symm h8)]; exact S.tk.l
  · by_cases e : c = q
    · subst e
      rw [upd_same] at h
      rw [upd_ne h6, upd_ne h7, upd_same]
      exact h
    · rw [upd_ne e] at h
      have e1 : c ≠ x := fun z => by rw [z, S.gx] at h; cases h
      have e2 : c ≠ b := fun z => by rw [z, S.gb] at h; cases h
      rw [upd_ne e2, upd_ne e1, upd_ne e]
      exact S.gh _ _ h
  · refine hs.keep sG (Nat.le_succ _) fun p' hp' q2 w2 hq2 hn2 => ?_
    obtain ⟨us2, g1, g2, g3, g4, g5⟩ := hs.open_ p' hp' w2 q2 hq2
    have hne : q2 ≠ q := fun z => hn w q hp ⟨p', hp', w2, z ▸ hq2⟩
    exact ⟨by rw [upd_ne hne]; exact g2, fun o ho => by rw [upd_ne g3, upd_ne g4, upd_ne hne]; exact ho⟩
  · have := S.pl
    simp only [List.length_cons] at this
    omega
end
section
open Rp
open Th (T)
variable {P : Program} {w : World} {K : PySem.W.Frag} {mg : Str → Option Value} {base : Heap}
inductive SpReadI (K : PySem.W.Frag) (cs : List (Nat × Nat)) (vs : List V) (H : Hp) (Q : VK) (E : XK) : Prop
  | mk (r : Addr) (rows : List Str) (h_0 : vs = [.ref r]) (h_1 : SqL K H r (rows.map V.str)) (h_2 : rows.length ≤ 1000000) (h_3 : (∀ x ∈ rows, x.length ≤ 300000)) (h_4 : TkOk (toksOf cs rows)) (h_5 : (∀ t, Rd.parse isWordM (toksOf cs rows) = some t → ∀ (v : V) (H' : Hp), Same H H' → Rep H' t v → Q v H')) (h_6 : (Rd.parse isWordM (toksOf cs rows) = none → ∀ (e : Addr) (H' : Hp), Same H H' → E (.ref e) none H')) : SpReadI K cs vs H Q E
noncomputable def spRead (K : PySem.W.Frag) (cs : List (Nat × Nat)) : Sp := fun vs H Q E => SpReadI K cs vs H Q E
noncomputable def ThAt (G : Hp) : Option T → V → Prop
  | none, v => v = .non
  | some t, v => Rep G t v
theorem rep_some {G : Hp} : ∀ {t : T} {v : V}, Rep G t v → v ≠ .non
  | .word x, v, h => by rw [Rep] at h; rw [h]; simp
  | .bundle hd ps, v, h => by rw [Rep] at h; obtain ⟨a, l, vs, e, _⟩ := h; rw [e]; simp
  | .run ws, v, h => by rw [Rep] at h; obtain ⟨a, l, e, _⟩ := h; rw [e]; simp
  | .tag w t, v, h => by rw [Rep] at h; obtain ⟨a, u, e, _⟩ := h; rw [e]; simp
theorem begin_len {isW : Str → Bool} {l : List Str} : (∀ t r, Rd.beginM isW l = some (.thing t r) → r.length + 1 ≤ l.length) ∧ (∀ f r, Rd.beginM isW l = some (.open_ f r) → r.length + 2 ≤ l.length) := by
  cases l with
  | nil => exact ⟨fun t r h => (by cases h), fun f r h => (by cases h)⟩
  | cons x r0 =>
    rw [Rd.beginM_eq]
    by_cases h1 : x = ("[" : Str)
    · rw [if_pos h1]
      refine ⟨fun t r h => ?_, fun f r h => ?_⟩
      · cases q : Rd.runM isW r0 with
        | none => rw [q] at h; cases h
        | some p =>
          rw [q] at h
          cases h
          have := Rd.runM_len (ws := p.1) (r := p.2) (by rw [q])
          simp only [List.length_cons]
          omega
      · cases q : Rd.runM isW r0 with
        | none => rw [q] at h; cases h
        | some p => rw [q] at h; cases h
    · rw [if_neg h1]
      by_cases h2 : isW x = true
      · rw [if_pos h2]
        cases r0 with
        | nil => exact ⟨fun t r h => (by cases h; simp), fun f r h => (by cases h)⟩
        | cons y r1 =>
          by_cases h3 : y = (":" : Str)
          · simp only [if_pos h3]
            exact ⟨fun t r h => (by cases h), fun f r h => (by cases h; simp)⟩
          · by_cases h4 : y = ("(" : Str)
            · cases r1 with
              | nil =>
                simp only [if_neg h3, if_pos h4]
                exact ⟨fun t r h => (by cases h), fun f r h => (by cases h; simp)⟩
              | cons z r2 =>
                by_cases h5 : z = (")" : Str)
                · simp only [if_neg h3, if_pos h4, if_pos h5]
                  exact ⟨fun t r h => (by cases h; simp only [List.length_cons]; omega), fun f r h => (by cases h)⟩
                · simp only [if_neg h3, if_pos h4, if_neg h5]
                  exact ⟨fun t r h => (by cases h), fun f r h => (by cases h; simp only [List.length_cons]; omega)⟩
            · simp only [if_neg h3, if_neg h4]
              exact ⟨fun t r h => (by cases h; simp), fun f r h => (by cases h)⟩
      · rw [if_neg h2]
        exact ⟨fun t r h => (by cases h), fun f r h => (by cases h)⟩
end
section
open Rp
open Th (T)
variable {P : Program} {w : World} {K : PySem.W.Frag} {mg : Str → Option Value} {base : Heap}
theorem ok_read {nt m : Nat} {cs : List (Nat × Nat)} {pm : Addr} {om : Obj} {nz : Nat} {C f c_NoThing : Addr} {fd : FuncData} {fi ft fb fh fo : Addr} {di dt db dh dd : FuncData} {tkE : Tok} (MK : Marks K mg nt cs pm om nz) (TC : TkCls K C) (MK_Tokens : Mk K C fi) (g_Tokens : mg "Tokens" = some (.ref C))
    (TD : At K mg "read" s_read ["rows"] f fd) (TO : At K mg "tokens_of_rows" s_tokens_of_rows ["rows"] fo dd) (TB : At K mg "begin" s_begin ["tokens", "begun"] fb db) (TH : At K mg "hand_over" s_hand_over ["thing", "tokens", "begun"] fh dh)
    (TT : AtM K C "takes" "Tokens.takes" s_Tokens_takes ["self", "token"] ft dt) (b_Tokens___init__ : L2.Binds K di ["self", "tokens"] []) (g_END : mg "END" = some (.str "" tkE)) (g_NoThing : mg "NoThing" = some (.ref c_NoThing)) (xf : ExFacts K c_NoThing)
    (G_Tokens___init__ : FnOk P w K mg base CX0 m fi di ["self", "tokens"] (spInit C)) (G_tokens_of_rows : FnOkT nt P w K mg base CX0 (m + 1) fo dd ["rows"] (spTokRows K cs)) (G_Tokens_takes : FnOk P w K mg base CX0 (m + 1) ft dt ["self", "token"] (spTakes C))
    (G_begin : FnOk P w K mg base (CXN P w (.ref c_NoThing)) (m + 1) fb db ["tokens", "begun"] (spBegin C)) (G_hand_over : FnOk P w K mg base (CXN P w (.ref c_NoThing)) (m + 1) fh dh ["thing", "tokens", "begun"] (spHand C)) :
    FnOkT nt P w K mg base (CXN P w (.ref c_NoThing)) (m + 2) f fd ["rows"] (spRead K cs) := by
  have sc := sc_read
  obtain ⟨oc, od, kV, doc, pmv, an, cdv, ct, osl, rfl, lk, hcd⟩ := TD.F.ex
  refine fn_ofT lk hcd sc (fun vs H Q E h => ?_) (fun A outer s H vs Q E hr h => ?_)
  · obtain ⟨r, rows, rfl, _⟩ := h; rfl
  obtain ⟨r, rows, rfl, hS, hlen, hx, ok, qT, qE⟩ := h
  have m_tokens_of_rows := TO.m
  have k_tokens_of_rows := TO.F.kp
  have b_tokens_of_rows := TO.b
  have m_begin := TB.m
  have k_begin := TB.F.kp
  have b_begin := TB.b
  have m_hand_over := TH.m
  have k_hand_over := TH.F.kp
  have b_hand_over := TH.b
  have C_Tokens := TC.c
  have M_Tokens_takes := TT.M
  have b_Tokens_takes := TT.b
  generalize hts : toksOf cs rows = ts at ok qT qE
  obtain ⟨G0, hG0⟩ : ∃ G0, Rd.go isWordM (ts.length + 1) ts [] none = G0 := ⟨_, rfl⟩
  have rest3 : ∃ tr, PSs (cxOf (CXN P w (.ref c_NoThing)) P w K mg base ["rows", "tokens", "begun", "thing"] "read" (defScope s_read) f cdv A outer s H E) (List.drop 3 (defBody s_read)) tr ∧ ∀ (fuel k : Nat) (st : List Rd.Fr) (ps : List Addr) (th : Option T) (v : V) (G H' : Hp) (x dx l b : Addr), x ≠ b → x ≠ l → b ≠ l →
      RdS H C x dx l b ts k st ps G H' → ThAt G th v → (th = none → st ≠ []) → Rd.go isWordM fuel (ts.drop k) st th = G0 → ts.length - k + st.length ≤ fuel → tr { nx := fun _ H' => Q .non H', rt := Q } [some (.ref r), some (.ref x), some (.ref b), some v] H' := by
    refine ⟨_, ((pss_cons (ps_while ownN (pt_truth (pv 2) (fun _ => rfl))
      (pss_one (ps_if (pt_cmp (pc_isN (pv 3)))
        (pss_one (ps_setL (i := 3) sc.nd rfl rfl (pe_call G_begin hr rfl m_begin k_begin b_begin .nil passN (pa_cons (pv 1) (pa_cons (pv 2) pa_nil)))))
        (pss_one (ps_setL (i := 3) sc.nd rfl rfl (pe_call G_hand_over hr rfl m_hand_over k_hand_over b_hand_over .nil passN (pa_cons (pv 3) (pa_cons (pv 1) (pa_cons (pv 2) pa_nil)))))))))
    (pss_cons (ps_if (pt_not (pt_val (pe_meth (pv 1) C_Tokens M_Tokens_takes G_Tokens_takes hr b_Tokens_takes .nil pass0 (pa_cons (pe_glob (v := .str "") rfl g_END ⟨_, rfl⟩) pa_nil))))
      (pss_one (ps_raiseN xf.exc g_NoThing rfl (pa_cons pe_str pa_nil) (fun _ _ z => z)))
      pss_nil)
    (pss_one (ps_ret (pv 3)))))), fun fuel k st ps th v G H' x dx l b hxb hxl hbl S hth hst hgo hfu => ?_⟩
    refine ⟨fun m σ H2 => ∃ (k : Nat) (st : List Rd.Fr) (ps : List Addr) (th : Option T) (v : V) (G : Hp), σ = [some (.ref r), some (.ref x), some (.ref b), some v] ∧ RdS H C x dx l b ts k st ps G H2 ∧ ThAt G th v ∧ (th = none → st ≠ []) ∧ Rd.go isWordM m (ts.drop k) st th = G0 ∧ ts.length - k + st.length ≤ m,
      ⟨fuel, k, st, ps, th, v, G, rfl, S, hth, hst, hgo, hfu⟩, ?_⟩
    clear S hth hst hgo hfu
    rintro m σ H2 ⟨k, st, ps, th, v, G, rfl, S, hth, hst, hgo, hfu⟩
    have hHx : H x = none := by
      cases q : H x with
      | none => rfl
      | some u => have := S.hg _ _ q; rw [S.gx] at this; cases this
    refine ⟨_, rfl, !(ps.reverse.map V.ref).isEmpty, .inl ⟨_, SqL.of S.bg, rfl⟩, ?_⟩
    cases st with
    | nil =>
      have eps : ps = [] := S.fr
      subst eps
      refine iteF ?_
      cases th with
      | none => exact absurd rfl (hst rfl)
      | some t =>
        have e0 : Rd.go isWordM (ts.length + 1) ts [] none = some (t, ts.drop k) := by rw [hG0, ← hgo]; cases m <;> rfl
        refine ⟨_, rfl, x, dx, _, rfl, S.tk.o, rfl, x, dx, l, ts, k, ("" : Str), rfl, S.tk, _, rfl, ?_⟩
        by_cases hend : tkNow ts k = ""
        · rw [decide_eq_true hend, if_pos hend]
          refine iteF ?_
          have edr : ts.drop k = [] := by
            cases q : ts.drop k with
            | nil => rfl
            | cons y r1 =>
              obtain ⟨e, _, _, hm⟩ := now_cons q
              rw [e] at hend
              exact absurd hend (ok.2 y hm).1
          have sH : Same H (upd H2 x (insT C dx l (k + 1))) := fun a o h => by
            have : a ≠ x := fun z => by rw [z, hHx] at h; cases h
            rw [upd_ne this]
            exact S.gh _ _ (S.hg _ _ h)
          have sG : Same G (upd H2 x (insT C dx l (k + 1))) := fun a o h => by
            have : a ≠ x := fun z => by rw [z, S.gx] at h; cases h
            rw [upd_ne this]
            exact S.gh _ _ h
          refine ⟨_, rfl, qT t ?_ v _ sH (Rep.mono sG _ _ hth)⟩
          unfold Rd.parse
          rw [e0, edr]
        · rw [decide_eq_false hend, if_neg hend]
          refine iteT ?_
          refine ⟨by show 1 ≤ sizeLine; decide, fun e => qE ?_ e H2 fun a o h => S.gh _ _ (S.hg _ _ h)⟩
          unfold Rd.parse
          rw [e0]
          cases q : ts.drop k with
          | nil => exact absurd (now_nil S.tk.le q).1 hend
          | cons y r1 => rfl
    | cons f' st =>
      obtain ⟨p, r', e, hf, hn, hs⟩ := id S.fr
      subst e
      have etr : (!((p :: r').reverse.map V.ref).isEmpty) = true := by simp
      rw [etr]
      refine iteT ?_
      refine ⟨_, fun _ _ z => z, ?_⟩
      simp only [List.length_cons] at hfu
      obtain ⟨m, rfl⟩ : ∃ m', m = m' + 1 := ⟨m - 1, by omega⟩
      have hpl := S.pl
      have hfl : ((p :: r').reverse.map V.ref).length ≤ 10000000 := by
        rw [List.length_map, List.length_reverse]
        have := S.tk.le
        have := ok.1
        omega
      have sHb : ∀ {Hz : Hp}, But x H2 Hz → Same H Hz := fun B a o h => by
        have : a ≠ x := fun z => by rw [z, hHx] at h; cases h
        exact B a o this (S.gh _ _ (S.hg _ _ h))
      cases th with
      | none =>
        have ev : v = .non := hth
        subst ev
        rw [Rd.go] at hgo
        refine ⟨_, rfl, _, rfl, iteT ?_⟩
        obtain ⟨bl1, bl2⟩ := begin_len (isW := isWordM) (l := ts.drop k)
        refine ⟨_, rfl, _, rfl, x, dx, l, b, ts, k, _, rfl, S.tk, ok, hxl, hxb, hbl, S.bg, hfl, fun t rr hb v' k' Hn G2 T' hd B R s2 nw => ?_, fun ff rr hb pn k' Hn T' hd B hbn N => ?_, fun hb e Hn B => ?_⟩
        · have hl1 := bl1 t rr hb
          rw [hb] at hgo
          have hkk : k < k' := by
            have h1 := congrArg List.length hd
            rw [List.length_drop] at h1
            rw [List.length_drop] at hl1
            have := T'.le
            omega
          obtain ⟨S2, R2⟩ := S.thing hxb hxl T' (Nat.le_of_lt hkk) B R s2 nw
          refine ⟨m, Nat.lt_succ_self _, k', _, _, some t, v', _, rfl, S2, R2, (fun z => nomatch z), ?_, ?_⟩
          · rw [hd]; exact hgo
          · have := T'.le
            simp only [List.length_cons]; omega
        · have hl2 := bl2 ff rr hb
          rw [hb] at hgo
          have hkk : k + 1 < k' := by
            have h1 := congrArg List.length hd
            rw [List.length_drop] at h1
            rw [List.length_drop] at hl2
            have := T'.le
            omega
          obtain ⟨G2, S2⟩ := S.opened T' (by omega) hxb B hbn N
          refine ⟨m, Nat.lt_succ_self _, k', _, _, none, .non, _, rfl, S2, rfl, (fun _ z => nomatch z), ?_, ?_⟩
          · rw [hd]; exact hgo
          · have := T'.le
            simp only [List.length_cons]; omega
        · rw [hb] at hgo
          exact qE (by unfold Rd.parse; rw [hG0, ← hgo]) e Hn (sHb B)
      | some t =>
        have hv := rep_some hth
        have ed : decide (v = V.non) = false := decide_eq_false hv
        refine ⟨_, rfl, _, rfl, ?_⟩
        rw [ed]
        refine iteF ?_
        have hbg : H2 b = some (.lst (r'.reverse.map V.ref ++ [.ref p])) := by
          have := S.bg
          rw [List.reverse_cons, List.map_append] at this
          exact this
        rw [Rd.go] at hgo
        refine ⟨_, rfl, _, rfl, _, rfl, v, x, dx, l, b, ts, k, r'.reverse.map V.ref, p, rfl, S.tk, hxl, hxb, hbl, hbg, ?_⟩
        cases f' with
        | tag w1 =>
          refine .inl ⟨w1, S.gh _ _ hf, fun a ha => ?_⟩
          obtain ⟨S2, R2⟩ := S.tagged hxb hbl hth ha
          refine ⟨m, Nat.lt_succ_self _, k, _, _, some (.tag w1 t), _, _, rfl, S2, R2, (fun z => nomatch z), hgo, by omega⟩
        | bun w1 ds =>
          obtain ⟨q, us, h1, h2, h3, h4, h5, h6, h7, h8⟩ := hf
          have hlen : us.length ≤ 10000000 := by
            have := S.tk.le
            have := ok.1
            omega
          have nb : ∀ {y : Str}, tkNow ts k = y → y ≠ "" → k + 1 ≤ ts.length ∧ ts.drop k = y :: ts.drop (k + 1) := fun {y} hy hne => by
            cases hdr : ts.drop k with
            | nil => rw [(now_nil S.tk.le hdr).1] at hy; exact absurd hy.symm hne
            | cons z r1 =>
              obtain ⟨e1, e2, e3, _⟩ := now_cons hdr
              rw [e1] at hy
              rw [hy, e2]
              exact ⟨e3, rfl⟩
          refine .inr ⟨w1, q, us, S.gh _ _ h1, h3, hlen, h6, h7, h8, Nat.lt_succ_of_le S.tk.le, fun hc => ?_, fun hc => ?_, fun n1 n2 e => ?_⟩
          · obtain ⟨hk1, hdr⟩ := nb hc (by decide)
            have S2 := S.more hxb hxl hth h1 h3 hk1
            have hh : Rd.handM t (.bun w1 ds) (("," : Str) :: ts.drop (k + 1)) = some (.open_ (.bun w1 (ds ++ [t])) (ts.drop (k + 1))) := by simp [Rd.handM]
            rw [hdr, hh] at hgo
            refine ⟨m, Nat.lt_succ_self _, k + 1, _, _, none, .non, _, rfl, S2, rfl, (fun _ z => nomatch z), hgo, ?_⟩
            simp only [List.length_cons]; omega
          · obtain ⟨hk1, hdr⟩ := nb hc (by decide)
            obtain ⟨S2, R2⟩ := S.ended hxb hxl hbl hth h1 h3 hk1
            have e1 : ¬ (")" : Str) = ("," : Str) := by decide
            have hh : Rd.handM t (.bun w1 ds) ((")" : Str) :: ts.drop (k + 1)) = some (.thing (.bundle w1 (ds ++ [t])) (ts.drop (k + 1))) := by simp [Rd.handM, e1]
            rw [hdr, hh] at hgo
            refine ⟨m, Nat.lt_succ_self _, k + 1, _, _, some (.bundle w1 (ds ++ [t])), _, _, rfl, S2, R2, (fun z => nomatch z), hgo, by omega⟩
          · refine qE ?_ e _ ?_
            · unfold Rd.parse
              rw [hG0, ← hgo]
              cases hdr : ts.drop k with
              | nil => rfl
              | cons z r1 =>
                obtain ⟨e1, _⟩ := now_cons hdr
                rw [e1] at n1 n2
                have hh : Rd.handM t (.bun w1 ds) (z :: r1) = none := (if_neg n1).trans (if_neg n2)
                rw [hh]
            · intro a o h
              have hq : a ≠ q := fun z => by rw [z] at h; rw [S.hg _ _ h] at h2; cases h2
              rw [upd_ne hq]
              exact S.gh _ _ (S.hg _ _ h)
  obtain ⟨tr3, t3, hq3⟩ := rest3
  refine ⟨_, (pss_consT (ps_setT (i := 1) sc.nd rfl rfl (pe_makeT MK_Tokens G_Tokens___init__ hr rfl g_Tokens b_Tokens___init__ .nil pass0 (pa_consT (pe_callT G_tokens_of_rows hr rfl m_tokens_of_rows k_tokens_of_rows b_tokens_of_rows .nil pass0 (PA.tt (pa_cons (pv 0) pa_nil))) (PA.tt pa_nil)))) (PSs.tt ((pss_cons (ps_setL (i := 2) sc.nd rfl rfl (pe_lst pa_nil))
    (pss_cons (ps_setL (i := 3) sc.nd rfl rfl (pe_call G_begin hr rfl m_begin k_begin b_begin .nil passN (pa_cons (pv 1) (pa_cons (pv 2) pa_nil))))
    t3))))), ?_⟩
  refine ⟨_, rfl, r, rows, rfl, hS, (by rw [hts]; exact ok.1), hlen, hx, fun D H1 s1 hD x dx hxn hdx hne => ?_⟩
  rw [hts] at hD
  have hDx : D ≠ x := fun z => by rw [z, hxn] at hD; cases hD
  have hDd : D ≠ dx := fun z => by rw [z, hdx] at hD; cases hD
  refine ⟨x, dx, D, ts, rfl, upd_same, by rw [upd_ne hDx, upd_ne hDd]; exact hD, by have := ok.1; omega, fun l H2 T2 B2 hl => ⟨rfl, ?_⟩⟩
  have hxl : x ≠ l := fun z => by rw [← z, upd_same] at hl; cases hl
  have hHx : H x = none := by
    cases q : H x with
    | none => rfl
    | some u => rw [s1 _ _ q] at hxn; cases hxn
  have hHd : H dx = none := by
    cases q : H dx with
    | none => rfl
    | some u => rw [s1 _ _ q] at hdx; cases hdx
  have s2 : Same H H2 := fun a o h => by
    have e1 : a ≠ x := fun z => by rw [z, hHx] at h; cases h
    have e2 : a ≠ dx := fun z => by rw [z, hHd] at h; cases h
    exact B2 a o e1 (by rw [upd_ne e1, upd_ne e2]; exact s1 _ _ h)
  refine ⟨by show 0 ≤ sizeLine; exact Nat.zero_le _, fun b hb => ?_⟩
  have sb := same_new hb (.lst [])
  have hxb : x ≠ b := fun z => by rw [← z, T2.o] at hb; cases hb
  have hbl : b ≠ l := fun z => by rw [z, T2.l] at hb; cases hb
  have hHb : H b = none := by
    cases q : H b with
    | none => rfl
    | some u => rw [s2 _ _ q] at hb; cases hb
  have S0 : RdS H C x dx l b ts 0 [] [] H (upd H2 b (.lst [])) := ⟨T2.keep sb, upd_same, fun _ _ z => z, fun a o h => sb _ _ (s2 _ _ h), hHx, hHb, rfl, Nat.le_refl _⟩
  generalize upd H2 b (.lst []) = H3 at S0
  obtain ⟨bl1, bl2⟩ := begin_len (isW := isWordM) (l := ts)
  have hgo := hG0
  rw [Rd.go] at hgo
  refine ⟨_, rfl, _, rfl, x, dx, l, b, ts, 0, [], rfl, S0.tk, ok, hxl, hxb, hbl, S0.bg, Nat.zero_le _, fun t rr hb v' k' Hn G2 T' hd B R s3 nw => ?_, fun ff rr hb pn k' Hn T' hd B hbn N => ?_, fun hb e Hn B => ?_⟩
  · rw [List.drop_zero] at hb
    obtain ⟨S2, R2⟩ := S0.thing hxb hxl T' (Nat.zero_le _) B R s3 nw
    refine hq3 ts.length k' [] [] (some t) v' _ Hn x dx l b hxb hxl hbl S2 R2 (fun z => nomatch z) ?_ ?_
    · rw [hb] at hgo
      rw [hd, ← hgo]
    · simp
  · rw [List.drop_zero] at hb
    have hl2 := bl2 ff rr hb
    have hkk : 1 < k' := by
      have h1 := congrArg List.length hd
      rw [List.length_drop] at h1
      have := T'.le
      omega
    obtain ⟨G2, S2⟩ := S0.opened T' (by omega) hxb B hbn N
    refine hq3 ts.length k' [ff] [pn] none .non G2 Hn x dx l b hxb hxl hbl S2 rfl (fun _ z => nomatch z) ?_ ?_
    · rw [hb] at hgo
      rw [hd, ← hgo]
    · have := T'.le
      show ts.length - k' + 1 ≤ ts.length
      omega
  · rw [List.drop_zero] at hb
    refine qE ?_ e Hn fun a o h => ?_
    · unfold Rd.parse
      rw [hG0, ← hgo, hb]
    · have : a ≠ x := fun z => by rw [z, hHx] at h; cases h
      exact B a o this (S0.gh _ _ (S0.hg _ _ h))
end
section
variable {P : Program} {w : World} {K : PySem.W.Frag} {mg : Str → Option Value} {base : Heap}
noncomputable abbrev SEPS : Str := "()[],: "
theorem seps_in (c : Nat) : (!(Builtin.Str.occurrences SEPS ⟨#[c]⟩ 0 SEPS.length 1).isEmpty) = (decide (c = 32) || Rd.isM c) := by
  rw [StrLaws.found_one]
  by_cases h : c < 128
  · have key : ∀ c, c < 128 → decide (c ∈ SEPS.cps.toList) = (decide (c = 32) || Rd.isM c) := by decide +kernel
    exact key c h
  · have h1 : c ∉ SEPS.cps.toList := fun z => h ((by decide +kernel : ∀ c ∈ SEPS.cps.toList, c < 128) c z)
    have h2 : Rd.isM c = false := by
      cases q : Rd.isM c with
      | false => rfl
      | true =>
        have : c ∈ Rd.marks := by unfold Rd.isM at q; simpa using q
        exact absurd ((by decide : ∀ c ∈ Rd.marks, c < 128) c this) h
    rw [decide_eq_false h1, h2, decide_eq_false (by omega)]
    rfl
noncomputable def PcOk (a : List Nat) (pcs : List Str) (wd : Str) : Prop := ∃ b, a = b ++ Sl.sg wd ∧ Rd.Plain (Sl.sg wd) ∧ pcs.map Sl.sg = Rd.tokL b ∧ Rd.Cut b
theorem pc_word {b : List Nat} {wd : Str} {pcs : List Str} (hp : Rd.Plain (Sl.sg wd)) (h : pcs.map Sl.sg = Rd.tokL b) (hc : Rd.Cut b) : (pcs ++ if wd = ("" : Str) then [] else [wd]).map Sl.sg = Rd.tokL (b ++ Sl.sg wd) := by
  rw [hc, List.map_append, h]
  congr 1
  by_cases e : wd = ("" : Str)
  · subst e
    rw [if_pos rfl]
    exact Rd.tok_nil.symm
  · rw [if_neg e, Rd.tok_word hp fun z => e (Sl.sg_ext (by rw [z]; rfl))]
    rfl
theorem cut_blank (a : List Nat) : Rd.Cut (a ++ [32]) := fun c => by
  have e : a ++ [32] ++ c = a ++ 32 :: c := by simp
  rw [e, Rd.tok_blank, Rd.tok_blank, Rd.tok_nil]
  simp
theorem cut_mark {m : Nat} (h : Rd.isM m = true) (a : List Nat) : Rd.Cut (a ++ [m]) := fun c => by
  have e : a ++ [m] ++ c = a ++ m :: c := by simp
  rw [e, Rd.tok_mark h, Rd.tok_mark h, Rd.tok_nil]
  simp
theorem pc_blank {a : List Nat} {pcs : List Str} {wd : Str} (h : PcOk a pcs wd) : PcOk (a ++ [32]) (pcs ++ if wd = ("" : Str) then [] else [wd]) "" := by
  obtain ⟨b, rfl, hp, hm, hc⟩ := h
  refine ⟨b ++ Sl.sg wd ++ [32], by show _ = _ ++ []; simp, fun s hs => absurd (show s ∈ ([] : List Nat) from hs) (by simp), ?_, cut_blank _⟩
  rw [pc_word hp hm hc]
  have := Rd.tok_blank (b ++ Sl.sg wd) []
  rw [Rd.tok_nil, List.append_nil] at this
  exact this.symm
theorem pc_mark {a : List Nat} {pcs : List Str} {wd : Str} {c : Nat} (hm : Rd.isM c = true) (h : PcOk a pcs wd) : PcOk (a ++ [c]) ((pcs ++ if wd = ("" : Str) then [] else [wd]) ++ [⟨#[c]⟩]) "" := by
  obtain ⟨b, rfl, hp, h1, hc⟩ := h
  refine ⟨b ++ Sl.sg wd ++ [c], by show _ = _ ++ []; simp, fun s hs => absurd (show s ∈ ([] : List Nat) from hs) (by simp), ?_, cut_mark hm _⟩
  rw [List.map_append, pc_word hp h1 hc]
  have := Rd.tok_mark hm (b ++ Sl.sg wd) []
  rw [Rd.tok_nil] at this
  exact this.symm
theorem pc_sign {a : List Nat} {pcs : List Str} {wd : Str} {c : Nat} (h1 : c ≠ 32) (h2 : Rd.isM c = false) (h : PcOk a pcs wd) : PcOk (a ++ [c]) pcs (wd ++ ⟨#[c]⟩) := by
  obtain ⟨b, rfl, hp, hm, hc⟩ := h
  have e : Sl.sg (wd ++ ⟨#[c]⟩) = Sl.sg wd ++ [c] := Sl.sg_app _ _
  refine ⟨b, by rw [e]; simp, ?_, hm, hc⟩
  rw [e]
  intro s hs
  rcases List.mem_append.mp hs with z | z
  · exact hp s z
  · cases List.mem_singleton.mp z
    exact ⟨h1, h2⟩
theorem pc_end {l : List Nat} {pcs : List Str} {wd : Str} (h : PcOk (l ++ [32]) pcs wd) : pcs.map Sl.sg = Rd.tokL l := by
  obtain ⟨b, e, hp, hm, hc⟩ := h
  have hw : Sl.sg wd = [] := by
    cases q : (Sl.sg wd).reverse with
    | nil => exact List.reverse_eq_nil_iff.mp q
    | cons s r =>
      have e1 : Sl.sg wd = r.reverse ++ [s] := by rw [← List.reverse_reverse (Sl.sg wd), q, List.reverse_cons]
      rw [e1, ← List.append_assoc] at e
      have e2 := (List.append_inj' e rfl).2
      cases e2
      exact absurd rfl (hp 32 (by rw [e1]; simp)).1
  rw [hw, List.append_nil] at e
  rw [hm, ← e]
  have := Rd.tok_blank l []
  rw [Rd.tok_nil, List.append_nil] at this
  exact this
inductive SpPiecesI  (vs : List V) (H : Hp) (Q : VK) (a_3 : XK) : Prop
  | mk (x : Str) (h_0 : vs = [.str x]) (h_1 : x.length ≤ 1000000) (h_2 : ∀ (p : Addr) (H' : Hp) (pcs : List Str), Same H H' → H' p = some (.lst (pcs.map V.str)) → pcs.map Sl.sg = Rd.tokL (Sl.sg x) → Q (.ref p) H') : SpPiecesI  vs H Q a_3
noncomputable def spPieces  : Sp := fun vs H Q a_3 => SpPiecesI  vs H Q a_3
theorem sdec (a b : Str) : decide (V.str a = V.str b) = decide (a = b) := decide_eq_decide.mpr ⟨fun z => by injection z, fun z => by rw [z]⟩
theorem ok_pieces {n : Nat} {f : Addr} {fd : FuncData} (TP : At K mg "_law_pieces_of" s__law_pieces_of ["_law_line"] f fd) : FnOk P w K mg base CX0 (n + 1) f fd ["_law_line"] spPieces := by
  have sc := sc__law_pieces_of
  refine TP.F.ok sc (fun vs H Q E h => ?_) (fun cdv A outer s H vs Q E hr h => ?_)
  · obtain ⟨x, rfl, _⟩ := h; rfl
  obtain ⟨x, rfl, hx, q⟩ := h
  have hA_1 : PSs (XF__law_pieces_of P w K mg base f cdv A outer s H E) (List.drop 3 (defBody s__law_pieces_of)) _ := (pss_one (ps_ret (pv 1)))
  let tA_1 : L2.TS := rdOf hA_1
  have hB_1 : PSs _ _ tA_1 := hA_1
  have hA_2 : PSs (XF__law_pieces_of P w K mg base f cdv A outer s H E) (thenA (ixA (thenA (ixA (thenA (ixA (defBody s__law_pieces_of) 2)) 0)) 2)) _ := (pss_one (ps_expr (pe_bm PySem.F.plainAttrs_list PySem.F.slot_list_append PySem.F.type_list_append mt_append (pv 1) (pa_cons (pv 3) pa_nil))))
  let tA_2 : L2.TS := rdOf hA_2
  have hB_2 : PSs _ _ tA_2 := hA_2
  have hA_3 : PSs (XF__law_pieces_of P w K mg base f cdv A outer s H E) (List.drop 2 (thenA (ixA (thenA (ixA (defBody s__law_pieces_of) 2)) 0))) _ := (pss_one (ps_if (pt_cmpR op_ne (pv 3) pe_str (nomark _)) hB_2 pss_nil))
  let tA_3 : L2.TS := rdOf hA_3
  have hB_3 : PSs _ _ tA_3 := hA_3
  have hA_4 : PSs (XF__law_pieces_of P w K mg base f cdv A outer s H E) (List.drop 1 (thenA (ixA (thenA (ixA (defBody s__law_pieces_of) 2)) 0))) _ := (pss_cons (ps_setL (i := 2) sc.nd rfl rfl pe_str) hB_3)
  let tA_4 : L2.TS := rdOf hA_4
  have hB_4 : PSs _ _ tA_4 := hA_4
  have hA_5 : PSs (XF__law_pieces_of P w K mg base f cdv A outer s H E) (thenA (ixA (thenA (ixA (thenA (ixA (defBody s__law_pieces_of) 2)) 0)) 0)) _ := (pss_one (ps_expr (pe_bm PySem.F.plainAttrs_list PySem.F.slot_list_append PySem.F.type_list_append mt_append (pv 1) (pa_cons (pv 2) pa_nil))))
  let tA_5 : L2.TS := rdOf hA_5
  have hB_5 : PSs _ _ tA_5 := hA_5
  have hA_6 : PSs (XF__law_pieces_of P w K mg base f cdv A outer s H E) (thenA (ixA (thenA (ixA (defBody s__law_pieces_of) 2)) 0)) _ := (pss_cons (ps_if (pt_cmpR op_ne (pv 2) pe_str (nomark _)) hB_5 pss_nil) hB_4)
  let tA_6 : L2.TS := rdOf hA_6
  have hB_6 : PSs _ _ tA_6 := hA_6
  have hA_7 : PSs (XF__law_pieces_of P w K mg base f cdv A outer s H E) (elseA (ixA (thenA (ixA (defBody s__law_pieces_of) 2)) 0)) _ := (pss_one (ps_setL (i := 2) sc.nd rfl rfl (pe_op op_add_str (pv 2) (pv 3))))
  let tA_7 : L2.TS := rdOf hA_7
  have hB_7 : PSs _ _ tA_7 := hA_7
  have hA_8 : PSs (XF__law_pieces_of P w K mg base f cdv A outer s H E) (thenA (ixA (defBody s__law_pieces_of) 2)) _ := (pss_one (ps_if (pt_cmpR op_in_str (pv 3) pe_str (by with_unfolding_all rfl)) hB_6 hB_7))
  let tA_8 : L2.TS := rdOf hA_8
  have hB_8 : PSs _ _ tA_8 := hA_8
  have hA_9 : PSs (XF__law_pieces_of P w K mg base f cdv A outer s H E) (List.drop 2 (defBody s__law_pieces_of)) _ := (pss_cons (ps_for PassesOwn.never rfl (pi_str (pe_op op_add_str (pv 0) pe_str)) (pg_nameL (i := 3) sc.nd rfl rfl) hB_8) hB_1)
  let tA_9 : L2.TS := rdOf hA_9
  have hB_9 : PSs _ _ tA_9 := hA_9
  have hA_10 : PSs (XF__law_pieces_of P w K mg base f cdv A outer s H E) (List.drop 1 (defBody s__law_pieces_of)) _ := (pss_cons (ps_setL (i := 2) sc.nd rfl rfl pe_str) hB_9)
  let tA_10 : L2.TS := rdOf hA_10
  have hB_10 : PSs _ _ tA_10 := hA_10
  have hA_11 : PSs (XF__law_pieces_of P w K mg base f cdv A outer s H E) (defBody s__law_pieces_of) _ := (pss_cons (ps_setL (i := 1) sc.nd rfl rfl (pe_lst pa_nil)) hB_10)
  let tA_11 : L2.TS := rdOf hA_11
  have hB_11 : PSs _ _ tA_11 := hA_11
  refine ⟨_, hB_11, ?_⟩
  refine ⟨by show 0 ≤ sizeLine; exact Nat.zero_le _, fun p hp => ?_⟩
  have el : (x ++ (" " : Str)).length = x.length + 1 := len_app x " "
  have es : Sl.sg (x ++ (" " : Str)) = Sl.sg x ++ [32] := Sl.sg_app x " "
  refine ⟨_, rfl, _, _, rfl, rfl, le_size (by show x.length + 1 ≤ _; omega), x ++ (" " : Str), rfl, ?_⟩
  refine for_str (x := x ++ (" " : Str)) (fun i σ H' => E3 fun (pcs : List Str) (wd : Str) (z : Option V) => A7 (σ = [some (.str x), some (.ref p), some (.str wd), z]) (Same H H') (H' p = some (.lst (pcs.map V.str))) (PcOk ((Sl.sg (x ++ (" " : Str))).take i) pcs wd) (pcs.length ≤ 2 * i) (wd.length ≤ i) (i ≤ x.length + 1)) ?_ ?_ ?_
  · exact ⟨[], "", none, rfl, same_new hp _, upd_same, ⟨[], rfl, fun s hs => absurd (show s ∈ ([] : List Nat) from hs) (by simp), by rw [Rd.tok_nil]; rfl, Rd.cut_nil⟩, Nat.zero_le _, Nat.zero_le _, Nat.zero_le _⟩
  · rintro i c σ H' hci ⟨pcs, wd, z, rfl, s1, hd, ok, hl1, hl2, hi⟩
    have hci' : (Sl.sg (x ++ (" " : Str)))[i]? = some c := by show (x ++ (" " : Str)).cps.toList[i]? = _; rw [Array.getElem?_toList]; exact hci
    have hi1 : i + 1 ≤ x.length + 1 := by
      have := (List.getElem?_eq_some_iff.mp hci').1
      rw [es, List.length_append, sg_len] at this
      simp only [List.length_singleton] at this
      omega
    have et : (Sl.sg (x ++ (" " : Str))).take (i + 1) = (Sl.sg (x ++ (" " : Str))).take i ++ [c] := by rw [List.take_add_one, hci']; rfl
    refine ⟨_, rfl, _, _, rfl, rfl, _, rfl, ?_⟩
    refine ite2 (fun c1 => ?_) (fun c1 => ?_)
    · have c1' : (decide (c = 32) || Rd.isM c) = true := by rw [← seps_in]; exact c1
      refine ⟨_, rfl, rfl, _, rfl, ?_⟩
      have step : ∀ (pcs' : List Str), pcs' = (pcs ++ if wd = ("" : Str) then [] else [wd]) → pcs'.length ≤ 2 * i + 1 := fun pcs' e => by
        rw [e, List.length_append]
        split <;> simp <;> omega
      by_cases hwd : wd = ("" : Str)
      · have hf : (!decide (V.str wd = V.str ("" : Str))) = false := by rw [sdec, decide_eq_true hwd]; rfl
        show if (!decide (V.str wd = V.str ("" : Str))) = true then _ else _
        rw [hf]
        refine iteF ?_
        refine ⟨_, rfl, rfl, _, rfl, ?_⟩
        by_cases hc : c = 32
        · subst hc
          have hf : (!decide (V.str (⟨#[32]⟩ : Str) = V.str (" " : Str))) = false := by rw [sdec]; decide
          show if (!decide (V.str (⟨#[32]⟩ : Str) = V.str (" " : Str))) = true then _ else _
          rw [hf]
          refine iteF ?_
          have := pc_blank ok
          rw [if_pos hwd, List.append_nil] at this
          exact ⟨pcs, "", _, rfl, s1, hd, by rw [et]; exact this, by omega, Nat.zero_le _, hi1⟩
        · have hm : Rd.isM c = true := by rw [decide_eq_false hc] at c1'; simpa using c1'
          have hf : (!decide (V.str (⟨#[c]⟩ : Str) = V.str (" " : Str))) = true := by
            rw [sdec, decide_eq_false]
            · rfl
            · intro e
              have : [c] = [32] := congrArg Sl.sg e
              injection this with h1 _
              exact hc h1
          show if (!decide (V.str (⟨#[c]⟩ : Str) = V.str (" " : Str))) = true then _ else _
          rw [hf]
          refine iteT ?_
          have := pc_mark hm ok
          rw [if_pos hwd, List.append_nil] at this
          refine ⟨_, rfl, .inl ⟨rfl, _, SqL.of hd⟩, _, rfl, p, _, _, rfl, rfl, hd, lt_size (by rw [List.length_map]; omega), ?_⟩
          exact ⟨pcs ++ [⟨#[c]⟩], "", _, rfl, same_upd s1 hp _, by rw [upd_same, List.map_append]; rfl, by rw [et]; exact this, by rw [List.length_append]; simp; omega, Nat.zero_le _, hi1⟩
      · have hf : (!decide (V.str wd = V.str ("" : Str))) = true := by rw [sdec, decide_eq_false hwd]; rfl
        show if (!decide (V.str wd = V.str ("" : Str))) = true then _ else _
        rw [hf]
        refine iteT ?_
        refine ⟨_, rfl, .inl ⟨rfl, _, SqL.of hd⟩, _, rfl, p, _, _, rfl, rfl, hd, lt_size (by rw [List.length_map]; omega), ?_⟩
        have hd2 : (upd H' p (.lst (pcs.map V.str ++ [.str wd]))) p = some (.lst ((pcs ++ [wd]).map V.str)) := by rw [upd_same, List.map_append]; rfl
        have s2 : Same H (upd H' p (.lst (pcs.map V.str ++ [.str wd]))) := same_upd s1 hp _
        generalize upd H' p (.lst (pcs.map V.str ++ [.str wd])) = H2 at hd2 s2
        refine ⟨_, rfl, rfl, _, rfl, ?_⟩
        by_cases hc : c = 32
        · subst hc
          have hf : (!decide (V.str (⟨#[32]⟩ : Str) = V.str (" " : Str))) = false := by rw [sdec]; decide
          show if (!decide (V.str (⟨#[32]⟩ : Str) = V.str (" " : Str))) = true then _ else _
          rw [hf]
          refine iteF ?_
          have := pc_blank ok
          rw [if_neg hwd] at this
          exact ⟨pcs ++ [wd], "", _, rfl, s2, hd2, by rw [et]; exact this, by rw [List.length_append]; simp; omega, Nat.zero_le _, hi1⟩
        · have hm : Rd.isM c = true := by rw [decide_eq_false hc] at c1'; simpa using c1'
          have hf : (!decide (V.str (⟨#[c]⟩ : Str) = V.str (" " : Str))) = true := by
            rw [sdec, decide_eq_false]
            · rfl
            · intro e
              have : [c] = [32] := congrArg Sl.sg e
              injection this with h1 _
              exact hc h1
          show if (!decide (V.str (⟨#[c]⟩ : Str) = V.str (" " : Str))) = true then _ else _
          rw [hf]
          refine iteT ?_
          have := pc_mark hm ok
          rw [if_neg hwd] at this
          refine ⟨_, rfl, .inl ⟨rfl, _, SqL.of hd2⟩, _, rfl, p, _, _, rfl, rfl, hd2, lt_size (by rw [List.length_map, List.length_append]; simp; omega), ?_⟩
          exact ⟨pcs ++ [wd] ++ [⟨#[c]⟩], "", _, rfl, same_upd s2 hp _, by rw [upd_same, List.map_append (l₁ := pcs ++ [wd])]; rfl, by rw [et]; exact this, by rw [List.length_append, List.length_append]; simp; omega, Nat.zero_le _, hi1⟩
    · have c1' : (decide (c = 32) || Rd.isM c) = false := by
        cases q : (decide (c = 32) || Rd.isM c) with
        | false => rfl
        | true => rw [← seps_in] at q; exact absurd q c1
      rw [Bool.or_eq_false_iff] at c1'
      refine ⟨_, rfl, _, rfl, _, _, rfl, rfl, le_size (by show wd.length + 1 ≤ _; omega), ?_⟩
      exact ⟨pcs, wd ++ ⟨#[c]⟩, _, rfl, s1, hd, by rw [et]; exact pc_sign (of_decide_eq_false c1'.1) c1'.2 ok, by omega, by rw [len_app]; show wd.length + 1 ≤ _; omega, hi1⟩
  · rintro σ H' ⟨pcs, wd, z, rfl, s1, hd, ok, _⟩
    rw [List.take_of_length_le (by show (x ++ (" " : Str)).cps.toList.length ≤ _; rw [Array.length_toList]; exact Nat.le_refl _), es] at ok
    exact ⟨_, rfl, q p H' pcs s1 hd (pc_end ok)⟩
end
noncomputable def loopBody : Stmt → List Stmt
  | .For _ _ b _ _ => b
  | .While _ b _ _ => b
  | _ => []
noncomputable def nthS (st : Stmt) (i : Nat) : Stmt := (defBody st).getD i (.Pass ⟨0, 0, 0, 0⟩)
section
noncomputable def MK6 : List Str := ["(", ")", "[", "]", ",", ":"]
theorem mk6 {m : Str} (h : m ∈ MK6) : ∃ c, Rd.isM c = true ∧ Sl.sg m = [c] := by
  simp only [MK6, List.mem_cons, List.not_mem_nil, or_false] at h
  rcases h with rfl | rfl | rfl | rfl | rfl | rfl
  · exact ⟨40, rfl, rfl⟩
  · exact ⟨41, rfl, rfl⟩
  · exact ⟨91, rfl, rfl⟩
  · exact ⟨93, rfl, rfl⟩
  · exact ⟨44, rfl, rfl⟩
  · exact ⟨58, rfl, rfl⟩
noncomputable def GoodP (y : Str) : Prop := (∃ c, Rd.isM c = true ∧ Sl.sg y = [c]) ∨ (Rd.Plain (Sl.sg y) ∧ Sl.sg y ≠ [])
theorem good_tok {y : Str} (h : GoodP y) : Rd.tokL (Sl.sg y) = [Sl.sg y] := by
  rcases h with ⟨c, hc, e⟩ | ⟨hp, hn⟩
  · rw [e]
    have := Rd.tok_mark hc [] []
    rw [Rd.tok_nil] at this
    exact this
  · exact Rd.tok_word hp hn
noncomputable def tl (pcs : List Str) (k : Nat) : Nat := ((pcs.take k).map Str.length).sum + 2 * k
theorem tl_step {pcs : List Str} {k : Nat} {y : Str} (h : pcs[k]? = some y) : tl pcs (k + 1) = tl pcs k + 2 + y.length := by
  obtain ⟨h1, h2⟩ := List.getElem?_eq_some_iff.mp h
  unfold tl
  rw [List.take_succ_eq_append_getElem h1, h2, List.map_append, List.sum_append]
  simp
  omega
theorem tl_mono (pcs : List Str) : ∀ {k : Nat}, k ≤ pcs.length → tl pcs k ≤ tl pcs pcs.length := by
  intro k hk
  unfold tl
  rw [List.take_length]
  have : (pcs.map Str.length).sum = ((pcs.take k).map Str.length).sum + ((pcs.drop k).map Str.length).sum := by
    rw [← List.sum_append, ← List.map_append, List.take_append_drop]
  omega
end
section
variable {P : Program} {w : World} {K : PySem.W.Frag} {mg : Str → Option Value} {base : Heap}
noncomputable def wdy (y : Str) : Bool := !inV (.str y) (MK6.map V.str)
theorem wdy_no {y : Str} (h : wdy y = false) : ∃ c, Rd.isM c = true ∧ Sl.sg y = [c] := by
  have h1 : inV (.str y) (MK6.map V.str) = true := by unfold wdy at h; simpa using h
  unfold inV at h1
  rw [List.any_map, List.any_eq_true] at h1
  obtain ⟨m, hm, he⟩ := h1
  have e : m = y := by
    have : (m == y) = true := he
    simpa using this
  subst e
  exact mk6 hm
inductive SpWordyPI  (vs : List V) (H : Hp) (Q : VK) (a_3 : XK) : Prop
  | mk (y : Str) (h_0 : vs = [.str y]) (h_1 : ∀ H', Same H H' → Q (.bl (wdy y)) H') : SpWordyPI  vs H Q a_3
noncomputable def spWordyP  : Sp := fun vs H Q a_3 => SpWordyPI  vs H Q a_3
theorem ok_wordyP {n : Nat} {f : Addr} {fd : FuncData} (TP : At K mg "_law_wordy" s__law_wordy ["_law_piece"] f fd) : FnOk P w K mg base CX0 (n + 1) f fd ["_law_piece"] spWordyP := by
  have sc := sc__law_wordy
  refine TP.F.ok sc (fun vs H Q E h => ?_) (fun cdv A outer s H vs Q E hr h => ?_)
  · obtain ⟨x, rfl, _⟩ := h; rfl
  obtain ⟨y, rfl, q⟩ := h
  refine ⟨_, ((pss_one (ps_ret (pe_cmpR op_notIn_seq (pv 0) (pe_lst (pa_cons pe_str (pa_cons pe_str (pa_cons pe_str (pa_cons pe_str (pa_cons pe_str (pa_cons pe_str pa_nil))))))) (by with_unfolding_all rfl))))), ?_⟩
  refine ⟨_, rfl, by show 6 ≤ sizeLine; decide, fun c hc => ⟨c, MK6.map V.str, rfl, .inl (SqL.of upd_same), rfl, rfl, ?_⟩⟩
  exact q _ (same_new hc _)
theorem cut_of_wdy {y last : Str} (h : wdy y = false) : Rd.Cut (Sl.sg (last ++ y)) := by
  obtain ⟨c, hc, e⟩ := wdy_no h
  rw [Sl.sg_app, e]
  exact cut_mark hc _
theorem sw_put {rs : List Str} {last y : Str} {l : List (List Nat)} (h : Rd.tokR (rs ++ [last]) = l) (hy : GoodP y) (hc : wdy y = false ∨ Rd.Cut (Sl.sg last)) : Rd.tokR (rs ++ [last ++ y]) = l ++ [Sl.sg y] := by
  rw [Rd.tokR_app, Rd.tokR_one] at h ⊢
  rw [← h, List.append_assoc]
  congr 1
  rw [Sl.sg_app]
  rcases hc with hc | hc
  · obtain ⟨c, hm, e⟩ := wdy_no hc
    rw [e, Rd.tok_mark hm, Rd.tok_nil]
  · rw [hc, good_tok hy]
theorem sg_pad (n : Nat) : Sl.sg (Ly.pad n) = List.replicate n 32 := by
  show (Array.replicate n 32).toList = _
  simp
theorem sw_pad {rs : List Str} {last : Str} {l : List (List Nat)} (n : Nat) (h : Rd.tokR (rs ++ [last]) = l) : Rd.tokR (rs ++ [last ++ Ly.pad n]) = l := by
  rw [Rd.tokR_app, Rd.tokR_one] at h ⊢
  rw [← h]
  congr 1
  rw [Sl.sg_app, sg_pad]
  induction n with
  | zero => rw [List.replicate_zero, List.append_nil]
  | succ n ih =>
    rw [List.replicate_succ', ← List.append_assoc]
    have := Rd.tok_blank (Sl.sg last ++ List.replicate n 32) []
    rw [Rd.tok_nil, List.append_nil] at this
    rw [this, ih]
theorem cut_pad (last : Str) (n : Nat) : Rd.Cut (Sl.sg (last ++ Ly.pad (n + 1))) := by
  rw [Sl.sg_app, sg_pad, List.replicate_succ', ← List.append_assoc]
  exact cut_blank _
theorem blanks_is {j : Int} (h0 : 0 ≤ j) (h1 : j < 3) : Rd.tokL (Sl.sg (Txt.slice ("  " : Str) none (some j))) = [] ∧ Rd.Cut (Sl.sg (Txt.slice ("  " : Str) none (some j))) ∧ (Txt.slice ("  " : Str) none (some j)).length ≤ 2 := by
  have hj : j = 0 ∨ j = 1 ∨ j = 2 := by omega
  rcases hj with rfl | rfl | rfl
  · have e : Txt.slice ("  " : Str) none (some 0) = ("" : Str) := by decide +kernel
    rw [e]
    exact ⟨Rd.tok_nil, Rd.cut_nil, by decide⟩
  · have e : Txt.slice ("  " : Str) none (some 1) = (" " : Str) := by decide +kernel
    rw [e]
    exact ⟨by decide +kernel, cut_blank [], by decide⟩
  · have e : Txt.slice ("  " : Str) none (some 2) = ("  " : Str) := by decide +kernel
    rw [e]
    exact ⟨by decide +kernel, cut_blank [32], by decide⟩
theorem set_last (rs : List Str) (last x : Str) : (((rs ++ [last]).map V.str).set rs.length (.str x)) = (rs ++ [x]).map V.str := by
  rw [List.map_append, List.map_append]
  have : rs.length = (rs.map V.str).length := by rw [List.length_map]
  rw [this, List.set_append_right _ _ (Nat.le_refl _)]
  simp
theorem ixN_last (rs : List Str) (last : Str) : ixN ((rs ++ [last]).map V.str).length (-1) = some rs.length := by
  rw [List.length_map, List.length_append]
  unfold ixN
  rw [if_neg (by decide), if_pos (by simp; omega)]
  congr 1
  simp
  omega
theorem at_last (rs : List Str) (last : Str) : atI ((rs ++ [last]).map V.str) (-1) = some (.str last) := by
  rw [List.map_append]
  exact atI_last _ _
inductive SpStrewnI (K : PySem.W.Frag) (vs : List V) (H : Hp) (Q : VK) (a_3 : XK) : Prop
  | mk (p c : Addr) (pcs : List Str) (cs : List Int) (h_0 : vs = [.ref p, .ref c]) (h_1 : SqL K H p (pcs.map V.str)) (h_2 : SqL K H c (cs.map V.int)) (h_3 : cs ≠ []) (h_4 : pcs.length ≤ 300000) (h_5 : tl pcs pcs.length ≤ 300000) (h_6 : (∀ y ∈ pcs, GoodP y)) (h_7 : ∀ (r : Addr) (H' : Hp) (rows : List Str), Same H H' → H' r = some (.lst (rows.map V.str)) → rows.length ≤ pcs.length + 1 → (∀ x ∈ rows, x.length ≤ 300000) → Rd.tokR rows = pcs.map Sl.sg → Q (.ref r) H') : SpStrewnI K vs H Q a_3
noncomputable def spStrewn (K : PySem.W.Frag) : Sp := fun vs H Q a_3 => SpStrewnI K vs H Q a_3
theorem ok_strewn {n : Nat} {f g : Addr} {fd gd : FuncData} (TS : At K mg "_law_strewn_rows" s__law_strewn_rows ["_law_pieces", "_law_cells"] f fd) (TW : At K mg "_law_wordy" s__law_wordy ["_law_piece"] g gd) (B : Bn mg) : FnOk P w K mg base CX0 (n + 2) f fd ["_law_pieces", "_law_cells"] (spStrewn K) := by
  have sc := sc__law_strewn_rows
  refine TS.F.ok sc (fun vs H Q E h => ?_) (fun cdv A outer s H vs Q E hr h => ?_)
  · obtain ⟨p, c, pcs, cs, rfl, _⟩ := h; rfl
  obtain ⟨p, c, pcs, cs, rfl, hP, hC, hcs, hpl, htl, hgood, q⟩ := h
  have m_len := B.len
  have m_range := B.range
  have G__law_wordy : FnOk P w K mg base CX0 (n + 1) g gd _ _ := ok_wordyP TW
  have m__law_wordy := TW.m
  have k__law_wordy := TW.F.kp
  have b__law_wordy := TW.b
  have hcl : (0 : Int) < ((cs.map V.int).length : Nat) := by
    rw [List.length_map]
    have := List.length_pos_iff.mpr hcs
    omega
  replace hcl := kpI hcl
  replace hpl := kpI hpl
  replace htl := kpI htl
  have rest3 : ∃ tr, PSs (cxOf CX0 P w K mg base ["_law_pieces", "_law_cells", "_law_rows", "_law_k", "_law_cell", "_law_apart"] "_law_strewn_rows" (defScope s__law_strewn_rows) f cdv A outer s H E).nox (List.drop 3 (loopBody (nthS s__law_strewn_rows 1))) tr ∧ ∀ (r : Addr) (D : Ends) (i : Nat) (cell : Int) (ap : Bool) (rs : List Str) (last y : Str) (H2 : Hp), Same H H2 → H2 r = some (.lst ((rs ++ [last]).map V.str)) → atI (pcs.map V.str) (0 + (i : Int)) = some (.str y) → last.length + y.length ≤ 300000 →
      D.nx [some (.ref p), some (.ref c), some (.ref r), some (.int (0 + (i : Int))), some (.int cell), some (.bl ap)] (upd H2 r (.lst (((rs ++ [last]).map V.str).set rs.length (.str (last ++ y))))) →
      tr D [some (.ref p), some (.ref c), some (.ref r), some (.int (0 + (i : Int))), some (.int cell), some (.bl ap)] H2 := by
    refine ⟨_, ((pss_one (ps_asg (pe_op op_add_str (pe_ix ix_list (pv 2) (pe_un un_neg pe_int) (fun _ _ => rfl)) (pe_ix ix_list (pv 0) (pv 3) (fun _ _ => rfl))) (pg_sub (pv 2) (pe_un un_neg pe_int) set_list)))), fun r D i cell ap rs last y H2 s2 hr2 hat hle hfin => ?_⟩
    exact ⟨_, rfl, _, rfl, r, _, _, _, rfl, rfl, SqL.of hr2, at_last _ _, _, rfl, _, rfl, p, _, _, _, rfl, rfl, s2.seq hP, hat, _, _, rfl, rfl, le_size (by omega), _, rfl, _, rfl, r, _, _, _, rfl, rfl, hr2, ixN_last _ _, hfin⟩
  obtain ⟨tr3, hr3, hq3⟩ := rest3
  have rest2 : ∃ tr, PSs (cxOf CX0 P w K mg base ["_law_pieces", "_law_cells", "_law_rows", "_law_k", "_law_cell", "_law_apart"] "_law_strewn_rows" (defScope s__law_strewn_rows) f cdv A outer s H E).nox (List.drop 2 (loopBody (nthS s__law_strewn_rows 1))) tr ∧ ∀ (r : Addr) (D : Ends) (i T : Nat) (cell : Int) (ap : Bool) (rs : List Str) (last y : Str) (l : List (List Nat)) (H2 : Hp), H r = none → Same H H2 → H2 r = some (.lst ((rs ++ [last]).map V.str)) → atI (pcs.map V.str) (0 + (i : Int)) = some (.str y) →
      Rd.tokR (rs ++ [last]) = l → (ap = false → wdy y = false ∨ Rd.Cut (Sl.sg last)) → rs.length ≤ i → i ≤ 300000 → last.length ≤ T → T + 2 + y.length ≤ 300000 → (∀ x ∈ rs, x.length ≤ 300000) →
      (∀ (rs' : List Str) (last' : Str) (H3 : Hp), Same H H3 → Rd.tokR (rs' ++ [last']) = l → (wdy y = false ∨ Rd.Cut (Sl.sg last')) → rs'.length ≤ i + 1 → last'.length ≤ T + 2 → (∀ x ∈ rs', x.length ≤ 300000) →
        D.nx [some (.ref p), some (.ref c), some (.ref r), some (.int (0 + (i : Int))), some (.int cell), some (.bl ap)] (upd H3 r (.lst (((rs' ++ [last']).map V.str).set rs'.length (.str (last' ++ y)))))) →
      tr D [some (.ref p), some (.ref c), some (.ref r), some (.int (0 + (i : Int))), some (.int cell), some (.bl ap)] H2 := by
    refine ⟨_, ((pss_cons (ps_if (pt_cmpR op_eq (pe_op op_mod (pv 4) pe_int) pe_int (nomark _))
      (pss_one (ps_expr (pe_bm PySem.F.plainAttrs_list PySem.F.slot_list_append PySem.F.type_list_append mt_append (pv 2) (pa_cons (pe_slice sl_str pe_str po_none (po_some (pe_op op_mod (pe_op op_fdiv (pv 4) pe_int) pe_int))) pa_nil))))
      (pss_one (ps_if (PW.pt (pw_or (pt_cmpR op_lt (pe_op op_mod (pv 4) pe_int) pe_int (nomark _)) (pw_or1 (pt_val (pv 5)))))
        (pss_one (ps_asg (pe_op op_add_str (pe_ix ix_list (pv 2) (pe_un un_neg pe_int) (fun _ _ => rfl)) (pe_op op_blank pe_str (pe_op op_add pe_int (pe_op op_mod (pe_op op_fdiv (pv 4) pe_int) pe_int)))) (pg_sub (pv 2) (pe_un un_neg pe_int) set_list)))
        pss_nil)))
    hr3)), fun r D i T cell ap rs last y l H2 hr0 s2 hr2 hat htk hap hrs hi hlast hT hall hfin => ?_⟩
    refine ⟨_, rfl, _, _, rfl, rfl, (by show (0 : Int) < 5; decide), rfl, _, rfl, ?_⟩
    have n0 : 0 ≤ cell / 5 % 3 := Int.emod_nonneg _ (by decide)
    have n1 : cell / 5 % 3 < 3 := Int.emod_lt_of_pos _ (by decide)
    obtain ⟨b1, b2, b3⟩ := blanks_is n0 n1
    clear n0 n1
    refine ite2 (fun c1 => ?_) (fun c1 => ?_)
    · refine ⟨_, rfl, .inl ⟨rfl, _, SqL.of hr2⟩, _, rfl, _, _, rfl, rfl, ⟨by decide, by decide⟩, _, _, rfl, rfl, (by show (0 : Int) < 3; decide), ?_⟩
      refine ⟨_, rfl, ("  " : Str), rfl, by decide, r, _, _, rfl, rfl, hr2, lt_size (by rw [List.length_map, List.length_append]; simp; omega), ?_⟩
      have hr3 : (upd H2 r (.lst ((rs ++ [last]).map V.str ++ [.str (Txt.slice ("  " : Str) none (some (cell / 5 % 3)))]))) r = some (.lst (((rs ++ [last]) ++ [Txt.slice ("  " : Str) none (some (cell / 5 % 3))]).map V.str)) := by rw [upd_same, List.map_append (l₁ := rs ++ [last])]; rfl
      have s3 : Same H (upd H2 r (.lst ((rs ++ [last]).map V.str ++ [.str (Txt.slice ("  " : Str) none (some (cell / 5 % 3)))]))) := same_upd s2 hr0 _
      generalize upd H2 r (.lst ((rs ++ [last]).map V.str ++ [.str (Txt.slice ("  " : Str) none (some (cell / 5 % 3)))])) = H3 at hr3 s3
      refine hq3 r D i cell _ _ _ y _ s3 hr3 hat (by have := (by omega : (Txt.slice ("  " : Str) none (some (cell / 5 % 3))).length ≤ T + 2); omega) ?_
      exact hfin (rs ++ [last]) (Txt.slice ("  " : Str) none (some (cell / 5 % 3))) _ (s3) (by rw [Rd.tokR_app, htk, Rd.tokR_one, b1, List.append_nil]) (.inr b2) (by rw [List.length_append]; simp; omega) ((by omega : (Txt.slice ("  " : Str) none (some (cell / 5 % 3))).length ≤ T + 2)) (fun x hx => by
          rcases List.mem_append.mp hx with z | z
          · exact hall x z
          · rw [List.mem_singleton.mp z]; omega)
    · obtain ⟨m, hm, hm2⟩ : ∃ m : Nat, cell / 5 % 2 = (m : Int) ∧ m < 2 := by
        have m0 : 0 ≤ cell / 5 % 2 := Int.emod_nonneg _ (by decide)
        have m1 : cell / 5 % 2 < 2 := Int.emod_lt_of_pos _ (by decide)
        exact ⟨(cell / 5 % 2).toNat, by omega, by omega⟩
      refine ⟨_, rfl, _, _, rfl, rfl, (by show (0 : Int) < 5; decide), _, _, rfl, rfl, _, rfl, ?_⟩
      refine ite2 (fun c2 => ?_) (fun c2 => ?_)
      · refine iteT ?_
        refine ⟨_, rfl, _, rfl, r, _, _, _, rfl, rfl, SqL.of hr2, at_last _ _, _, rfl, _, _, rfl, rfl, ⟨by decide, by decide⟩, _, _, rfl, rfl, (by show (0 : Int) < 2; decide), _, _, rfl, rfl, m + 1, rfl, (by show V.int (1 + cell / 5 % 2) = _; rw [hm]; congr 1; omega), by omega, _, _, rfl, rfl, le_size ?_, _, rfl, _, rfl, r, _, _, _, rfl, rfl, hr2, ixN_last _ _, ?_⟩
        · rw [Ly.pad_len]; omega
        have hr3 : (upd H2 r (.lst (((rs ++ [last]).map V.str).set rs.length (.str (last ++ Ly.pad (m + 1)))))) r = some (.lst ((rs ++ [last ++ Ly.pad (m + 1)]).map V.str)) := by rw [upd_same, set_last]
        have s3 : Same H (upd H2 r (.lst (((rs ++ [last]).map V.str).set rs.length (.str (last ++ Ly.pad (m + 1)))))) := same_upd s2 hr0 _
        generalize upd H2 r (.lst (((rs ++ [last]).map V.str).set rs.length (.str (last ++ Ly.pad (m + 1))))) = H3 at hr3 s3
        refine hq3 r D i cell _ _ _ y _ s3 hr3 hat (by have := (by rw [len_app, Ly.pad_len]; omega : (last ++ Ly.pad (m + 1)).length ≤ T + 2); omega) ?_
        exact hfin (rs) (last ++ Ly.pad (m + 1)) _ (s3) (sw_pad _ htk) (.inr (cut_pad _ _)) (by omega) ((by rw [len_app, Ly.pad_len]; omega : (last ++ Ly.pad (m + 1)).length ≤ T + 2)) (hall)
      · refine ⟨_, rfl, _, rfl, ?_⟩
        cases ap with
        | true =>
          refine iteT ?_
          refine ⟨_, rfl, _, rfl, r, _, _, _, rfl, rfl, SqL.of hr2, at_last _ _, _, rfl, _, _, rfl, rfl, ⟨by decide, by decide⟩, _, _, rfl, rfl, (by show (0 : Int) < 2; decide), _, _, rfl, rfl, m + 1, rfl, (by show V.int (1 + cell / 5 % 2) = _; rw [hm]; congr 1; omega), by omega, _, _, rfl, rfl, le_size ?_, _, rfl, _, rfl, r, _, _, _, rfl, rfl, hr2, ixN_last _ _, ?_⟩
          · rw [Ly.pad_len]; omega
          have hr3 : (upd H2 r (.lst (((rs ++ [last]).map V.str).set rs.length (.str (last ++ Ly.pad (m + 1)))))) r = some (.lst ((rs ++ [last ++ Ly.pad (m + 1)]).map V.str)) := by rw [upd_same, set_last]
          have s3 : Same H (upd H2 r (.lst (((rs ++ [last]).map V.str).set rs.length (.str (last ++ Ly.pad (m + 1)))))) := same_upd s2 hr0 _
          generalize upd H2 r (.lst (((rs ++ [last]).map V.str).set rs.length (.str (last ++ Ly.pad (m + 1))))) = H3 at hr3 s3
          refine hq3 r D i cell _ _ _ y _ s3 hr3 hat (by have := (by rw [len_app, Ly.pad_len]; omega : (last ++ Ly.pad (m + 1)).length ≤ T + 2); omega) ?_
          exact hfin (rs) (last ++ Ly.pad (m + 1)) _ (s3) (sw_pad _ htk) (.inr (cut_pad _ _)) (by omega) ((by rw [len_app, Ly.pad_len]; omega : (last ++ Ly.pad (m + 1)).length ≤ T + 2)) (hall)
        | false =>
          refine iteF ?_
          refine hq3 r D i cell _ _ _ y _ s2 hr2 hat (by have := (by omega : last.length ≤ T + 2); omega) ?_
          exact hfin (rs) (last) _ (s2) (htk) (hap rfl) (by omega) ((by omega : last.length ≤ T + 2)) (hall)
  obtain ⟨tr2, hr2, hq2⟩ := rest2
  replace hcl := hcl.out
  replace hpl := hpl.out
  replace htl := htl.out
  refine ⟨_, ((pss_cons (ps_setL (i := 2) sc.nd rfl rfl (pe_lst (pa_cons pe_str pa_nil)))
    (pss_cons (ps_for PassesOwn.never rfl (pi_range1 rfl m_range (pa_cons (pe_callB call_len_seq rfl m_len PySem.boot_len (pa_cons (pv 0) pa_nil)) pa_nil)) (pg_nameL (i := 3) sc.nd rfl rfl)
      (pss_cons (ps_setL (i := 4) sc.nd rfl rfl (pe_op op_add (pe_ix ix_list (pv 1) (pe_op op_mod (pv 3) (pe_callB call_len_seq rfl m_len PySem.boot_len (pa_cons (pv 1) pa_nil))) (fun _ _ => rfl)) (pv 3)))
      (pss_cons (ps_setL (i := 5) sc.nd rfl rfl (pe_and (pe_cmpR op_gt (pv 3) pe_int (nomark _)) (pe_and (pe_call G__law_wordy hr rfl m__law_wordy k__law_wordy b__law_wordy .nil pass0 (pa_cons (pe_ix ix_list (pv 0) (pe_op op_sub (pv 3) pe_int) (fun _ _ => rfl)) pa_nil)) (pe_one (pe_call G__law_wordy hr rfl m__law_wordy k__law_wordy b__law_wordy .nil pass0 (pa_cons (pe_ix ix_list (pv 0) (pv 3) (fun _ _ => rfl)) pa_nil))))))
      hr2)))
    (pss_one (ps_ret (pv 2)))))), ?_⟩
  refine ⟨by show 1 ≤ sizeLine; decide, fun r hr0 => ?_⟩
  have s0 : Same H (upd H r (.lst [.str ""])) := same_new hr0 _
  have e0 : (upd H r (.lst [.str ""])) r = some (.lst (([] ++ [("" : Str)]).map V.str)) := upd_same
  generalize upd H r (.lst [.str ""]) = H0 at s0 e0
  refine ⟨_, rfl, p, _, rfl, .inl (s0.seq hP), _, rfl, by rw [List.length_map]; omega, by rw [List.length_map]; omega, ?_⟩
  have el : (((pcs.map V.str).length : Nat) : Int).toNat = pcs.length := by rw [List.length_map]; omega
  rw [el]
  clear el
  refine for_range (fun i σ H' => ∃ (rs : List Str) (last : Str) (z1 z2 z3 : Option V), σ = [some (.ref p), some (.ref c), some (.ref r), z1, z2, z3] ∧ Same H H' ∧ H' r = some (.lst ((rs ++ [last]).map V.str)) ∧ Rd.tokR (rs ++ [last]) = (pcs.take i).map Sl.sg ∧
      ((i = 0 ∨ ∃ y, pcs[i - 1]? = some y ∧ wdy y = false) → Rd.Cut (Sl.sg last)) ∧ rs.length ≤ i ∧ last.length ≤ tl pcs i ∧ ∀ x ∈ rs, x.length ≤ 300000)
    ⟨[], "", none, none, none, rfl, s0, e0, rfl, fun _ => Rd.cut_nil, Nat.le_refl _, Nat.zero_le _, (by simp)⟩ ?_ ?_
  · rintro i σ H1 hi ⟨rs, last, z1, z2, z3, rfl, s1, hr1, htk, hcut, hrs, hlast, hall⟩
    have hP1 := s1.seq hP
    have hC1 := s1.seq hC
    have hy : pcs[i]? = some pcs[i] := List.getElem?_eq_getElem hi
    have hgy := hgood _ (List.getElem_mem hi)
    generalize pcs[i] = y at hy hgy
    have hts := tl_step hy
    have htm := tl_mono pcs (show i + 1 ≤ pcs.length from hi)
    have hi3 : i ≤ 300000 := by omega
    have hT3 : tl pcs i + 2 + y.length ≤ 300000 := by omega
    have et : (pcs.take (i + 1)).map Sl.sg = (pcs.take i).map Sl.sg ++ [Sl.sg y] := by
      obtain ⟨h1, h2⟩ := List.getElem?_eq_some_iff.mp hy
      rw [List.take_succ_eq_append_getElem h1, h2, List.map_append]
      rfl
    have hat : atI (pcs.map V.str) (0 + (i : Int)) = some (.str y) := by
      rw [Int.zero_add]
      exact atI_nat (by rw [List.getElem?_map, hy]; rfl)
    have fin : ∀ (z1 z2 z3 : Option V) (rs' : List Str) (last' : Str) (H2 : Hp), Same H H2 → Rd.tokR (rs' ++ [last']) = (pcs.take i).map Sl.sg → (wdy y = false ∨ Rd.Cut (Sl.sg last')) → rs'.length ≤ i + 1 → last'.length ≤ tl pcs i + 2 → (∀ x ∈ rs', x.length ≤ 300000) →
        ∃ (rs : List Str) (last : Str) (y1 y2 y3 : Option V), [some (V.ref p), some (.ref c), some (.ref r), z1, z2, z3] = [some (.ref p), some (.ref c), some (.ref r), y1, y2, y3] ∧ Same H (upd H2 r (.lst (((rs' ++ [last']).map V.str).set rs'.length (.str (last' ++ y))))) ∧ (upd H2 r (.lst (((rs' ++ [last']).map V.str).set rs'.length (.str (last' ++ y))))) r = some (.lst ((rs ++ [last]).map V.str)) ∧ Rd.tokR (rs ++ [last]) = (pcs.take (i + 1)).map Sl.sg ∧
          ((i + 1 = 0 ∨ ∃ y, pcs[i + 1 - 1]? = some y ∧ wdy y = false) → Rd.Cut (Sl.sg last)) ∧ rs.length ≤ i + 1 ∧ last.length ≤ tl pcs (i + 1) ∧ ∀ x ∈ rs, x.length ≤ 300000 := by
      intro z1 z2 z3 rs' last' H2 sH htk' hc' hl1 hl2 ha'
      refine ⟨rs', last' ++ y, z1, z2, z3, rfl, same_upd sH hr0 _, by rw [upd_same, set_last], by rw [et]; exact sw_put htk' hgy hc', ?_, hl1, by rw [len_app]; omega, ha'⟩
      rintro (z | ⟨y', e1, e2⟩)
      · omega
      · rw [Nat.add_sub_cancel, hy] at e1
        cases e1
        exact cut_of_wdy e2
    obtain ⟨cell, hcell⟩ : ∃ cell : Int, atI (cs.map V.int) ((0 + (i : Int)) % ((cs.map V.int).length : Nat)) = some (.int cell) := by
      have n0 := Int.emod_nonneg (0 + (i : Int)) (show (((cs.map V.int).length : Nat) : Int) ≠ 0 by omega)
      have n1 := Int.emod_lt_of_pos (0 + (i : Int)) hcl
      generalize (0 + (i : Int)) % (((cs.map V.int).length : Nat) : Int) = j at n0 n1
      rw [List.length_map] at n1
      have hj : j.toNat < cs.length := by omega
      refine ⟨cs[j.toNat], ?_⟩
      have ej : ((j.toNat : Nat) : Int) = j := by omega
      have h1 : atI (cs.map V.int) ((j.toNat : Nat) : Int) = some (.int cs[j.toNat]) := atI_nat (by rw [List.getElem?_map, List.getElem?_eq_getElem hj]; rfl)
      rw [ej] at h1
      exact h1
    refine ⟨_, rfl, _, rfl, _, rfl, c, _, rfl, .inl hC1, _, _, rfl, rfl, hcl, c, _, _, _, rfl, rfl, hC1, hcell, _, rfl, _, _, rfl, rfl, ?_⟩
    refine ⟨_, rfl, _, _, rfl, rfl, _, rfl, ?_⟩
    refine ite2 (fun c0 => ?_) (fun c0 => ?_)
    · have i0 : 0 < i := by have : (0 : Int) < 0 + (i : Int) := of_decide_eq_true c0; omega
      have hlt : i - 1 < pcs.length := by omega
      have hy' : pcs[i - 1]? = some pcs[i - 1] := List.getElem?_eq_getElem hlt
      generalize pcs[i - 1] = y' at hy'
      have hat' : atI (pcs.map V.str) (0 + (i : Int) - 1) = some (.str y') := by
        rw [show (0 + (i : Int) - 1) = ((i - 1 : Nat) : Int) by omega]
        exact atI_nat (by rw [List.getElem?_map, hy']; rfl)
      refine ⟨_, rfl, _, rfl, _, _, rfl, rfl, p, _, _, _, rfl, rfl, hP1, hat', y', rfl, fun H2 s2 => ⟨_, rfl, ?_⟩⟩
      have s12 := s1.trans s2
      refine ite2 (fun c1 => ?_) (fun c1 => ?_)
      · refine ⟨_, rfl, _, rfl, p, _, _, _, rfl, rfl, s12.seq hP, hat, y, rfl, fun H3 s3 => ?_⟩
        have s13 := s12.trans s3
        exact hq2 r _ i (tl pcs i) _ _ rs last y _ H3 hr0 s13 (s3 _ _ (s2 _ _ hr1)) hat htk (fun z => .inl z) hrs hi3 hlast hT3 hall fun rs' last' H4 a1 a2 a3 a4 a5 a6 => fin _ _ _ rs' last' H4 a1 a2 a3 a4 a5 a6
      · exact hq2 r _ i (tl pcs i) _ _ rs last y _ H2 hr0 s12 (s2 _ _ hr1) hat htk (fun _ => .inr (hcut (.inr ⟨y', hy', by simpa using c1⟩))) hrs hi3 hlast hT3 hall fun rs' last' H4 a1 a2 a3 a4 a5 a6 => fin _ _ _ rs' last' H4 a1 a2 a3 a4 a5 a6
    · have i0 : i = 0 := by
        have : ¬ (0 : Int) < 0 + (i : Int) := fun z => c0 (decide_eq_true z)
        omega
      exact hq2 r _ i (tl pcs i) _ _ rs last y _ H1 hr0 s1 hr1 hat htk (fun _ => .inr (hcut (.inl i0))) hrs hi3 hlast hT3 hall fun rs' last' H4 a1 a2 a3 a4 a5 a6 => fin _ _ _ rs' last' H4 a1 a2 a3 a4 a5 a6
  · rintro σ H' ⟨rs, last, z1, z2, z3, rfl, s1, hr1, htk, _, hrs, hlast, hall⟩
    rw [List.take_length] at htk
    refine ⟨_, rfl, q r H' (rs ++ [last]) s1 hr1 (by rw [List.length_append]; simp; omega) (fun x hx => ?_) htk⟩
    rcases List.mem_append.mp hx with z | z
    · exact hall x z
    · rw [List.mem_singleton.mp z]
      omega
end
noncomputable abbrev szS (x : Str) : Nat := x.length
noncomputable def RowsAt (H : Hp) : List Addr → List (List Str) → Prop
  | [], [] => True
  | a :: as, r :: rs => H a = some (.lst (r.map V.str)) ∧ RowsAt H as rs
  | _, _ => False
theorem RowsAt.mono {H H' : Hp} : ∀ {as : List Addr} {rs : List (List Str)}, RowsAt H as rs → (∀ a ∈ as, H' a = H a) → RowsAt H' as rs
  | [], [], _, _ => True.intro
  | a :: as, r :: rs, h, k => ⟨(k a List.mem_cons_self).trans h.1, RowsAt.mono h.2 fun b hb => k b (List.mem_cons_of_mem _ hb)⟩
  | [], _ :: _, h, _ => h.elim
  | _ :: _, [], h, _ => h.elim
theorem RowsAt.len {H : Hp} : ∀ {as : List Addr} {rs : List (List Str)}, RowsAt H as rs → as.length = rs.length
  | [], [], _ => rfl
  | _ :: as, _ :: rs, h => congrArg (· + 1) (RowsAt.len h.2)
  | [], _ :: _, h => h.elim
  | _ :: _, [], h => h.elim
theorem RowsAt.snoc {H : Hp} {a : Addr} {r : List Str} (ha : H a = some (.lst (r.map V.str))) : ∀ {as : List Addr} {rs : List (List Str)}, RowsAt H as rs → RowsAt H (as ++ [a]) (rs ++ [r])
  | [], [], _ => ⟨ha, True.intro⟩
  | _ :: as, _ :: rs, h => ⟨h.1, RowsAt.snoc ha h.2⟩
  | [], _ :: _, h => h.elim
  | _ :: _, [], h => h.elim
theorem RowsAt.last {H : Hp} {r : List Str} : ∀ {as : List Addr} {rs : List (List Str)}, RowsAt H as (rs ++ [r]) → ∃ bs a, as = bs ++ [a] ∧ RowsAt H bs rs ∧ H a = some (.lst (r.map V.str))
  | [], [], h => h.elim
  | [a], [], h => ⟨[], a, rfl, True.intro, h.1⟩
  | _ :: _ :: _, [], h => h.2.elim
  | [], _ :: _, h => h.elim
  | b :: as, s :: rs, h => by
    obtain ⟨bs, a, e, h1, h2⟩ := RowsAt.last h.2
    exact ⟨b :: bs, a, by rw [e]; rfl, ⟨h.1, h1⟩, h2⟩
theorem RowsAt.get {H : Hp} : ∀ {as : List Addr} {rs : List (List Str)} {i : Nat} {a : Addr}, RowsAt H as rs → as[i]? = some a → ∃ r, rs[i]? = some r ∧ H a = some (.lst (r.map V.str))
  | [], [], _, _, _, e => by simp at e
  | b :: as, r :: rs, 0, a, h, e => by
    have e' : b = a := by simpa using e
    exact ⟨r, rfl, by rw [← e']; exact h.1⟩
  | b :: as, r :: rs, i + 1, a, h, e => by
    obtain ⟨q, e1, e2⟩ := RowsAt.get (i := i) (a := a) h.2 (by simpa using e)
    exact ⟨q, by simpa using e1, e2⟩
  | [], _ :: _, _, _, h, _ => h.elim
  | _ :: _, [], _, _, h, _ => h.elim
structure FillAt (H0 H' : Hp) (r : Addr) (as : List Addr) (rows : List (List Str)) : Prop where
  same : Same H0 H'
  new : H0 r = none
  at_ : H' r = some (.lst (as.map V.ref))
  rows : RowsAt H' as rows
  nd : as.Nodup
  ne : r ∉ as
  fresh : ∀ a ∈ as, H0 a = none
theorem fill_start {H : Hp} {r : Addr} (h : H r = none) : FillAt H (upd H r (.lst [])) r [] [] := ⟨same_new h _, h, upd_same, True.intro, List.nodup_nil, by simp, by simp⟩
theorem fill_on {H H' : Hp} {r z : Addr} {bs : List Addr} {rs : List (List Str)} {row : List Str} {w : Str} (F : FillAt H H' r (bs ++ [z]) (rs ++ [row])) (hb : RowsAt H' bs rs) :
    FillAt H (upd H' z (.lst (row.map V.str ++ [.str w]))) r (bs ++ [z]) (rs ++ [row ++ [w]]) := by
  have hz : z ∈ bs ++ [z] := by simp
  have hrz : r ≠ z := fun e => F.ne (by rw [e]; exact hz)
  have hbz : ∀ a ∈ bs, a ≠ z := fun a ha e => by
    have := F.nd
    rw [List.nodup_append] at this
    exact this.2.2 a ha z (by simp) e
  refine ⟨same_upd F.same (F.fresh z hz) _, F.new, by rw [upd_ne hrz]; exact F.at_, RowsAt.snoc ?_ (hb.mono fun a ha => upd_ne (hbz a ha)), F.nd, F.ne, F.fresh⟩
  rw [upd_same, List.map_append]
  rfl
theorem fill_new {H H' : Hp} {r p : Addr} {as : List Addr} {rs : List (List Str)} {w : Str} (F : FillAt H H' r as rs) (hp : H' p = none) :
    FillAt H (upd (upd H' p (.lst [.str w])) r (.lst (as.map V.ref ++ [.ref p]))) r (as ++ [p]) (rs ++ [[w]]) := by
  have hrp : r ≠ p := fun e => by rw [← e, F.at_] at hp; cases hp
  have hap : ∀ a ∈ as, a ≠ p := fun a ha e => by
    obtain ⟨i, hi⟩ := List.getElem?_of_mem ha
    obtain ⟨_, _, q⟩ := F.rows.get hi
    rw [e, hp] at q; cases q
  have har : ∀ a ∈ as, a ≠ r := fun a ha e => F.ne (by rw [← e]; exact ha)
  have hHp : H p = none := by
    cases e : H p with
    | none => rfl
    | some o => have := F.same p o e; rw [hp] at this; cases this
  refine ⟨same_upd (same_upd F.same hHp _) F.new _, F.new, ?_, RowsAt.snoc ?_ (F.rows.mono fun a ha => ?_), ?_, ?_, ?_⟩
  · rw [upd_same, List.map_append]; rfl
  · rw [upd_ne (Ne.symm hrp), upd_same]; rfl
  · rw [upd_ne (har a ha), upd_ne (hap a ha)]
  · rw [List.nodup_append]
    exact ⟨F.nd, by simp, fun a ha b hb e => by
      have : b = p := by simpa using hb
      exact hap a ha (by rw [e, this])⟩
  · intro hm
    rcases List.mem_append.mp hm with h | h
    · exact F.ne h
    · exact hrp (by simpa using h)
  · intro a ha
    rcases List.mem_append.mp ha with h | h
    · exact F.fresh a h
    · have : a = p := by simpa using h
      rw [this]; exact hHp
inductive SpFilledI (K : PySem.W.Frag) (vs : List V) (H : Hp) (Q : VK) (a_3 : XK) : Prop
  | mk (a : Addr) (ws : List Str) (room : Int) (h_0 : vs = [.ref a, .int room]) (h_1 : SqL K H a (ws.map V.str)) (h_2 : ws.length ≤ 1000000) (h_3 : (∀ x ∈ ws, x.length ≤ 1000000)) (h_4 : ∀ (r : Addr) (as : List Addr) (H' : Hp), FillAt H H' r as (Fm.filledM szS ws room) → Q (.ref r) H') : SpFilledI K vs H Q a_3
noncomputable def spFilled (K : PySem.W.Frag) : Sp := fun vs H Q a_3 => SpFilledI K vs H Q a_3
section
variable {P : Program} {w : World} {K : PySem.W.Frag} {mg : Str → Option Value} {base : Heap}
theorem str_at {xs : List Str} {i : Nat} {x : V} (hx : (xs.map V.str)[i]? = some x) : ∃ y, x = V.str y ∧ xs[i]? = some y := by
  rw [List.getElem?_map] at hx
  cases e : xs[i]? with
  | none => rw [e] at hx; cases hx
  | some y => rw [e] at hx; exact ⟨y, (Option.some.inj hx).symm, rfl⟩
theorem take_snoc {α : Type} {xs : List α} {i : Nat} {y : α} (h : xs[i]? = some y) : xs.take (i + 1) = xs.take i ++ [y] := by
  rw [List.take_add_one, h]
  rfl
theorem ok_filled {n : Nat} {f : Addr} {fd : FuncData} (T : At K mg "filled" s_filled ["words", "room"] f fd) (B : Bn mg) : FnOk P w K mg base CX0 (n + 1) f fd ["words", "room"] (spFilled K) := by
  have sc := sc_filled
  refine T.F.ok sc (fun vs H Q E h => ?_) (fun cdv A outer s H vs Q E hr h => ?_)
  · obtain ⟨a, ws, room, rfl, _⟩ := h; rfl
  obtain ⟨a, ws, room, rfl, hS, hl, hw, q⟩ := h
  have m_len := B.len
  have hA_1 : PSs (XF_filled P w K mg base f cdv A outer s H E) (List.drop 3 (defBody s_filled)) _ := (pss_one (ps_ret (pv 2)))
  let tA_1 : L2.TS := rdOf hA_1
  have hB_1 : PSs _ _ tA_1 := hA_1
  have hA_2 : PSs (XF_filled P w K mg base f cdv A outer s H E) (List.drop 1 (thenA (ixA (thenA (ixA (defBody s_filled) 2)) 1))) _ := (pss_one (ps_setL (i := 3) sc.nd rfl rfl (pv 5)))
  let tA_2 : L2.TS := rdOf hA_2
  have hB_2 : PSs _ _ tA_2 := hA_2
  have hA_3 : PSs (XF_filled P w K mg base f cdv A outer s H E) (thenA (ixA (thenA (ixA (defBody s_filled) 2)) 1)) _ := (pss_cons (ps_expr (pe_bm PySem.F.plainAttrs_list PySem.F.slot_list_append PySem.F.type_list_append mt_append (pe_ix ix_list (pv 2) (pe_un un_neg pe_int) (fun _ _ => rfl)) (pa_cons (pv 4) pa_nil))) hB_2)
  let tA_3 : L2.TS := rdOf hA_3
  have hB_3 : PSs _ _ tA_3 := hA_3
  have hA_4 : PSs (XF_filled P w K mg base f cdv A outer s H E) (List.drop 1 (elseA (ixA (thenA (ixA (defBody s_filled) 2)) 1))) _ := (pss_one (ps_setL (i := 3) sc.nd rfl rfl (pe_callB call_len_str rfl m_len PySem.boot_len (pa_cons (pv 4) pa_nil))))
  let tA_4 : L2.TS := rdOf hA_4
  have hB_4 : PSs _ _ tA_4 := hA_4
  have hA_5 : PSs (XF_filled P w K mg base f cdv A outer s H E) (elseA (ixA (thenA (ixA (defBody s_filled) 2)) 1)) _ := (pss_cons (ps_expr (pe_bm PySem.F.plainAttrs_list PySem.F.slot_list_append PySem.F.type_list_append mt_append (pv 2) (pa_cons (pe_lst (pa_cons (pv 4) pa_nil)) pa_nil))) hB_4)
  let tA_5 : L2.TS := rdOf hA_5
  have hB_5 : PSs _ _ tA_5 := hA_5
  have hA_6 : PSs (XF_filled P w K mg base f cdv A outer s H E) (List.drop 1 (thenA (ixA (defBody s_filled) 2))) _ := (pss_one (ps_if (PW.pt (pw_and (pt_truth (pv 2) (fun _ => rfl)) (pw_and1 (pt_cmpR op_le (pv 5) (pv 1) (nomark _))))) hB_3 hB_5))
  let tA_6 : L2.TS := rdOf hA_6
  have hB_6 : PSs _ _ tA_6 := hA_6
  have hA_7 : PSs (XF_filled P w K mg base f cdv A outer s H E) (thenA (ixA (defBody s_filled) 2)) _ := (pss_cons (ps_setL (i := 5) sc.nd rfl rfl (pe_op op_add (pe_op op_add (pv 3) pe_int) (pe_callB call_len_str rfl m_len PySem.boot_len (pa_cons (pv 4) pa_nil)))) hB_6)
  let tA_7 : L2.TS := rdOf hA_7
  have hB_7 : PSs _ _ tA_7 := hA_7
  have hA_8 : PSs (XF_filled P w K mg base f cdv A outer s H E) (List.drop 2 (defBody s_filled)) _ := (pss_cons (ps_for PassesOwn.never rfl (pi_list (pv 0)) (pg_nameL (i := 4) sc.nd rfl rfl) hB_7) hB_1)
  let tA_8 : L2.TS := rdOf hA_8
  have hB_8 : PSs _ _ tA_8 := hA_8
  have hA_9 : PSs (XF_filled P w K mg base f cdv A outer s H E) (List.drop 1 (defBody s_filled)) _ := (pss_cons (ps_setL (i := 3) sc.nd rfl rfl pe_int) hB_8)
  let tA_9 : L2.TS := rdOf hA_9
  have hB_9 : PSs _ _ tA_9 := hA_9
  have hA_10 : PSs (XF_filled P w K mg base f cdv A outer s H E) (defBody s_filled) _ := (pss_cons (ps_setL (i := 2) sc.nd rfl rfl (pe_lst pa_nil)) hB_9)
  let tA_10 : L2.TS := rdOf hA_10
  have hB_10 : PSs _ _ tA_10 := hA_10
  refine ⟨_, hB_10, ?_⟩
  refine ⟨(by show 0 ≤ sizeLine; decide), fun r hr0 => ?_⟩
  have hne : Same H (upd H r (.lst [])) := same_new hr0 _
  refine ⟨_, rfl, a, rfl, ⟨_, hne.seq hS⟩, for_list (K := K) (a := a) (xs := ws.map V.str)
    (fun i σ H' => ∃ (as : List Addr) (rows : List (List Str)) (used : Int) (wv gv : Option V), σ = [some (.ref a), some (.int room), some (.ref r), some (.int used), wv, gv] ∧ Fm.run szS room (ws.take i) = (rows, used) ∧ FillAt H H' r as rows ∧ as.length ≤ i ∧ ∀ row ∈ rows, row.length ≤ i)
    ⟨[], [], 0, none, none, rfl, rfl, fill_start hr0, Nat.le_refl _, by simp⟩ ?_ ?_ ?_⟩
  · rintro i σ H' _ ⟨as, rows, used, wv, gv, rfl, _, F, _⟩
    exact F.same.seq hS
  · rintro i x σ H' hx ⟨as, rows, used, wv, gv, rfl, er, F, hal, hrl⟩
    obtain ⟨y, rfl, hy⟩ := str_at hx
    have hi : i < ws.length := (List.getElem?_eq_some_iff.mp hy).1
    have hyl : y.length ≤ sizeLine := le_size (by have := hw y (List.mem_of_getElem? hy); omega)
    have et : Fm.run szS room (ws.take (i + 1)) = Fm.turn szS room (rows, used) y := by rw [take_snoc hy, Fm.run_snoc, er]
    have hlen := F.rows.len
    have new : ¬ (rows ≠ [] ∧ used + 1 + (y.length : Int) ≤ room) → ∀ g : Option V, ∀ p : Addr, H' p = none →
        ∃ (as' : List Addr) (rows' : List (List Str)) (used' : Int) (wv' gv' : Option V), [some (.ref a), some (.int room), some (.ref r), some (V.int (y.length : Int)), some (.str y), g] = [some (.ref a), some (.int room), some (.ref r), some (.int used'), wv', gv'] ∧
          Fm.run szS room (ws.take (i + 1)) = (rows', used') ∧ FillAt H (upd (upd H' p (.lst [.str y])) r (.lst (as.map V.ref ++ [.ref p]))) r as' rows' ∧ as'.length ≤ i + 1 ∧ ∀ row ∈ rows', row.length ≤ i + 1 := by
      intro c g p hp
      refine ⟨as ++ [p], rows ++ [[y]], _, _, _, rfl, ?_, fill_new F hp, by simp; omega, ?_⟩
      · rw [et, Fm.turn, if_neg c]
      · intro row hrow
        rcases List.mem_append.mp hrow with h | h
        · have := hrl row h; omega
        · have e : row = [y] := by simpa using h
          rw [e]; simp
    refine ⟨_, rfl, _, _, rfl, rfl, _, rfl, y, rfl, hyl, _, _, rfl, rfl, ?_⟩
    refine ⟨_, rfl, _, .inl ⟨_, SqL.of F.at_, rfl⟩, ?_⟩
    refine ite2 (fun c0 => ?_) (fun c0 => ?_)
    · have hrows : rows ≠ [] := by
        intro e
        rw [e] at hlen
        have e' : as = [] := List.length_eq_zero_iff.mp hlen
        rw [e'] at c0
        cases c0
      refine ⟨_, rfl, _, rfl, _, _, rfl, rfl, _, rfl, ?_⟩
      refine ite2 (fun c => ?_) (fun c => ?_)
      · have c' : used + 1 + (y.length : Int) ≤ room := of_decide_eq_true c
        obtain ⟨rs, row, rfl⟩ := Fm.split_last rows hrows
        obtain ⟨bs, z, rfl, hb, hz⟩ := F.rows.last
        have hml := hrl row (by simp)
        refine ⟨_, rfl, _, rfl, r, _, _, .ref z, rfl, rfl, SqL.of F.at_, ?_, .inl ⟨rfl, _, SqL.of hz⟩, _, rfl, z, _, _, rfl, rfl, hz, ?_, ?_⟩
        · rw [List.map_append]
          exact atI_last _ _
        · rw [List.length_map]
          exact lt_size (by omega)
        · refine ⟨_, rfl, ?_⟩
          refine ⟨bs ++ [z], rs ++ [row ++ [y]], _, _, _, rfl, ?_, fill_on F hb, by omega, ?_⟩
          · rw [et, Fm.turn, if_pos ⟨hrows, c'⟩, Fm.onLast_snoc]
          · intro row' hrow
            rcases List.mem_append.mp hrow with h | h
            · have := hrl row' (by simp [h]); omega
            · have e : row' = row ++ [y] := by simpa using h
              rw [e]; simp; omega
      · have c' : ¬ used + 1 + (y.length : Int) ≤ room := of_decide_eq_false (Bool.eq_false_iff.mpr c)
        refine ⟨_, rfl, .inl ⟨rfl, _, SqL.of F.at_⟩, _, rfl, (by show 1 ≤ sizeLine; decide), fun p hp => ?_⟩
        have hrp : r ≠ p := fun e => by rw [← e, F.at_] at hp; cases hp
        refine ⟨r, _, _, rfl, rfl, by rw [upd_ne hrp]; exact F.at_, by rw [List.length_map]; exact lt_size (by omega), _, rfl, y, rfl, hyl, ?_⟩
        exact new (fun z => c' z.2) _ p hp
    · have hrows : rows = [] := by
        cases as with
        | nil => exact List.length_eq_zero_iff.mp hlen.symm
        | cons b as => exact absurd rfl c0
      refine iteF ?_
      refine ⟨_, rfl, .inl ⟨rfl, _, SqL.of F.at_⟩, _, rfl, (by show 1 ≤ sizeLine; decide), fun p hp => ?_⟩
      have hrp : r ≠ p := fun e => by rw [← e, F.at_] at hp; cases hp
      refine ⟨r, _, _, rfl, rfl, by rw [upd_ne hrp]; exact F.at_, by rw [List.length_map]; exact lt_size (by omega), _, rfl, y, rfl, hyl, ?_⟩
      exact new (fun z => z.1 hrows) _ p hp
  · rintro σ H' ⟨as, rows, used, wv, gv, rfl, er, F, _⟩
    refine ⟨_, rfl, q r as H' ?_⟩
    have e : (ws.map V.str).length = ws.length := List.length_map _
    rw [e, List.take_length] at er
    rw [Fm.filledM, er]
    exact F
end
theorem map_len (xs : List Str) (k : Nat) : (xs.map (·.length)).sum + xs.length * k = (xs.map fun x => x.length + k).sum := by
  induction xs with
  | nil => simp
  | cons x xs ih =>
    simp only [List.map_cons, List.sum_cons, List.length_cons]
    rw [← ih, Nat.succ_mul]
    omega
section
open Rp
theorem flats_range {ps : List Th.T} : (List.range ps.length).map (fun i => V.str (Th.flat (ps.getD i (.word "")))) = (Th.flats ps).map V.str := by
  rw [Th.flats_map, List.map_map]
  exact range_map ps _ _ fun i x e => by rw [List.getD_eq_getElem?_getD, e]; rfl
inductive SpFlatI (d : Nat) (vs : List V) (H : Hp) (Q : VK) (a_3 : XK) : Prop
  | mk (t : Th.T) (v : V) (h_0 : vs = [v]) (h_1 : Rep H t v) (h_2 : Th.deep t < d) (h_3 : Th.size t ≤ 1000000) (h_4 : ∀ H', Same H H' → Q (.str (Th.flat t)) H') : SpFlatI d vs H Q a_3
noncomputable def spFlat (d : Nat) : Sp := fun vs H Q a_3 => SpFlatI d vs H Q a_3
variable {P : Program} {w : World} {K : PySem.W.Frag} {mg : Str → Option Value} {base : Heap}
theorem ok_flat1 {n : Nat} {f : Addr} {fd : FuncData} (T : At K mg "flat" s_flat ["thing"] f fd) (B : Bn mg) (G_flat : FnOk P w K mg base CX0 n f fd ["thing"] (spFlat n)) : FnOk P w K mg base CX0 (n + 1) f fd ["thing"] (spFlat (n + 1)) := by
  have sc := sc_flat
  refine T.F.ok sc (fun vs H Q E h => ?_) (fun cdv A outer s H vs Q E hr h => ?_)
  · obtain ⟨t, v, rfl, _⟩ := h; rfl
  obtain ⟨t, v, rfl, R, hd, hz, q⟩ := h
  have m_isinstance := B.isinstance
  have m_str := B.str
  have m_flat := T.m
  have k_flat := T.F.kp
  have b_flat := T.b
  have hA_1 : PSs (XF_flat P w K mg base f cdv A outer s H E) (List.drop 3 (defBody s_flat)) _ := (pss_one (ps_ret (pe_op op_add_str (pe_op op_add_str (pe_ix ix_tup (pv 0) pe_int (fun _ _ => rfl)) pe_str) (pe_call G_flat hr rfl m_flat k_flat b_flat .nil pass0 (pa_cons (pe_ix ix_tup (pv 0) pe_int (fun _ _ => rfl)) pa_nil)))))
  let tA_1 : L2.TS := rdOf hA_1
  have hB_1 : PSs _ _ tA_1 := hA_1
  have hA_2 : PSs (XF_flat P w K mg base f cdv A outer s H E) (thenA (ixA (defBody s_flat) 2)) _ := (pss_one (ps_ret (pe_op op_add_str (pe_op op_add_str pe_str (pe_bm PySem.F.plainAttrs_str PySem.F.slot_str_join PySem.F.type_str_join mt_join pe_str (pa_cons (pe_ix ix_tup (pv 0) pe_int (fun _ _ => rfl)) pa_nil))) pe_str)))
  let tA_2 : L2.TS := rdOf hA_2
  have hB_2 : PSs _ _ tA_2 := hA_2
  have hA_3 : PSs (XF_flat P w K mg base f cdv A outer s H E) (List.drop 2 (defBody s_flat)) _ := (pss_cons (ps_if (pt_cmpR op_eq (pe_ix ix_tup (pv 0) pe_int (fun _ _ => rfl)) pe_str (nomark _)) hB_2 pss_nil) hB_1)
  let tA_3 : L2.TS := rdOf hA_3
  have hB_3 : PSs _ _ tA_3 := hA_3
  have hA_4 : PSs (XF_flat P w K mg base f cdv A outer s H E) (thenA (ixA (defBody s_flat) 1)) _ := (pss_one (ps_ret (pe_op op_add_str (pe_op op_add_str (pe_op op_add_str (pe_ix ix_tup (pv 0) pe_int (fun _ _ => rfl)) pe_str) (pe_bm PySem.F.plainAttrs_str PySem.F.slot_str_join PySem.F.type_str_join mt_join pe_str (pa_cons (pe_comp rfl (pi_list (pe_ix ix_tup (pv 0) pe_int (fun _ _ => rfl))) (CompOk.none (by decide +kernel) (by decide +kernel) rfl (by decide +kernel) (by decide +kernel)) (fun _ _ _ => (pe_call G_flat hr rfl m_flat k_flat b_flat .nil pass0 (pa_cons (pv 0) pa_nil)))) pa_nil))) pe_str)))
  let tA_4 : L2.TS := rdOf hA_4
  have hB_4 : PSs _ _ tA_4 := hA_4
  have hA_5 : PSs (XF_flat P w K mg base f cdv A outer s H E) (List.drop 1 (defBody s_flat)) _ := (pss_cons (ps_if (pt_cmpR op_eq (pe_ix ix_tup (pv 0) pe_int (fun _ _ => rfl)) pe_str (nomark _)) hB_4 pss_nil) hB_3)
  let tA_5 : L2.TS := rdOf hA_5
  have hB_5 : PSs _ _ tA_5 := hA_5
  have hA_6 : PSs (XF_flat P w K mg base f cdv A outer s H E) (thenA (ixA (defBody s_flat) 0)) _ := (pss_one (ps_ret (pv 0)))
  let tA_6 : L2.TS := rdOf hA_6
  have hB_6 : PSs _ _ tA_6 := hA_6
  have hA_7 : PSs (XF_flat P w K mg base f cdv A outer s H E) (defBody s_flat) _ := (pss_cons (ps_if (pt_val (pe_callB call_isinst rfl m_isinstance boot_isinstance' (pa_cons (pv 0) (pa_cons (pe_bltn (v := .ty "str") rfl m_str boot_str' rfl) pa_nil)))) hB_6 pss_nil) hB_5)
  let tA_7 : L2.TS := rdOf hA_7
  have hB_7 : PSs _ _ tA_7 := hA_7
  refine ⟨_, hB_7, ?_⟩
  cases t with
  | word x =>
    rw [Rep] at R
    subst R
    refine ⟨_, rfl, _, _, _, _, rfl, .str x, kit_str_str K, _, rfl, ?_⟩
    refine iteT ?_
    rw [Th.flat] at q
    exact ⟨_, rfl, q H (Same.refl H)⟩
  | bundle hd' ps =>
    rw [Rep] at R
    obtain ⟨a, l, us, rfl, h1, h2, h3⟩ := R
    have hb := Th.flat_le (.bundle hd' ps)
    rw [Th.flat] at q hb
    rw [Th.app_len, Th.app_len, Th.app_len] at hb
    rw [Th.size] at hz hb
    rw [Th.deep] at hd
    have hf := Th.flats_le ps
    have e1 : ("(" : Str).length = 1 := by decide
    have e2 : (")" : Str).length = 1 := by decide
    refine ⟨_, rfl, _, _, _, _, rfl, .tup h1, kit_tup_str K, _, rfl, ?_⟩
    refine iteF ?_
    refine ⟨_, rfl, a, _, _, _, rfl, rfl, SqT.of h1, rfl, rfl, _, rfl, ?_⟩
    refine iteT ?_
    refine ⟨_, rfl, a, _, _, _, rfl, rfl, SqT.of h1, rfl, _, _, rfl, rfl, le_size (by omega), rfl, _, rfl, a, _, _, _, rfl, rfl, SqT.of h1, rfl, l, rfl, ⟨_, SqL.of h2⟩, fun D hD => ?_⟩
    refine comp_list (fun i => V.str (Th.flat (ps.getD i (.word "")))) (SqL.of h2) hD (by rw [← h3.len]; exact le_size (by have := Th.hefts_le ps; omega)) ?_ ?_
    · intro i x H' R hx s1 k
      obtain ⟨t, ht, hrep⟩ := h3.get hx
      have hm := List.mem_of_getElem? ht
      have hdt := Th.deep_le_of_mem hm
      have hst : Th.size t ≤ Th.sizes ps := Th.size_le_of_mem hm
      refine ⟨_, rfl, t, x, rfl, Rep.mono s1 _ _ hrep, by omega, by omega, fun H2 s2 => ?_⟩
      have := k H2 s2
      rw [List.getD_eq_getElem?_getD, ht] at this
      exact this
    · intro H' s1 hD'
      rw [← h3.len, flats_range] at hD'
      refine ⟨_, D, _, rfl, rfl, SqL.of hD', ?_, _, _, rfl, rfl, ?_, _, _, rfl, rfl, ?_, ?_⟩
      · rw [map_len]
        have e3 : (", " : Str).length = 2 := by decide
        rw [e3]
        omega
      · rw [Th.app_len]
        exact le_size (by omega)
      · rw [Th.app_len, Th.app_len]
        exact le_size (by omega)
      · exact q H' s1
  | run ws =>
    rw [Rep] at R
    obtain ⟨a, l, rfl, h1, h2⟩ := R
    have hb := Th.flat_le (.run ws)
    rw [Th.flat] at q hb
    rw [Th.app_len, Th.app_len] at hb
    rw [Th.size] at hz hb
    have e1 : ("[" : Str).length = 1 := by decide
    have e2 : ("]" : Str).length = 1 := by decide
    refine ⟨_, rfl, _, _, _, _, rfl, .tup h1, kit_tup_str K, _, rfl, ?_⟩
    refine iteF ?_
    refine ⟨_, rfl, a, _, _, _, rfl, rfl, SqT.of h1, rfl, rfl, _, rfl, ?_⟩
    refine iteF ?_
    refine ⟨_, rfl, a, _, _, _, rfl, rfl, SqT.of h1, rfl, rfl, _, rfl, ?_⟩
    refine iteT ?_
    refine ⟨rfl, _, rfl, a, _, _, _, rfl, rfl, SqT.of h1, rfl, _, l, ws, rfl, rfl, SqL.of h2, ?_, _, _, rfl, rfl, ?_, _, _, rfl, rfl, ?_, ?_⟩
    · rw [map_len]
      have e3 : (" " : Str).length = 1 := by decide
      rw [e3]
      omega
    · exact le_size (by omega)
    · rw [Th.app_len]
      exact le_size (by omega)
    · exact q H (Same.refl H)
  | tag w' t =>
    rw [Rep] at R
    obtain ⟨a, u, rfl, h1, h2⟩ := R
    have hb := Th.flat_le (.tag w' t)
    rw [Th.flat] at q hb
    rw [Th.app_len, Th.app_len] at hb
    rw [Th.size] at hz hb
    rw [Th.deep] at hd
    refine ⟨_, rfl, _, _, _, _, rfl, .tup h1, kit_tup_str K, _, rfl, ?_⟩
    refine iteF ?_
    refine ⟨_, rfl, a, _, _, _, rfl, rfl, SqT.of h1, rfl, rfl, _, rfl, ?_⟩
    refine iteF ?_
    refine ⟨_, rfl, a, _, _, _, rfl, rfl, SqT.of h1, rfl, rfl, _, rfl, ?_⟩
    refine iteF ?_
    refine ⟨_, rfl, a, _, _, _, rfl, rfl, SqT.of h1, rfl, _, _, rfl, rfl, le_size (by omega), _, rfl, a, _, _, _, rfl, rfl, SqT.of h1, rfl, t, u, rfl, h2, by omega, by omega, fun H' s1 => ?_⟩
    refine ⟨_, _, rfl, rfl, ?_, q H' s1⟩
    rw [Th.app_len]
    exact le_size (by omega)
theorem ok_flat {f : Addr} {fd : FuncData} (T : At K mg "flat" s_flat ["thing"] f fd) (B : Bn mg) : ∀ n, FnOk P w K mg base CX0 n f fd ["thing"] (spFlat n)
  | 0 => by
    have no : ∀ vs H Q E, ¬ spFlat 0 vs H Q E := fun vs H Q E h => by
      obtain ⟨t, v, _, _, hd, _⟩ := h
      omega
    exact ⟨fun vs H Q E h => absurd h (no vs H Q E), fun A outer s H args us vs Q E _ _ _ _ h => absurd h (no vs H Q E)⟩
  | n + 1 => ok_flat1 T B (ok_flat T B n)
end
theorem join_jl : ∀ r : List Str, (Str.join " " r).length = Fm.jl Ly.sz r
  | [] => rfl
  | [x] => rfl
  | x :: y :: r => by
    show (x ++ " " ++ Str.join " " (y :: r)).length = x.length + 1 + Fm.jl Ly.sz (y :: r)
    rw [len_app, len_app, join_jl (y :: r)]
    rfl
theorem jl_take : ∀ (a b : List Str), Fm.jl Ly.sz a ≤ Fm.jl Ly.sz (a ++ b)
  | [], b => Nat.zero_le _
  | [x], [] => Nat.le_refl _
  | [x], y :: b => by show x.length ≤ x.length + 1 + _; omega
  | x :: y :: a, b => by
    have := jl_take (y :: a) b
    show x.length + 1 + Fm.jl Ly.sz (y :: a) ≤ x.length + 1 + Fm.jl Ly.sz (y :: a ++ b)
    omega
theorem jl_drop : ∀ (a b : List Str), Fm.jl Ly.sz b ≤ Fm.jl Ly.sz (a ++ b)
  | [], b => Nat.le_refl _
  | [x], [] => Nat.zero_le _
  | [x], y :: b => by show _ ≤ x.length + 1 + Fm.jl Ly.sz (y :: b); omega
  | x :: y :: a, b => by
    have := jl_drop (y :: a) b
    show _ ≤ x.length + 1 + Fm.jl Ly.sz (y :: a ++ b)
    omega
section
open Rp
open Th (T)
theorem strs_flat (xs : List Str) : (xs.map V.str).all flatV = true := by
  rw [List.all_map, List.all_eq_true]
  intro x _
  rfl
theorem any_counts : (∀ {t : T} {i : Nat} {lead tail : Str} {rows : List Str}, Ly.Any t i lead tail rows → rows.length ≤ Ly.cap t) ∧ ∀ {ts : List T} {i : Nat} {rows : List Str}, Ly.Anys ts i rows → rows.length ≤ Ly.caps ts := by
  refine Ly.any_ind (M := fun t _ _ _ rows => rows.length ≤ Ly.cap t) (N := fun ts _ rows => rows.length ≤ Ly.caps ts) ?_ ?_ ?_ ?_ ?_ ?_ ?_ ?_
  · intro w t i lead tail rows h
    rw [Ly.cap]; exact h
  · intro x i lead tail
    rw [Ly.cap]; simp
  · intro ws i lead tail
    rw [Ly.cap]; simp
  · intro hd ps i lead tail
    rw [Ly.cap]; simp
  · intro ws i lead tail gs _ hf hg
    rw [Ly.cap]
    have key : ∀ l : List (List Str), (∀ g ∈ l, g ≠ []) → l.length ≤ l.flatten.length := by
      intro l
      induction l with
      | nil => intro _; simp
      | cons g l ih =>
        intro h
        have h1 := List.length_pos_iff.mpr (h g List.mem_cons_self)
        have h2 := ih fun g' hg' => h g' (List.mem_cons_of_mem _ hg')
        rw [List.flatten_cons, List.length_append, List.length_cons]
        omega
    have := key gs hg
    rw [hf] at this
    simp only [List.length_cons, List.length_append, List.length_map, List.length_nil]
    omega
  · intro hd ps i lead tail rows _ h
    rw [Ly.cap]
    simp only [List.length_cons, List.length_append, List.length_nil]
    omega
  · intro i
    rw [Ly.caps]; simp
  · intro t r i rows rows' _ h hs
    rw [Ly.caps, List.length_append]
    omega
theorem any_count {t : T} {i : Nat} {lead tail : Str} {rows : List Str} (h : Ly.Any t i lead tail rows) : rows.length ≤ Ly.cap t := any_counts.1 h
theorem anys_count {ts : List T} {i : Nat} {rows : List Str} (h : Ly.Anys ts i rows) : rows.length ≤ Ly.caps ts := any_counts.2 h
theorem any_le {t : T} {i : Nat} {lead tail : Str} {rows : List Str} (h : Ly.Any t i lead tail rows) : ∀ x ∈ rows, x.length ≤ (Ly.flatRow t i lead tail).length := by
  refine (Ly.any_ind (M := fun t i lead tail rows => ∀ x ∈ rows, x.length ≤ (Ly.flatRow t i lead tail).length) (N := fun ts i rows => ∀ x ∈ rows, x.length ≤ i + (Str.join ", " (Th.flats ts)).length) ?_ ?_ ?_ ?_ ?_ ?_ ?_ ?_).1 h
  · intro w t i lead tail rows h y hy
    have := h y hy
    rw [Ly.flatRow_len] at this ⊢
    rw [Th.app_len, Th.app_len] at this
    rw [Th.flat, Th.app_len, Th.app_len]
    omega
  · intro x i lead tail y hy
    rw [List.mem_singleton.mp hy]; exact Nat.le_refl _
  · intro ws i lead tail y hy
    rw [List.mem_singleton.mp hy]; exact Nat.le_refl _
  · intro hd ps i lead tail y hy
    rw [List.mem_singleton.mp hy]; exact Nat.le_refl _
  · intro ws i lead tail gs _ hf hg y hy
    have e1 : ("[" : Str).length = 1 := by decide
    have e2 : ("]" : Str).length = 1 := by decide
    rw [Ly.flatRow_len, Th.flat, Th.app_len, Th.app_len]
    rcases List.mem_cons.mp hy with e | hy
    · rw [e, Th.app_len, Th.app_len, Ly.pad_len]; omega
    · rcases List.mem_append.mp hy with hy | hy
      · obtain ⟨g, hgm, rfl⟩ := List.mem_map.mp hy
        rw [Ly.wordRow_len i g (hg g hgm)]
        have key : ∀ (gs : List (List Str)), g ∈ gs → Fm.jl Ly.sz g ≤ Fm.jl Ly.sz gs.flatten := by
          intro gs
          induction gs with
          | nil => intro z; cases z
          | cons b gs ih =>
            intro z
            rw [List.flatten_cons]
            rcases List.mem_cons.mp z with e | z
            · rw [e]; exact jl_take _ _
            · exact Nat.le_trans (ih z) (jl_drop _ _)
        have h1 := key gs hgm
        rw [hf] at h1
        have h2 := join_jl ws
        omega
      · have e : y = _ := List.mem_singleton.mp hy
        rw [e, Th.app_len, Th.app_len, Ly.pad_len]; omega
  · intro hd ps i lead tail rows _ h y hy
    have e1 : ("(" : Str).length = 1 := by decide
    have e2 : (")" : Str).length = 1 := by decide
    rw [Ly.flatRow_len, Th.flat, Th.app_len, Th.app_len, Th.app_len]
    rcases List.mem_cons.mp hy with e | hy
    · rw [e, Th.app_len, Th.app_len, Th.app_len, Ly.pad_len]; omega
    · rcases List.mem_append.mp hy with hy | hy
      · have := h y hy; omega
      · have e : y = _ := List.mem_singleton.mp hy
        rw [e, Th.app_len, Th.app_len, Ly.pad_len]; omega
  · intro i y hy
    cases hy
  · intro t r i rows rows' ha h hs y hy
    have e0 : ("" : Str).length = 0 := by decide
    have e1 : ("," : Str).length = 1 := by decide
    have e2 : (", " : Str).length = 2 := by decide
    rcases List.mem_append.mp hy with hy | hy
    · have q := h y hy
      rw [Ly.flatRow_len, e0] at q
      cases r with
      | nil =>
        rw [show (if ([] : List T).isEmpty = true then ("" : Str) else ",") = "" from rfl, e0] at q
        rw [Th.flats, Th.flats]
        show y.length ≤ i + (Th.flat t).length
        omega
      | cons u r =>
        rw [show (if (u :: r).isEmpty = true then ("" : Str) else ",") = "," from rfl, e1] at q
        rw [Th.flats, Th.flats]
        show y.length ≤ i + (Th.flat t ++ ", " ++ Str.join ", " (Th.flat u :: Th.flats r)).length
        rw [Th.app_len, Th.app_len, e2]
        omega
    · cases r with
      | nil => cases ha; cases hy
      | cons u r =>
        have q := hs y hy
        have eu : Th.flats (u :: r) = Th.flat u :: Th.flats r := by rw [Th.flats]
        rw [Th.flats, eu]
        rw [eu] at q
        show y.length ≤ i + (Th.flat t ++ ", " ++ Str.join ", " (Th.flat u :: Th.flats r)).length
        rw [Th.app_len, Th.app_len]
        omega
end
section
open Rp
open Th (T)
inductive SpLaidI (d : Nat) (vs : List V) (H : Hp) (Q : VK) (a_3 : XK) : Prop
  | mk (t : T) (v : V) (W : Int) (h_0 : vs = [v, .int W]) (h_1 : Rep H t v) (h_2 : Th.deep t < d) (h_3 : Th.size t ≤ 30000) (h_4 : ∀ (r : Addr) (H' : Hp), H r = none → Same H H' → H' r = some (.lst ((Ly.lay W t 0 "" "").map V.str)) → Q (.ref r) H') : SpLaidI d vs H Q a_3
noncomputable def spLaid (d : Nat) : Sp := fun vs H Q a_3 => SpLaidI d vs H Q a_3
end
section
open Rp
open Th (T)
theorem pad_add (i j : Nat) : Ly.pad i ++ Ly.pad j = Ly.pad (i + j) := by
  show (⟨Array.replicate i 32 ++ Array.replicate j 32⟩ : Str) = ⟨Array.replicate (i + j) 32⟩
  rw [Array.replicate_append_replicate]
theorem pad_two : ("  " : Str) = Ly.pad 2 := by decide +kernel
theorem wordRow_eq (i : Nat) (g : List Str) : Ly.wordRow i g = Ly.pad (i + 2) ++ Str.join " " g := by rw [Ly.wordRow, pad_two, pad_add]
noncomputable def canB : T → Bool
  | .word _ => false
  | .run ws => !ws.isEmpty
  | .bundle _ ps => !ps.isEmpty
  | .tag _ _ => true
noncomputable def tagB : T → Bool
  | .tag _ _ => true
  | _ => false
theorem isEmpty_pos {α : Type} (l : List α) : decide ((l.length : Int) > 0) = !l.isEmpty := by
  cases l with
  | nil => rfl
  | cons x l => exact decide_eq_true (by rw [List.length_cons]; omega)
variable {P : Program} {w : World} {K : PySem.W.Frag} {mg : Str → Option Value} {base : Heap}
inductive SpCanI  (vs : List V) (H : Hp) (Q : VK) (a_3 : XK) : Prop
  | mk (t : T) (v : V) (h_0 : vs = [v]) (h_1 : Rep H t v) (h_2 : tagB t = false) (h_3 : Q (.bl (canB t)) H) : SpCanI  vs H Q a_3
noncomputable def spCan  : Sp := fun vs H Q a_3 => SpCanI  vs H Q a_3
theorem ok_can {n : Nat} {f : Addr} {fd : FuncData} (TC : At K mg "can_be_broken" s_can_be_broken ["thing"] f fd) (B : Bn mg) : FnOk P w K mg base CX0 (n + 1) f fd ["thing"] spCan := by
  have sc := sc_can_be_broken
  refine TC.F.ok sc (fun vs H Q E h => ?_) (fun cdv A outer s H vs Q E hr h => ?_)
  · obtain ⟨t, v, rfl, _⟩ := h; rfl
  obtain ⟨t, v, rfl, R, ht, q⟩ := h
  have m_len := B.len
  have m_isinstance := B.isinstance
  have m_str := B.str
  refine ⟨_, ((pss_one (ps_ret (pe_and (pe_not (pe_callB call_isinst rfl m_isinstance boot_isinstance' (pa_cons (pv 0) (pa_cons (pe_bltn (v := .ty "str") rfl m_str boot_str' rfl) pa_nil)))) (pe_one (pe_cmpR op_gt (pe_callB call_len_seq rfl m_len PySem.boot_len (pa_cons (pe_ix ix_tup (pv 0) (pe_un un_neg pe_int) (fun _ _ => rfl)) pa_nil)) pe_int (nomark _))))))), ?_⟩
  cases t with
  | tag w' t => cases ht
  | word x =>
    rw [Rep] at R
    subst R
    refine ⟨_, rfl, _, _, _, _, rfl, .str x, kit_str_str K, _, rfl, _, rfl, ?_⟩
    exact iteF q
  | bundle hd ps =>
    rw [Rep] at R
    obtain ⟨a, l, us, rfl, h1, h2, h3⟩ := R
    refine ⟨_, rfl, _, _, _, _, rfl, .tup h1, kit_tup_str K, _, rfl, _, rfl, ?_⟩
    refine iteT ?_
    refine ⟨_, rfl, _, rfl, a, _, _, _, rfl, rfl, SqT.of h1, rfl, l, us, rfl, .inl (SqL.of h2), _, _, rfl, rfl, ?_⟩
    have e : canB (.bundle hd ps) = decide ((us.length : Int) > 0) := by rw [isEmpty_pos, canB]; cases ps with
      | nil => rw [Reps] at h3; subst h3; rfl
      | cons t r => rw [Reps] at h3; obtain ⟨_, _, rfl, _⟩ := h3; rfl
    rw [e] at q
    exact q
  | run ws =>
    rw [Rep] at R
    obtain ⟨a, l, rfl, h1, h2⟩ := R
    refine ⟨_, rfl, _, _, _, _, rfl, .tup h1, kit_tup_str K, _, rfl, _, rfl, ?_⟩
    refine iteT ?_
    refine ⟨_, rfl, _, rfl, a, _, _, _, rfl, rfl, SqT.of h1, rfl, l, _, rfl, .inl (SqL.of h2), _, _, rfl, rfl, ?_⟩
    have e : canB (.run ws) = decide (((ws.map V.str).length : Int) > 0) := by rw [isEmpty_pos, canB]; cases ws <;> rfl
    rw [e] at q
    exact q
inductive SpWordsI (K : PySem.W.Frag) (vs : List V) (H : Hp) (Q : VK) (a_3 : XK) : Prop
  | mk (l : Addr) (ws : List Str) (W : Int) (i : Nat) (h_0 : vs = [.ref l, .int W, .int ((i + 2 : Nat) : Int)]) (h_1 : H l = some (.lst (ws.map V.str))) (h_2 : i + (ws.map fun x => x.length + 1).sum ≤ 1000000) (h_3 : ∀ (r : Addr) (H' : Hp), H r = none → Same H H' → H' r = some (.lst (((Fm.filledM szS ws (Ly.room W i)).map (Ly.wordRow i)).map V.str)) → Q (.ref r) H') : SpWordsI K vs H Q a_3
noncomputable def spWords (K : PySem.W.Frag) : Sp := fun vs H Q a_3 => SpWordsI K vs H Q a_3
theorem join_le : ∀ g : List Str, (Str.join " " g).length ≤ (g.map fun x => x.length + 1).sum
  | [] => Nat.zero_le _
  | [x] => by show x.length ≤ _; simp
  | x :: y :: g => by
    have := join_le (y :: g)
    show (x ++ " " ++ Str.join " " (y :: g)).length ≤ _
    rw [len_app, len_app, List.map_cons, List.sum_cons]
    have e : (" " : Str).length = 1 := by decide
    omega
theorem sum_mem {f : Str → Nat} : ∀ {gs : List (List Str)} {g : List Str}, g ∈ gs → (g.map f).sum ≤ (gs.flatten.map f).sum
  | a :: gs, g, h => by
    rw [List.flatten_cons, List.map_append, List.sum_append]
    rcases List.mem_cons.mp h with e | h
    · rw [e]; omega
    · have := sum_mem (f := f) h; omega
theorem sum_one {f : Str → Nat} : ∀ {ws : List Str} {x : Str}, x ∈ ws → f x ≤ (ws.map f).sum
  | a :: ws, x, h => by
    rw [List.map_cons, List.sum_cons]
    rcases List.mem_cons.mp h with e | h
    · rw [e]; omega
    · have := sum_one (f := f) h; omega
theorem flat_len {gs : List (List Str)} (h : ∀ g ∈ gs, g ≠ []) : gs.length ≤ gs.flatten.length := by
  induction gs with
  | nil => exact Nat.le_refl _
  | cons g gs ih =>
    have h1 := List.length_pos_iff.mpr (h g List.mem_cons_self)
    have h2 := ih fun g' hg' => h g' (List.mem_cons_of_mem _ hg')
    rw [List.flatten_cons, List.length_append, List.length_cons]
    omega
theorem ok_words {n : Nat} {f g : Addr} {fd gd : FuncData} (TW : At K mg "rows_of_words" s_rows_of_words ["words", "width", "indent"] f fd) (TF : At K mg "filled" s_filled ["words", "room"] g gd) (B : Bn mg) :
    FnOk P w K mg base CX0 (n + 2) f fd ["words", "width", "indent"] (spWords K) := by
  have sc := sc_rows_of_words
  refine TW.F.ok sc (fun vs H Q E h => ?_) (fun cdv A outer s H vs Q E hr h => ?_)
  · obtain ⟨l, ws, W, i, rfl, _⟩ := h; rfl
  obtain ⟨l, ws, W, i, rfl, hl, hz, q⟩ := h
  have G_filled : FnOk P w K mg base CX0 (n + 1) g gd _ _ := ok_filled TF B
  have m_filled := TF.m
  have k_filled := TF.F.kp
  have b_filled := TF.b
  have hwl := Ly.run_words ws
  have er : W - ((i + 2 : Nat) : Int) = Ly.room W i := by unfold Ly.room; omega
  have hA_1 : PSs (XF_rows_of_words P w K mg base f cdv A outer s H E) (defBody s_rows_of_words) _ := (pss_one (ps_ret (pe_comp rfl (pi_list (pe_call G_filled hr rfl m_filled k_filled b_filled .nil pass0 (pa_cons (pv 0) (pa_cons (pe_op op_sub (pv 1) (pv 2)) pa_nil)))) (CompOk.of (cl := [("indent", s.heap.objs.size + 1)]) (fr := [("indent", 2)]) rfl (by decide +kernel) rfl (by decide +kernel) (by decide +kernel) (fun _ _ h => h) (fun p hp e => ⟨_, by rw [(by decide +kernel : ∀ p ∈ _, p.2 = NameKind.free → p.1 = ("indent" : Str)) p hp e]; rfl⟩) (fun p hp => by cases List.mem_singleton.mp hp; exact ⟨rfl, rfl, Or.inl rfl⟩) (by decide +kernel)) (fun _ _ _ => (pe_op op_add_str (pe_op op_blank pe_str (pv 1)) (pe_bmK (K := K) rfl PySem.F.plainAttrs_str PySem.F.slot_str_join PySem.F.type_str_join (mt_joinK (K := K) rfl) pe_str (pa_cons (pv 0) pa_nil)))))))
  let tA_1 : L2.TS := rdOf hA_1
  have hB_1 : PSs _ _ tA_1 := hA_1
  refine ⟨_, hB_1, ?_⟩
  refine ⟨_, rfl, _, rfl, _, rfl, _, _, rfl, rfl, l, ws, _, rfl, SqL.of hl, by omega, fun x hx => ?_, fun r as H1 F => ?_⟩
  · have := sum_one (f := fun x => x.length + 1) hx
    omega
  rw [er] at F
  have hfl := Fm.filled_flat szS (Ly.room W i) ws
  have hlen := F.rows.len
  have hgn : ∀ g ∈ Fm.filledM szS ws (Ly.room W i), g ≠ [] := fun g hg => (Ly.filled_mem hg).1
  have hcl := flat_len hgn
  rw [hfl] at hcl
  refine ⟨r, rfl, ⟨_, SqL.of F.at_⟩, fun D hD => ?_⟩
  refine comp_list (fun k => V.str (Ly.wordRow i ((Fm.filledM szS ws (Ly.room W i)).getD k []))) (SqL.of F.at_) hD (by rw [List.length_map, hlen]; exact le_size (by omega)) ?_ ?_
  · intro k x H2 R hx s2 kk
    obtain ⟨a, rfl, ha⟩ : ∃ a, x = V.ref a ∧ as[k]? = some a := by
      rw [List.getElem?_map] at hx
      cases e : as[k]? with
      | none => rw [e] at hx; cases hx
      | some y => rw [e] at hx; exact ⟨y, (Option.some.inj hx).symm, rfl⟩
    obtain ⟨row, hrow, hat⟩ := F.rows.get ha
    have hm := List.mem_of_getElem? hrow
    have hs := sum_mem (f := fun x => x.length + 1) hm
    rw [hfl] at hs
    have hj := join_le row
    have hrl := Ly.run_words row
    refine ⟨_, rfl, i + 2, rfl, rfl, by omega, rfl, _, rfl, _, a, row, rfl, rfl, SqL.of (s2 _ _ hat), ?_, _, _, rfl, rfl, le_size (by rw [Ly.pad_len]; omega), ?_⟩
    · rw [map_len]
      have e3 : (" " : Str).length = 1 := by decide
      rw [e3]
      omega
    · have := kk H2 (Same.refl _)
      rw [List.getD_eq_getElem?_getD, hrow, Option.getD_some, wordRow_eq] at this
      exact this
  · intro H2 s2 hD2
    refine q D H2 (F.same.free hD) (F.same.trans (fun b o hb => s2 b o hb)) ?_
    rw [hD2, List.length_map, hlen, List.map_map]
    congr 2
    exact range_map _ _ _ fun k x e => by rw [List.getD_eq_getElem?_getD, e]; rfl
end
section
open Rp
open Th (T)
variable {P : Program} {w : World} {K : PySem.W.Frag} {mg : Str → Option Value} {base : Heap}
inductive SpRowsI (d : Nat) (vs : List V) (H : Hp) (Q : VK) (a_3 : XK) : Prop
  | mk (t : T) (v : V) (W : Int) (i : Nat) (lead tail : Str) (h_0 : vs = [v, .int W, .int (i : Int), .str lead, .str tail]) (h_1 : Rep H t v) (h_2 : Th.deep t < d) (h_3 : i + lead.length + tail.length + Th.size t ≤ 1000000) (h_4 : ∀ (r : Addr) (H' : Hp), H r = none → Same H H' → H' r = some (.lst ((Ly.lay W t i lead tail).map V.str)) → Q (.ref r) H') : SpRowsI d vs H Q a_3
noncomputable def spRows (d : Nat) : Sp := fun vs H Q a_3 => SpRowsI d vs H Q a_3
inductive SpPartsI (d : Nat) (vs : List V) (H : Hp) (Q : VK) (a_3 : XK) : Prop
  | mk (l : Addr) (us : List V) (ps : List T) (W : Int) (i : Nat) (h_0 : vs = [.ref l, .int W, .int (i : Int)]) (h_1 : H l = some (.lst us)) (h_2 : Reps H ps us) (h_3 : Th.deeps ps < d) (h_4 : i + 1 + Th.sizes ps ≤ 1000000) (h_5 : ∀ (r : Addr) (H' : Hp), H r = none → Same H H' → H' r = some (.lst ((Ly.lays W ps i).map V.str)) → Q (.ref r) H') : SpPartsI d vs H Q a_3
noncomputable def spParts (d : Nat) : Sp := fun vs H Q a_3 => SpPartsI d vs H Q a_3
theorem layI_take (W : Int) (its : List Ly.It) (k : Nat) : (Ly.layI W (its.take k)).length ≤ (Ly.layI W its).length := by
  have e := Ly.layI_app W (its.take k) (its.drop k)
  rw [List.take_append_drop] at e
  rw [e, List.length_append]
  omega
theorem layI_snoc {W : Int} {its : List Ly.It} {k : Nat} {x : Ly.It} (h : its[k]? = some x) : Ly.layI W (its.take (k + 1)) = Ly.layI W (its.take k) ++ Ly.lay W x.t x.i x.lead x.tail := by
  rw [take_snoc h, Ly.layI_app, Ly.layI, Ly.layI, List.append_nil]
theorem ok_parts {n d : Nat} {f g : Addr} {fd gd : FuncData} (TP : At K mg "rows_of_parts" s_rows_of_parts ["parts", "width", "indent"] f fd) (TR : At K mg "rows_of_thing" s_rows_of_thing ["thing", "width", "indent", "lead", "tail"] g gd) (B : Bn mg) (m_enumerate : mg "enumerate" = none)
    (G_rows_of_thing : FnOk P w K mg base CX0 n g gd ["thing", "width", "indent", "lead", "tail"] (spRows d)) : FnOk P w K mg base CX0 (n + 1) f fd ["parts", "width", "indent"] (spParts d) := by
  have sc := sc_rows_of_parts
  refine TP.F.ok sc (fun vs H Q E h => ?_) (fun cdv A outer s H vs Q E hr h => ?_)
  · obtain ⟨l, us, ps, W, i, rfl, _⟩ := h; rfl
  obtain ⟨l, us, ps, W, i, rfl, hl, hR, hd, hz, q⟩ := h
  have m_len := B.len
  have m_rows_of_thing := TR.m
  have k_rows_of_thing := TR.F.kp
  have b_rows_of_thing := TR.b
  have hlen := hR.len
  have hcap : (Ly.layI W (Ly.partsI ps i)).length ≤ 1000000 := by
    rw [Ly.layI_parts]
    have h1 := anys_count (Ly.lays_anys W ps i)
    have h2 := Ly.caps_le ps
    omega
  have hA_1 : PSs (XF_rows_of_parts P w K mg base f cdv A outer s H E) (List.drop 2 (defBody s_rows_of_parts)) _ := (pss_one (ps_ret (pv 3)))
  let tA_1 : L2.TS := rdOf hA_1
  have hB_1 : PSs _ _ tA_1 := hA_1
  have hA_2 : PSs (XF_rows_of_parts P w K mg base f cdv A outer s H E) (List.drop 1 (thenA (ixA (defBody s_rows_of_parts) 1))) _ := (pss_one (ps_expr (pe_bm PySem.F.plainAttrs_list PySem.F.slot_list_extend PySem.F.type_list_extend mt_extend (pv 3) (pa_cons (pe_call G_rows_of_thing hr rfl m_rows_of_thing k_rows_of_thing b_rows_of_thing .nil pass0 (pa_cons (pv 5) (pa_cons (pv 1) (pa_cons (pv 2) (pa_cons pe_str (pa_cons (pv 6) pa_nil)))))) pa_nil))))
  let tA_2 : L2.TS := rdOf hA_2
  have hB_2 : PSs _ _ tA_2 := hA_2
  have hA_3 : PSs (XF_rows_of_parts P w K mg base f cdv A outer s H E) (thenA (ixA (defBody s_rows_of_parts) 1)) _ := (pss_cons (ps_setL (i := 6) sc.nd rfl rfl (pe_ifExp (pt_cmpR op_lt (pv 4) (pe_callB call_len_seq rfl m_len PySem.boot_len (pa_cons (pv 0) pa_nil)) (nomark _)) pe_str pe_str)) hB_2)
  let tA_3 : L2.TS := rdOf hA_3
  have hB_3 : PSs _ _ tA_3 := hA_3
  have hA_4 : PSs (XF_rows_of_parts P w K mg base f cdv A outer s H E) (List.drop 1 (defBody s_rows_of_parts)) _ := (pss_cons (ps_for PassesOwn.never rfl (pi_enum rfl m_enumerate (pa_cons (pv 0) pa_nil)) (pg_tup rfl (pgs_cons (pg_nameL (i := 4) sc.nd rfl rfl) (pgs_cons (pg_nameL (i := 5) sc.nd rfl rfl) pgs_nil))) hB_3) hB_1)
  let tA_4 : L2.TS := rdOf hA_4
  have hB_4 : PSs _ _ tA_4 := hA_4
  have hA_5 : PSs (XF_rows_of_parts P w K mg base f cdv A outer s H E) (defBody s_rows_of_parts) _ := (pss_cons (ps_setL (i := 3) sc.nd rfl rfl (pe_lst pa_nil)) hB_4)
  let tA_5 : L2.TS := rdOf hA_5
  have hB_5 : PSs _ _ tA_5 := hA_5
  refine ⟨_, hB_5, ?_⟩
  refine ⟨(by show 0 ≤ sizeLine; decide), fun r hr0 => ?_⟩
  have s0 : Same H (upd H r (.lst [])) := same_new hr0 _
  refine ⟨_, rfl, l, rfl, ⟨us, SqL.of (s0 _ _ hl)⟩, for_enum (K := K) (a := l) (xs := us)
    (fun k σ H' => E3 fun (z4 z5 z6 : Option V) => A3 (σ = [some (.ref l), some (.int W), some (.int (i : Int)), some (.ref r), z4, z5, z6]) (Same H H') (H' r = some (.lst ((Ly.layI W ((Ly.partsI ps i).take k)).map V.str))))
    ⟨none, none, none, rfl, s0, by rw [List.take_zero]; exact upd_same⟩ ?_ ?_ ?_⟩
  · rintro k σ H' _ ⟨z4, z5, z6, rfl, s1, _⟩
    exact SqL.of (s1 _ _ hl)
  · rintro k x σ H' p hx ⟨z4, z5, z6, rfl, s1, hr1⟩ hp
    have hk : k < us.length := (List.getElem?_eq_some_iff.mp hx).1
    obtain ⟨t, ht, hrep⟩ := hR.get hx
    have hm := List.mem_of_getElem? ht
    have hdt := Th.deep_le_of_mem hm
    have hst := Th.size_le_of_mem hm
    have hit := Ly.partsI_get ps i k t ht
    have s2 := same_new hp (.tup [.int ((k : Int) + 1), x])
    have s3 := s1.trans s2
    have e0 : ("" : Str).length = 0 := by decide
    have e1 : ("," : Str).length = 1 := by decide
    have hsn := layI_snoc (W := W) hit
    dsimp only at hsn
    have htk := layI_take W (Ly.partsI ps i) (k + 1)
    have put : ∀ (tl : Str), tl = (if k + 1 = ps.length then ("" : Str) else ",") → ∀ (r1 : Addr) (H2 : Hp), Same (upd H' p (.tup [.int ((k : Int) + 1), x])) H2 → H2 r1 = some (.lst ((Ly.lay W t i "" tl).map V.str)) →
        (upd H2 r (.lst ((Ly.layI W ((Ly.partsI ps i).take k)).map V.str ++ (Ly.lay W t i "" tl).map V.str))) r = some (.lst ((Ly.layI W ((Ly.partsI ps i).take (k + 1))).map V.str)) ∧
        ((Ly.layI W ((Ly.partsI ps i).take k)).map V.str).length + ((Ly.lay W t i "" tl).map V.str).length ≤ sizeLine := by
      intro tl etl r1 H2 _ _
      rw [upd_same, hsn, etl, List.map_append]
      refine ⟨rfl, ?_⟩
      rw [hsn, List.length_append] at htk
      rw [List.length_map, List.length_map]
      exact le_size (by omega)
    refine ⟨p, _, rfl, SqT.of upd_same, rfl, _, _, rfl, _, _, rfl, rfl, ?_⟩
    refine ⟨_, rfl, _, rfl, l, us, rfl, .inl (SqL.of (s3 _ _ hl)), _, _, rfl, rfl, _, rfl, ?_⟩
    refine ite2 (fun c => ?_) (fun c => ?_)
    · have c' : (k : Int) + 1 < (us.length : Int) := of_decide_eq_true c
      have et : ("," : Str) = (if k + 1 = ps.length then ("" : Str) else ",") := by rw [if_neg (by omega)]
      refine ⟨_, rfl, .inl ⟨rfl, _, SqL.of (s2 _ _ hr1)⟩, _, rfl, _, rfl, _, rfl, _, rfl, t, x, W, i, "", ",", rfl, Rep.mono s3 _ _ hrep, by omega, by rw [e0, e1]; omega, fun r1 H2 hr1n s4 hr1a => ?_⟩
      obtain ⟨p1, p2⟩ := put "," et r1 H2 s4 hr1a
      exact ⟨r, r1, _, _, rfl, rfl, s4 _ _ (s2 _ _ hr1), hr1a, p2, _, _, _, rfl, same_upd (s3.trans s4) hr0 _, p1⟩
    · have c' : ¬ (k : Int) + 1 < (us.length : Int) := of_decide_eq_false (Bool.eq_false_iff.mpr c)
      have et : ("" : Str) = (if k + 1 = ps.length then ("" : Str) else ",") := by rw [if_pos (by omega)]
      refine ⟨_, rfl, .inl ⟨rfl, _, SqL.of (s2 _ _ hr1)⟩, _, rfl, _, rfl, _, rfl, _, rfl, t, x, W, i, "", "", rfl, Rep.mono s3 _ _ hrep, by omega, by rw [e0]; omega, fun r1 H2 hr1n s4 hr1a => ?_⟩
      obtain ⟨p1, p2⟩ := put "" et r1 H2 s4 hr1a
      exact ⟨r, r1, _, _, rfl, rfl, s4 _ _ (s2 _ _ hr1), hr1a, p2, _, _, _, rfl, same_upd (s3.trans s4) hr0 _, p1⟩
  · rintro σ H' ⟨z4, z5, z6, rfl, s1, hr1⟩
    refine ⟨_, rfl, q r H' hr0 s1 ?_⟩
    rw [List.take_of_length_le (by rw [Ly.partsI_len]; omega), Ly.layI_parts] at hr1
    exact hr1
theorem ok_rows1 {n d : Nat} {f g h k j fl : Addr} {fd gd hd' kd jd ld : FuncData} (TR : At K mg "rows_of_thing" s_rows_of_thing ["thing", "width", "indent", "lead", "tail"] f fd) (TL : At K mg "flat" s_flat ["thing"] g gd)
    (TC : At K mg "can_be_broken" s_can_be_broken ["thing"] h hd') (TP : At K mg "rows_of_parts" s_rows_of_parts ["parts", "width", "indent"] k kd) (TW : At K mg "rows_of_words" s_rows_of_words ["words", "width", "indent"] j jd) (TF : At K mg "filled" s_filled ["words", "room"] fl ld) (B : Bn mg)
    {tk : Tok} (g_STEP : mg "STEP" = some (.int 2 tk)) (hn : d + 3 ≤ n)
    (G_rows_of_thing : FnOk P w K mg base CX0 n f fd ["thing", "width", "indent", "lead", "tail"] (spRows d)) (G_rows_of_parts : FnOk P w K mg base CX0 n k kd ["parts", "width", "indent"] (spParts d)) :
    FnOk P w K mg base CX0 (n + 1) f fd ["thing", "width", "indent", "lead", "tail"] (spRows (d + 1)) := by
  have sc := sc_rows_of_thing
  refine TR.F.ok sc (fun vs H Q E h => ?_) (fun cdv A outer s H vs Q E hr h => ?_)
  · obtain ⟨t, v, W, i, lead, tail, rfl, _⟩ := h; rfl
  obtain ⟨t, v, W, i, lead, tail, rfl, R, hd, hz, q⟩ := h
  have m_len := B.len
  have m_isinstance := B.isinstance
  have m_str := B.str
  have G_flat : FnOk P w K mg base CX0 n g gd _ _ := ok_flat TL B n
  have G_can_be_broken : FnOk P w K mg base CX0 n h hd' _ _ := (ok_can (n := 0) TC B).mono (by omega)
  have G_rows_of_words : FnOk P w K mg base CX0 n j jd _ _ := (ok_words (n := 0) TW TF B).mono (by omega)
  have m_flat := TL.m
  have k_flat := TL.F.kp
  have b_flat := TL.b
  have m_can_be_broken := TC.m
  have k_can_be_broken := TC.F.kp
  have b_can_be_broken := TC.b
  have m_rows_of_thing := TR.m
  have k_rows_of_thing := TR.F.kp
  have b_rows_of_thing := TR.b
  have m_rows_of_parts := TP.m
  have k_rows_of_parts := TP.F.kp
  have b_rows_of_parts := TP.b
  have m_rows_of_words := TW.m
  have k_rows_of_words := TW.F.kp
  have b_rows_of_words := TW.b
  have e1 : ("(" : Str).length = 1 := by decide
  have e2 : (")" : Str).length = 1 := by decide
  have e3 : ("[" : Str).length = 1 := by decide
  have e4 : ("]" : Str).length = 1 := by decide
  have hfl := Th.flat_le t
  have hdn := kpI (show Th.deep t < n by omega)
  have hzn := kpI (show Th.size t ≤ 1000000 by omega)
  have hb : i + lead.length + (Th.flat t).length + tail.length ≤ 1000000 := by omega
  replace hd := kpI hd
  replace hz := kpI hz
  clear hn hfl
  have hA_1 : PSs (XF_rows_of_thing P w K mg base f cdv A outer s H E) (List.drop 6 (defBody s_rows_of_thing)) _ := (pss_one (ps_ret (pe_op op_cat (pe_op op_cat (pe_lst (pa_cons (pe_op op_add_str (pe_op op_add_str (pv 5) (pv 3)) pe_str) pa_nil)) (pv 7)) (pe_lst (pa_cons (pe_op op_add_str (pe_op op_add_str (pv 5) pe_str) (pv 4)) pa_nil)))))
  let tA_1 : L2.TS := rdOf hA_1
  have hB_1 : PSs _ _ tA_1 := hA_1
  have hA_2 : PSs (XF_rows_of_thing P w K mg base f cdv A outer s H E) (List.drop 5 (defBody s_rows_of_thing)) _ := (pss_cons (ps_setL (i := 7) sc.nd rfl rfl (pe_call G_rows_of_words hr rfl m_rows_of_words k_rows_of_words b_rows_of_words .nil pass0 (pa_cons (pe_ix ix_tup (pv 0) pe_int (fun _ _ => rfl)) (pa_cons (pv 1) (pa_cons (pe_op op_add (pv 2) (pe_glob (v := .int (2)) rfl g_STEP ⟨_, rfl⟩)) pa_nil))))) hB_1)
  let tA_2 : L2.TS := rdOf hA_2
  have hB_2 : PSs _ _ tA_2 := hA_2
  have hA_3 : PSs (XF_rows_of_thing P w K mg base f cdv A outer s H E) (List.drop 1 (thenA (ixA (defBody s_rows_of_thing) 4))) _ := (pss_one (ps_ret (pe_op op_cat (pe_op op_cat (pe_lst (pa_cons (pe_op op_add_str (pe_op op_add_str (pe_op op_add_str (pv 5) (pv 3)) (pe_ix ix_tup (pv 0) pe_int (fun _ _ => rfl))) pe_str) pa_nil)) (pv 7)) (pe_lst (pa_cons (pe_op op_add_str (pe_op op_add_str (pv 5) pe_str) (pv 4)) pa_nil)))))
  let tA_3 : L2.TS := rdOf hA_3
  have hB_3 : PSs _ _ tA_3 := hA_3
  have hA_4 : PSs (XF_rows_of_thing P w K mg base f cdv A outer s H E) (thenA (ixA (defBody s_rows_of_thing) 4)) _ := (pss_cons (ps_setL (i := 7) sc.nd rfl rfl (pe_call G_rows_of_parts hr rfl m_rows_of_parts k_rows_of_parts b_rows_of_parts .nil pass0 (pa_cons (pe_ix ix_tup (pv 0) pe_int (fun _ _ => rfl)) (pa_cons (pv 1) (pa_cons (pe_op op_add (pv 2) (pe_glob (v := .int (2)) rfl g_STEP ⟨_, rfl⟩)) pa_nil))))) hB_3)
  let tA_4 : L2.TS := rdOf hA_4
  have hB_4 : PSs _ _ tA_4 := hA_4
  have hA_5 : PSs (XF_rows_of_thing P w K mg base f cdv A outer s H E) (List.drop 4 (defBody s_rows_of_thing)) _ := (pss_cons (ps_if (pt_cmpR op_eq (pe_ix ix_tup (pv 0) pe_int (fun _ _ => rfl)) pe_str (nomark _)) hB_4 pss_nil) hB_2)
  let tA_5 : L2.TS := rdOf hA_5
  have hB_5 : PSs _ _ tA_5 := hA_5
  have hA_6 : PSs (XF_rows_of_thing P w K mg base f cdv A outer s H E) (thenA (ixA (defBody s_rows_of_thing) 3)) _ := (pss_one (ps_ret (pe_lst (pa_cons (pv 6) pa_nil))))
  let tA_6 : L2.TS := rdOf hA_6
  have hB_6 : PSs _ _ tA_6 := hA_6
  have hA_7 : PSs (XF_rows_of_thing P w K mg base f cdv A outer s H E) (List.drop 3 (defBody s_rows_of_thing)) _ := (pss_cons (ps_if (PW.pt (pw_or (pt_cmpR op_le (pe_callB call_len_str rfl m_len PySem.boot_len (pa_cons (pv 6) pa_nil)) (pv 1) (nomark _)) (pw_or1 (pt_not (pt_val (pe_call G_can_be_broken hr rfl m_can_be_broken k_can_be_broken b_can_be_broken .nil pass0 (pa_cons (pv 0) pa_nil))))))) hB_6 pss_nil) hB_5)
  let tA_7 : L2.TS := rdOf hA_7
  have hB_7 : PSs _ _ tA_7 := hA_7
  have hA_8 : PSs (XF_rows_of_thing P w K mg base f cdv A outer s H E) (List.drop 2 (defBody s_rows_of_thing)) _ := (pss_cons (ps_setL (i := 6) sc.nd rfl rfl (pe_op op_add_str (pe_op op_add_str (pe_op op_add_str (pv 5) (pv 3)) (pe_call G_flat hr rfl m_flat k_flat b_flat .nil pass0 (pa_cons (pv 0) pa_nil))) (pv 4))) hB_7)
  let tA_8 : L2.TS := rdOf hA_8
  have hB_8 : PSs _ _ tA_8 := hA_8
  have hA_9 : PSs (XF_rows_of_thing P w K mg base f cdv A outer s H E) (List.drop 1 (defBody s_rows_of_thing)) _ := (pss_cons (ps_setL (i := 5) sc.nd rfl rfl (pe_op op_blank pe_str (pv 2))) hB_8)
  let tA_9 : L2.TS := rdOf hA_9
  have hB_9 : PSs _ _ tA_9 := hA_9
  have hA_10 : PSs (XF_rows_of_thing P w K mg base f cdv A outer s H E) (thenA (ixA (defBody s_rows_of_thing) 0)) _ := (pss_one (ps_ret (pe_call G_rows_of_thing hr rfl m_rows_of_thing k_rows_of_thing b_rows_of_thing .nil pass0 (pa_cons (pe_ix ix_tup (pv 0) pe_int (fun _ _ => rfl)) (pa_cons (pv 1) (pa_cons (pv 2) (pa_cons (pe_op op_add_str (pe_op op_add_str (pv 3) (pe_ix ix_tup (pv 0) pe_int (fun _ _ => rfl))) pe_str) (pa_cons (pv 4) pa_nil))))))))
  let tA_10 : L2.TS := rdOf hA_10
  have hB_10 : PSs _ _ tA_10 := hA_10
  have hA_11 : PSs (XF_rows_of_thing P w K mg base f cdv A outer s H E) (defBody s_rows_of_thing) _ := (pss_cons (ps_if (PW.pt (pw_and (pt_not (pt_val (pe_callB call_isinst rfl m_isinstance boot_isinstance' (pa_cons (pv 0) (pa_cons (pe_bltn (v := .ty "str") rfl m_str boot_str' rfl) pa_nil))))) (pw_and1 (pt_cmpR op_eq (pe_ix ix_tup (pv 0) pe_int (fun _ _ => rfl)) pe_str (nomark _))))) hB_10 pss_nil) hB_9)
  let tA_11 : L2.TS := rdOf hA_11
  have hB_11 : PSs _ _ tA_11 := hA_11
  refine ⟨_, hB_11, ?_⟩
  cases t with
  | tag w' t =>
    rw [Rep] at R
    obtain ⟨a, u, rfl, h1, h2⟩ := R
    clear e1 e2 e3 e4 hb
    have hz := hz.out
    rw [Th.size] at hz
    have e5 : (": " : Str).length = 2 := by decide
    refine ⟨_, rfl, _, _, _, _, rfl, .tup h1, kit_tup_str K, _, rfl, ?_⟩
    refine iteT ?_
    refine ⟨_, rfl, a, _, _, _, rfl, rfl, SqT.of h1, rfl, rfl, _, rfl, ?_⟩
    refine iteT ?_
    refine ⟨_, rfl, a, _, _, _, rfl, rfl, SqT.of h1, rfl, _, rfl, _, rfl, _, rfl, _, rfl, a, _, _, _, rfl, rfl, SqT.of h1, rfl, _, _, rfl, rfl, le_size (by omega), _, _, rfl, rfl, le_size (by rw [len_app]; omega), _, rfl,
      t, u, W, i, lead ++ w' ++ ": ", tail, rfl, h2, (by have hd := hd.out; rw [Th.deep] at hd; omega), by rw [len_app, len_app]; omega, fun r H' hr0 s1 hr1 => ?_⟩
    rw [Ly.lay] at q
    exact q r H' hr0 s1 hr1
  | word x =>
    clear e1 e2 e3 e4
    have R0 := R
    rw [Rep] at R
    subst R
    refine ⟨_, rfl, _, _, _, _, rfl, .str x, kit_str_str K, _, rfl, ?_⟩
    refine iteF ?_
    refine iteF ?_
    refine ⟨_, rfl, i, rfl, rfl, by omega, ?_⟩
    refine ⟨_, rfl, _, rfl, _, _, rfl, rfl, le_size (by rw [Ly.pad_len]; omega), _, rfl, .word x, .str x, rfl, R0, hdn.out, hzn.out, fun H1 s1 => ⟨_, _, rfl, rfl, le_size (by rw [len_app, Ly.pad_len]; omega), _, rfl, _, _, rfl, rfl, le_size (by rw [len_app, len_app, Ly.pad_len]; omega), ?_⟩⟩
    have one : ∀ r, H1 r = none → Ly.lay W (.word x) i lead tail = [Ly.flatRow (.word x) i lead tail] → Q (.ref r) (upd H1 r (.lst [.str (Ly.pad i ++ lead ++ Th.flat (.word x) ++ tail)])) := fun r hr0 e => q r _ (s1.free hr0) (s1.trans (same_new hr0 _)) (by rw [upd_same, e]; rfl)
    refine ⟨_, rfl, _, rfl, le_size (by rw [len_app, len_app, len_app, Ly.pad_len]; omega), _, rfl, _, _, rfl, rfl, _, rfl, ?_⟩
    refine ite2 (fun c => ?_) (fun c => ?_)
    · refine iteT ?_
      exact ⟨_, rfl, (by show 1 ≤ sizeLine; decide), fun r hr0 => one r hr0 (by rw [Ly.lay])⟩
    · refine ⟨_, rfl, .word x, .str x, rfl, Rep.mono s1 _ _ R0, rfl, _, rfl, ?_⟩
      refine iteT ?_
      exact ⟨_, rfl, (by show 1 ≤ sizeLine; decide), fun r hr0 => one r hr0 (by rw [Ly.lay])⟩
  | bundle hw ps =>
    clear e3 e4
    have R0 := R
    rw [Rep] at R
    obtain ⟨a, l, us, rfl, h1, h2, h3⟩ := R
    refine ⟨_, rfl, _, _, _, _, rfl, .tup h1, kit_tup_str K, _, rfl, ?_⟩
    refine iteT ?_
    refine ⟨_, rfl, a, _, _, _, rfl, rfl, SqT.of h1, rfl, rfl, _, rfl, ?_⟩
    refine iteF ?_
    refine ⟨_, rfl, i, rfl, rfl, by omega, ?_⟩
    refine ⟨_, rfl, _, rfl, _, _, rfl, rfl, le_size (by rw [Ly.pad_len]; omega), _, rfl, .bundle hw ps, .ref a, rfl, R0, hdn.out, hzn.out, fun H1 s1 => ⟨_, _, rfl, rfl, le_size (by rw [len_app, Ly.pad_len]; omega), _, rfl, _, _, rfl, rfl, le_size (by rw [len_app, len_app, Ly.pad_len]; omega), ?_⟩⟩
    have one : ∀ r, H1 r = none → Ly.lay W (.bundle hw ps) i lead tail = [Ly.flatRow (.bundle hw ps) i lead tail] → Q (.ref r) (upd H1 r (.lst [.str (Ly.pad i ++ lead ++ Th.flat (.bundle hw ps) ++ tail)])) := fun r hr0 e => q r _ (s1.free hr0) (s1.trans (same_new hr0 _)) (by rw [upd_same, e]; rfl)
    refine ⟨_, rfl, _, rfl, le_size (by rw [len_app, len_app, len_app, Ly.pad_len]; omega), _, rfl, _, _, rfl, rfl, _, rfl, ?_⟩
    refine ite2 (fun c => ?_) (fun c => ?_)
    · have c' : ((Ly.flatRow (.bundle hw ps) i lead tail).length : Int) ≤ W := of_decide_eq_true c
      refine iteT ?_
      exact ⟨_, rfl, (by show 1 ≤ sizeLine; decide), fun r hr0 => one r hr0 (by rw [Ly.lay, if_pos (.inr c')])⟩
    have c' : ¬ ((Ly.flatRow (.bundle hw ps) i lead tail).length : Int) ≤ W := of_decide_eq_false (Bool.eq_false_iff.mpr c)
    refine ⟨_, rfl, .bundle hw ps, .ref a, rfl, Rep.mono s1 _ _ R0, rfl, _, rfl, ?_⟩
    by_cases c0 : ps = []
    · have eb : (!canB (.bundle hw ps)) = true := by rw [c0]; rfl
      show if (!canB (.bundle hw ps)) = true then _ else _
      rw [if_pos eb]
      exact ⟨_, rfl, (by show 1 ≤ sizeLine; decide), fun r hr0 => one r hr0 (by rw [Ly.lay, if_pos (.inl c0)])⟩
    have eb : (!canB (.bundle hw ps)) = false := by
      rw [canB]
      cases ps with
      | nil => exact absurd rfl c0
      | cons x y => rfl
    show if (!canB (.bundle hw ps)) = true then _ else _
    rw [if_neg (by rw [eb]; exact Bool.false_ne_true)]
    have hcnt := any_count (Ly.lay_any W (.bundle hw ps) i lead tail)
    have hcle := Ly.cap_le (.bundle hw ps)
    rw [Ly.lay, if_neg (fun z => z.elim c0 c')] at q hcnt
    rw [List.length_cons, List.length_append, List.length_singleton] at hcnt
    have hcn : (Ly.lays W ps (i + 2)).length ≤ 1000000 := by have := hzn.out; omega
    clear hcnt hcle hb
    have hsz := hz.out
    rw [Th.size] at hsz
    refine ⟨_, rfl, a, _, _, _, rfl, rfl, SqT.of (s1 _ _ h1), rfl, rfl, _, rfl, ?_⟩
    refine iteT ?_
    refine ⟨_, rfl, a, _, _, _, rfl, rfl, SqT.of (s1 _ _ h1), rfl, _, rfl, _, rfl, _, _, rfl, rfl, l, us, ps, W, i + 2, rfl, s1 _ _ h2, Reps.mono s1 _ _ h3, (by have hd := hd.out; rw [Th.deep] at hd; omega), by omega, fun rw H2 hrw s2 hwi => ?_⟩
    have sH := s1.trans s2
    refine ⟨_, rfl, _, rfl, _, _, rfl, rfl, le_size (by rw [Ly.pad_len]; omega), _, rfl, a, _, _, _, rfl, rfl, SqT.of (sH _ _ h1), rfl, _, _, rfl, rfl, le_size (by rw [len_app, Ly.pad_len]; omega), _, _, rfl, rfl, le_size (by rw [len_app, len_app, Ly.pad_len]; omega), (by show 1 ≤ sizeLine; decide), fun p1 hp1 => ?_⟩
    have s3 := same_new hp1 (.lst [.str (Ly.pad i ++ lead ++ hw ++ "(")])
    refine ⟨_, rfl, p1, rw, _, _, rfl, rfl, upd_same, s3 _ _ hwi, ?_, fun p2 hp2 => ?_⟩
    · rw [List.length_singleton, List.length_map]
      exact le_size (by omega)
    have s4 := same_new hp2 (.lst ([.str (Ly.pad i ++ lead ++ hw ++ "(")] ++ (Ly.lays W ps (i + 2)).map V.str))
    refine ⟨_, rfl, _, _, rfl, rfl, le_size (by rw [Ly.pad_len]; omega), _, rfl, _, _, rfl, rfl, le_size (by rw [len_app, Ly.pad_len]; omega), (by show 1 ≤ sizeLine; decide), fun p3 hp3 => ?_⟩
    have s5 := same_new hp3 (.lst [.str (Ly.pad i ++ ")" ++ tail)])
    refine ⟨p2, p3, _, _, rfl, rfl, s5 _ _ upd_same, upd_same, ?_, fun p4 hp4 => ?_⟩
    · rw [List.length_append, List.length_singleton, List.length_singleton, List.length_map]
      exact le_size (by omega)
    have s345 := s3.trans (s4.trans s5)
    refine q p4 _ (sH.free (s345.free hp4)) (sH.trans (s345.trans (same_new hp4 _))) ?_
    rw [upd_same, List.map_cons, List.map_append]
    rfl
  | run ws =>
    clear e1 e2
    have R0 := R
    rw [Rep] at R
    obtain ⟨a, l, rfl, h1, h2⟩ := R
    refine ⟨_, rfl, _, _, _, _, rfl, .tup h1, kit_tup_str K, _, rfl, ?_⟩
    refine iteT ?_
    refine ⟨_, rfl, a, _, _, _, rfl, rfl, SqT.of h1, rfl, rfl, _, rfl, ?_⟩
    refine iteF ?_
    refine ⟨_, rfl, i, rfl, rfl, by omega, ?_⟩
    refine ⟨_, rfl, _, rfl, _, _, rfl, rfl, le_size (by rw [Ly.pad_len]; omega), _, rfl, .run ws, .ref a, rfl, R0, hdn.out, hzn.out, fun H1 s1 => ⟨_, _, rfl, rfl, le_size (by rw [len_app, Ly.pad_len]; omega), _, rfl, _, _, rfl, rfl, le_size (by rw [len_app, len_app, Ly.pad_len]; omega), ?_⟩⟩
    have one : ∀ r, H1 r = none → Ly.lay W (.run ws) i lead tail = [Ly.flatRow (.run ws) i lead tail] → Q (.ref r) (upd H1 r (.lst [.str (Ly.pad i ++ lead ++ Th.flat (.run ws) ++ tail)])) := fun r hr0 e => q r _ (s1.free hr0) (s1.trans (same_new hr0 _)) (by rw [upd_same, e]; rfl)
    refine ⟨_, rfl, _, rfl, le_size (by rw [len_app, len_app, len_app, Ly.pad_len]; omega), _, rfl, _, _, rfl, rfl, _, rfl, ?_⟩
    refine ite2 (fun c => ?_) (fun c => ?_)
    · have c' : ((Ly.flatRow (.run ws) i lead tail).length : Int) ≤ W := of_decide_eq_true c
      refine iteT ?_
      exact ⟨_, rfl, (by show 1 ≤ sizeLine; decide), fun r hr0 => one r hr0 (by rw [Ly.lay, if_pos (.inr c')])⟩
    have c' : ¬ ((Ly.flatRow (.run ws) i lead tail).length : Int) ≤ W := of_decide_eq_false (Bool.eq_false_iff.mpr c)
    refine ⟨_, rfl, .run ws, .ref a, rfl, Rep.mono s1 _ _ R0, rfl, _, rfl, ?_⟩
    by_cases c0 : ws = []
    · have eb : (!canB (.run ws)) = true := by rw [c0]; rfl
      show if (!canB (.run ws)) = true then _ else _
      rw [if_pos eb]
      exact ⟨_, rfl, (by show 1 ≤ sizeLine; decide), fun r hr0 => one r hr0 (by rw [Ly.lay, if_pos (.inl c0)])⟩
    have eb : (!canB (.run ws)) = false := by
      rw [canB]
      cases ws with
      | nil => exact absurd rfl c0
      | cons x y => rfl
    show if (!canB (.run ws)) = true then _ else _
    rw [if_neg (by rw [eb]; exact Bool.false_ne_true)]
    have hcnt := any_count (Ly.lay_any W (.run ws) i lead tail)
    have hcle := Ly.cap_le (.run ws)
    rw [Ly.lay, if_neg (fun z => z.elim c0 c')] at q hcnt
    rw [List.length_cons, List.length_append, List.length_singleton] at hcnt
    have hcnt' : ((Fm.filledM szS ws (Ly.room W i)).map (Ly.wordRow i)).length + 1 + 1 ≤ Ly.cap (.run ws) := hcnt
    have hcn : ((Fm.filledM szS ws (Ly.room W i)).map (Ly.wordRow i)).length ≤ 1000000 := by have := hzn.out; omega
    clear hcnt' hcnt hcle hb
    have hsz := hz.out
    rw [Th.size] at hsz
    refine ⟨_, rfl, a, _, _, _, rfl, rfl, SqT.of (s1 _ _ h1), rfl, rfl, _, rfl, ?_⟩
    refine iteF ?_
    refine ⟨_, rfl, a, _, _, _, rfl, rfl, SqT.of (s1 _ _ h1), rfl, _, rfl, _, rfl, _, _, rfl, rfl, l, ws, W, i, rfl, s1 _ _ h2, by omega, fun rw H2 hrw s2 hwi => ?_⟩
    have sH := s1.trans s2
    refine ⟨_, rfl, _, rfl, _, _, rfl, rfl, le_size (by rw [Ly.pad_len]; omega), _, _, rfl, rfl, le_size (by rw [len_app, Ly.pad_len]; omega), (by show 1 ≤ sizeLine; decide), fun p1 hp1 => ?_⟩
    have s3 := same_new hp1 (.lst [.str (Ly.pad i ++ lead ++ "[")])
    refine ⟨_, rfl, p1, rw, _, _, rfl, rfl, upd_same, s3 _ _ hwi, ?_, fun p2 hp2 => ?_⟩
    · rw [List.length_singleton, List.length_map]
      exact le_size (by omega)
    have s4 := same_new hp2 (.lst ([.str (Ly.pad i ++ lead ++ "[")] ++ ((Fm.filledM szS ws (Ly.room W i)).map (Ly.wordRow i)).map V.str))
    refine ⟨_, rfl, _, _, rfl, rfl, le_size (by rw [Ly.pad_len]; omega), _, rfl, _, _, rfl, rfl, le_size (by rw [len_app, Ly.pad_len]; omega), (by show 1 ≤ sizeLine; decide), fun p3 hp3 => ?_⟩
    have s5 := same_new hp3 (.lst [.str (Ly.pad i ++ "]" ++ tail)])
    refine ⟨p2, p3, _, _, rfl, rfl, s5 _ _ upd_same, upd_same, ?_, fun p4 hp4 => ?_⟩
    · rw [List.length_append, List.length_singleton, List.length_singleton, List.length_map]
      exact le_size (by omega)
    have s345 := s3.trans (s4.trans s5)
    refine q p4 _ (sH.free (s345.free hp4)) (sH.trans (s345.trans (same_new hp4 _))) ?_
    rw [upd_same, List.map_cons, List.map_append]
    rfl
theorem ok_rows {f g h k j fl : Addr} {fd gd hd kd jd ld : FuncData} (TR : At K mg "rows_of_thing" s_rows_of_thing ["thing", "width", "indent", "lead", "tail"] f fd) (TL : At K mg "flat" s_flat ["thing"] g gd)
    (TC : At K mg "can_be_broken" s_can_be_broken ["thing"] h hd) (TP : At K mg "rows_of_parts" s_rows_of_parts ["parts", "width", "indent"] k kd) (TW : At K mg "rows_of_words" s_rows_of_words ["words", "width", "indent"] j jd) (TF : At K mg "filled" s_filled ["words", "room"] fl ld) (B : Bn mg)
    (m_enumerate : mg "enumerate" = none) {tk : Tok} (g_STEP : mg "STEP" = some (.int 2 tk)) : ∀ d, FnOk P w K mg base CX0 (2 * d + 3) f fd ["thing", "width", "indent", "lead", "tail"] (spRows d)
  | 0 => by
    have no : ∀ vs H Q E, ¬ spRows 0 vs H Q E := fun vs H Q E h => by
      obtain ⟨t, v, W, i, lead, tail, _, _, hd, _⟩ := h
      omega
    exact ⟨fun vs H Q E h => absurd h (no vs H Q E), fun A outer s H args us vs Q E _ _ _ _ h => absurd h (no vs H Q E)⟩
  | d + 1 => by
    have G := ok_rows TR TL TC TP TW TF B m_enumerate g_STEP d
    exact ok_rows1 (n := 2 * d + 4) TR TL TC TP TW TF B g_STEP (by omega) (G.mono (by omega)) (ok_parts TP TR B m_enumerate G)
theorem ok_laid {m : Addr} {md : FuncData} {f g h k j fl : Addr} {fd gd hd kd jd ld : FuncData} (TD : At K mg "laid" s_laid ["thing", "width"] m md) (TR : At K mg "rows_of_thing" s_rows_of_thing ["thing", "width", "indent", "lead", "tail"] f fd) (TL : At K mg "flat" s_flat ["thing"] g gd)
    (TC : At K mg "can_be_broken" s_can_be_broken ["thing"] h hd) (TP : At K mg "rows_of_parts" s_rows_of_parts ["parts", "width", "indent"] k kd) (TW : At K mg "rows_of_words" s_rows_of_words ["words", "width", "indent"] j jd) (TF : At K mg "filled" s_filled ["words", "room"] fl ld) (B : Bn mg)
    (m_enumerate : mg "enumerate" = none) {tk : Tok} (g_STEP : mg "STEP" = some (.int 2 tk)) (d : Nat) : FnOk P w K mg base CX0 (2 * d + 4) m md ["thing", "width"] (spLaid d) := by
  have sc := sc_laid
  refine TD.F.ok sc (fun vs H Q E h => ?_) (fun cdv A outer s H vs Q E hr h => ?_)
  · obtain ⟨t, v, W, rfl, _⟩ := h; rfl
  obtain ⟨t, v, W, rfl, R, hdp, hz, q⟩ := h
  have G_rows_of_thing := ok_rows (P := P) (w := w) (base := base) TR TL TC TP TW TF B m_enumerate g_STEP d
  have m_rows_of_thing := TR.m
  have k_rows_of_thing := TR.F.kp
  have b_rows_of_thing := TR.b
  have e0 : ("" : Str).length = 0 := by decide
  refine ⟨_, ((pss_one (ps_ret (pe_call G_rows_of_thing hr rfl m_rows_of_thing k_rows_of_thing b_rows_of_thing .nil pass0 (pa_cons (pv 0) (pa_cons (pv 1) (pa_cons pe_int (pa_cons pe_str (pa_cons pe_str pa_nil))))))))), ?_⟩
  exact ⟨_, rfl, _, rfl, t, v, W, 0, "", "", rfl, R, hdp, by rw [e0]; omega, fun r H' hr0 s1 hr1 => q r H' hr0 s1 hr1⟩
end
noncomputable def signs : Str := "abcdefghijklmnopqrstuvwxyz0123456789"
theorem signs_len : signs.cps.toList.length = 36 := by decide +kernel
noncomputable def wSize (n : Int) : Int := if n % 17 = 5 then 42 else 1 + n / 10 % 7
noncomputable def wSign (n : Int) (k : Nat) : Nat := signs.cps.toList.getD ((n + (0 + (k : Int)) * (1 + n / 70 % 5)) % 36).toNat 0
noncomputable def wPart (n : Int) : Nat → Str
  | 0 => ""
  | k + 1 => wPart n k ++ ⟨#[wSign n k]⟩
noncomputable def wordBy (n : Int) : Str := wPart n (wSize n).toNat
theorem wPart_len (n : Int) : ∀ k, (wPart n k).length = k
  | 0 => rfl
  | k + 1 => by
    show (wPart n k ++ ⟨#[wSign n k]⟩).length = k + 1
    rw [len_app, wPart_len n k]
    rfl
theorem wSize_le (n : Int) : 1 ≤ wSize n ∧ wSize n ≤ 42 := by
  unfold wSize
  split <;> omega
theorem wordBy_len (n : Int) : (wordBy n).length ≤ 42 := by
  have := wSize_le n
  rw [wordBy, wPart_len]
  omega
inductive SpWordI  (vs : List V) (H : Hp) (Q : VK) (a_3 : XK) : Prop
  | mk (n : Int) (h_0 : vs = [.int n]) (h_1 : ∀ H', Same H H' → Q (.str (wordBy n)) H') : SpWordI  vs H Q a_3
noncomputable def spWord  : Sp := fun vs H Q a_3 => SpWordI  vs H Q a_3
section
variable {P : Program} {w : World} {K : PySem.W.Frag} {mg : Str → Option Value} {base : Heap}
theorem ok_word {n : Nat} {f : Addr} {fd : FuncData} (T : At K mg "_law_word_by" s__law_word_by ["_law_salt"] f fd) (B : Bn mg) : FnOk P w K mg base CX0 (n + 1) f fd ["_law_salt"] spWord := by
  have sc := sc__law_word_by
  refine T.F.ok sc (fun vs H Q E h => ?_) (fun cdv A outer s H vs Q E hr h => ?_)
  · obtain ⟨m, rfl, _⟩ := h; rfl
  obtain ⟨m, rfl, q⟩ := h
  have m_int := B.int
  have m_range := B.range
  refine ⟨_, ((pss_cons (ps_setL (i := 1) sc.nd rfl rfl pe_str)
    (pss_cons (ps_setL (i := 2) sc.nd rfl rfl (pe_ix ix_list (pe_lst (pa_cons (pe_op op_add pe_int (pe_op op_mod (pe_op op_fdiv (pv 0) pe_int) pe_int)) (pa_cons pe_int pa_nil))) (pe_callTy call_int1 rfl m_int boot_int' (pa_cons (pe_cmpR op_eq (pe_op op_mod (pv 0) pe_int) pe_int (nomark _)) pa_nil)) (fun _ _ => rfl)))
    (pss_cons (ps_setL (i := 3) sc.nd rfl rfl pe_str)
    (pss_cons (ps_for PassesOwn.never rfl (pi_range1 rfl m_range (pa_cons (pv 2) pa_nil)) (pg_nameL (i := 4) sc.nd rfl rfl)
      (pss_one (ps_setL (i := 3) sc.nd rfl rfl (pe_op op_add_str (pv 3) (pe_ix ix_str (pv 1) (pe_op op_mod (pe_op op_add (pv 0) (pe_op op_mul (pv 4) (pe_op op_add pe_int (pe_op op_mod (pe_op op_fdiv (pv 0) pe_int) pe_int)))) pe_int) (fun _ _ => rfl))))))
    (pss_one (ps_ret (pv 3)))))))), ?_⟩
  refine ⟨_, rfl, _, _, rfl, rfl, ⟨by decide, by decide⟩, _, _, rfl, rfl, (by show (0 : Int) < 7; decide), _, _, rfl, rfl, (by show 2 ≤ sizeLine; decide), fun p hp => ?_⟩
  refine ⟨_, rfl, _, _, rfl, rfl, (by show (0 : Int) < 17; decide), rfl, .inr ⟨_, rfl, ?_⟩⟩
  refine ⟨p, _, _, .int (wSize m), rfl, rfl, .inl (.inl upd_same), ?_, ?_⟩
  · unfold wSize
    by_cases c : m % 17 = 5
    · rw [if_pos c, if_pos (decide_eq_true (show V.int (m % 17) = V.int 5 by rw [c]))]
      rfl
    · rw [if_neg c, if_neg (by intro z; exact c (V.int.inj (of_decide_eq_true z)))]
      rfl
  have hz := wSize_le m
  refine ⟨_, rfl, wSize m, rfl, by omega, by omega, ?_⟩
  refine for_range (fun i σ H' => H' = upd H p (.lst [.int (1 + m / 10 % 7), .int 42]) ∧ ∃ kv, σ = [some (.int m), some (.str signs), some (.int (wSize m)), some (.str (wPart m i)), kv]) ⟨rfl, none, rfl⟩ ?_ ?_
  · rintro i σ H' hi ⟨rfl, kv, rfl⟩
    have hi' : (i : Int) < 42 := by omega
    refine ⟨_, rfl, _, rfl, _, rfl, _, rfl, _, rfl, _, _, rfl, rfl, ⟨by decide, by decide⟩, _, _, rfl, rfl, (by show (0 : Int) < 5; decide), _, _, rfl, rfl, _, _, rfl, rfl, .inl ⟨by omega, by omega⟩, _, _, rfl, rfl, _, _, rfl, rfl, (by show (0 : Int) < 36; decide), ?_⟩
    refine ⟨signs, _, wSign m i, rfl, rfl, (by decide +kernel), ?_, _, _, rfl, rfl, ?_, ?_⟩
    · have h0 : 0 ≤ (m + (0 + (i : Int)) * (1 + m / 70 % 5)) % 36 := Int.emod_nonneg _ (by decide)
      have h1 : (m + (0 + (i : Int)) * (1 + m / 70 % 5)) % 36 < 36 := Int.emod_lt_of_pos _ (by decide)
      have e : (m + (0 + (i : Int)) * (1 + m / 70 % 5)) % 36 = ((((m + (0 + (i : Int)) * (1 + m / 70 % 5)) % 36).toNat : Nat) : Int) := by omega
      rw [e]
      refine atI_nat ?_
      have hk : ((m + (0 + (i : Int)) * (1 + m / 70 % 5)) % 36).toNat < signs.cps.toList.length := by rw [signs_len]; omega
      rw [List.getElem?_eq_getElem hk]
      show _ = some (signs.cps.toList.getD _ 0)
      rw [List.getD_eq_getElem?_getD, List.getElem?_eq_getElem hk]
      rfl
    · rw [wPart_len]
      show i + 1 ≤ sizeLine
      exact le_size (by omega)
    · exact ⟨rfl, _, rfl⟩
  · rintro σ H' ⟨rfl, kv, rfl⟩
    exact ⟨_, rfl, q _ (same_new hp _)⟩
end
noncomputable def wordyS (c : Nat) : Bool := decide (97 ≤ c ∧ c ≤ 122) || decide (48 ≤ c ∧ c ≤ 57)
theorem signs_wordy : ∀ c ∈ signs.cps.toList, wordyS c = true := by decide +kernel
theorem wSign_mem (n : Int) (k : Nat) : wSign n k ∈ signs.cps.toList := by
  have h0 : 0 ≤ (n + (0 + (k : Int)) * (1 + n / 70 % 5)) % 36 := Int.emod_nonneg _ (by decide)
  have h1 : (n + (0 + (k : Int)) * (1 + n / 70 % 5)) % 36 < 36 := Int.emod_lt_of_pos _ (by decide)
  have hk : ((n + (0 + (k : Int)) * (1 + n / 70 % 5)) % 36).toNat < signs.cps.toList.length := by rw [signs_len]; omega
  unfold wSign
  rw [List.getD_eq_getElem?_getD, List.getElem?_eq_getElem hk]
  exact List.getElem_mem _
theorem wPart_signs (n : Int) : ∀ k, ∀ c ∈ (wPart n k).cps.toList, wordyS c = true
  | 0, c, h => by cases h
  | k + 1, c, h => by
    have h' : c ∈ ((wPart n k).cps ++ #[wSign n k]).toList := h
    rw [Array.toList_append] at h'
    rcases List.mem_append.mp h' with z | z
    · exact wPart_signs n k c z
    · have e : c = wSign n k := by simpa using z
      rw [e]
      exact signs_wordy _ (wSign_mem n k)
noncomputable def Wd (x : Str) : Prop := x.cps.toList ≠ [] ∧ ∀ c ∈ x.cps.toList, wordyS c = true
theorem wordBy_wd (n : Int) : Wd (wordBy n) := by
  refine ⟨fun z => ?_, wPart_signs n _⟩
  have h1 := wPart_len n (wSize n).toNat
  have h2 := wSize_le n
  have h3 : (wordBy n).length = (wordBy n).cps.toList.length := by rw [Array.length_toList]; rfl
  rw [z] at h3
  have h4 : (wordBy n).length = (wSize n).toNat := h1
  rw [h3] at h4
  simp at h4
  omega
theorem top_wd : Wd "top" := ⟨by decide +kernel, by decide +kernel⟩
inductive SpAtI (K : PySem.W.Frag) (vs : List V) (H : Hp) (Q : VK) (a_3 : XK) : Prop
  | mk (a : Addr) (ns : List Int) (k : Nat) (h_0 : vs = [.ref a, .int k]) (h_1 : SqL K H a (ns.map V.int)) (h_2 : Q (.int (ns.getD k 0)) H) : SpAtI K vs H Q a_3
noncomputable def spAt (K : PySem.W.Frag) : Sp := fun vs H Q a_3 => SpAtI K vs H Q a_3
section
variable {P : Program} {w : World} {K : PySem.W.Frag} {mg : Str → Option Value} {base : Heap}
theorem ok_at {n : Nat} {f : Addr} {fd : FuncData} (T : At K mg "_law_at" s__law_at ["_law_script", "_law_k"] f fd) (B : Bn mg) : FnOk P w K mg base CX0 (n + 1) f fd ["_law_script", "_law_k"] (spAt K) := by
  have sc := sc__law_at
  refine T.F.ok sc (fun vs H Q E h => ?_) (fun cdv A outer s H vs Q E hr h => ?_)
  · obtain ⟨a, ns, k, rfl, _⟩ := h; rfl
  obtain ⟨a, ns, k, rfl, hS, q⟩ := h
  have m_len := B.len
  refine ⟨_, ((pss_cons (ps_if (pt_cmpR op_lt (pv 1) (pe_callB call_len_seq rfl m_len PySem.boot_len (pa_cons (pv 0) pa_nil)) (nomark _))
      (pss_one (ps_ret (pe_ix ix_list (pv 0) (pv 1) (fun _ _ => rfl))))
      pss_nil)
    (pss_one (ps_ret pe_int)))), ?_⟩
  refine ⟨_, rfl, _, rfl, a, _, rfl, .inl hS, _, _, rfl, rfl, _, rfl, ?_⟩
  refine ite2 (fun c => ?_) (fun c => ?_)
  · have c' : (k : Int) < ((ns.map V.int).length : Nat) := of_decide_eq_true c
    rw [List.length_map] at c'
    have hk : k < ns.length := by omega
    refine ⟨_, rfl, _, rfl, a, _, _, _, rfl, rfl, hS, atI_nat (j := k) (v := .int (ns.getD k 0)) ?_, ?_⟩
    · rw [List.getElem?_map, List.getElem?_eq_getElem hk, List.getD_eq_getElem?_getD, List.getElem?_eq_getElem hk]
      rfl
    · exact q
  · have c' : ¬ (k : Int) < ((ns.map V.int).length : Nat) := of_decide_eq_false (Bool.eq_false_iff.mpr c)
    rw [List.length_map] at c'
    have e : ns.getD k 0 = 0 := by
      rw [List.getD_eq_getElem?_getD, List.getElem?_eq_none (by omega)]
      rfl
    rw [e] at q
    exact q
end
inductive SpTextsI  (vs : List V) (H : Hp) (Q : VK) (a_3 : XK) : Prop
  | mk (a : Addr) (xs : List Str) (h_0 : vs = [.ref a]) (h_1 : H a = some (.lst (xs.map V.str))) (h_2 : Q (.bl true) H) : SpTextsI  vs H Q a_3
noncomputable def spTexts  : Sp := fun vs H Q a_3 => SpTextsI  vs H Q a_3
section
variable {P : Program} {w : World} {K : PySem.W.Frag} {mg : Str → Option Value} {base : Heap}
theorem ok_texts {n : Nat} {f : Addr} {fd : FuncData} (T : At K mg "_law_texts" s__law_texts ["_law_found"] f fd) (B : Bn mg) : FnOk P w K mg base CX0 (n + 1) f fd ["_law_found"] spTexts := by
  have sc := sc__law_texts
  refine T.F.ok sc (fun vs H Q E h => ?_) (fun cdv A outer s H vs Q E hr h => ?_)
  · obtain ⟨a, xs, rfl, _⟩ := h; rfl
  obtain ⟨a, xs, rfl, hS, q⟩ := h
  have m_isinstance := B.isinstance
  have m_list := B.list
  have m_str := B.str
  refine ⟨_, ((pss_cons (ps_if (pt_not (pt_val (pe_callB call_isinst rfl m_isinstance boot_isinstance' (pa_cons (pv 0) (pa_cons (pe_bltn (v := .ty "list") rfl m_list boot_list' rfl) pa_nil)))))
      (pss_one (ps_ret pe_bl))
      pss_nil)
    (pss_cons (ps_for PassesOwn.never rfl (pi_list (pv 0)) (pg_nameL (i := 1) sc.nd rfl rfl)
      (pss_one (ps_if (pt_not (pt_val (pe_callB call_isinst rfl m_isinstance boot_isinstance' (pa_cons (pv 1) (pa_cons (pe_bltn (v := .ty "str") rfl m_str boot_str' rfl) pa_nil)))))
        (pss_one (ps_ret pe_bl))
        pss_nil)))
    (pss_one (ps_ret pe_bl))))), ?_⟩
  refine ⟨_, rfl, _, _, _, _, rfl, .lst hS, kit_list_list K, _, rfl, ?_⟩
  refine iteF ?_
  refine ⟨_, rfl, a, rfl, ⟨_, SqL.of hS⟩, for_list (K := K) (a := a) (xs := xs.map V.str) (fun i σ H' => H' = H ∧ ∃ v, σ = [some (.ref a), v]) ⟨rfl, _, rfl⟩ ?_ ?_ ?_⟩
  · rintro i σ H' _ ⟨rfl, _⟩
    exact SqL.of hS
  · rintro i x σ H' hx ⟨rfl, v, rfl⟩
    obtain ⟨y, rfl⟩ : ∃ y, x = V.str y := by
      rw [List.getElem?_map] at hx
      cases e : xs[i]? with
      | none => rw [e] at hx; cases hx
      | some y => rw [e] at hx; exact ⟨y, (Option.some.inj hx).symm⟩
    refine ⟨_, rfl, _, _, _, _, rfl, .str y, kit_str_str K, _, rfl, ?_⟩
    refine iteF ?_
    exact ⟨rfl, _, rfl⟩
  · rintro σ H' ⟨rfl, v, rfl⟩
    exact q
end
theorem last_at {α : Type} (us : List α) (x : α) : (us ++ [x])[(us ++ [x]).length - 1]? = some x := by simp
noncomputable def mixAt (ns : List Int) (k : Nat) : Int := (ns.getD k 0 + 7919 * (0 + (k : Int))) * 48271 % 1000003
noncomputable def mixM (ns : List Int) : List Int := (List.range ns.length).map (mixAt ns)
inductive SpMixedI (K : PySem.W.Frag) (vs : List V) (H : Hp) (Q : VK) (a_3 : XK) : Prop
  | mk (a : Addr) (ns : List Int) (h_0 : vs = [.ref a]) (h_1 : SqL K H a (ns.map V.int)) (h_2 : ns.length ≤ 1000) (h_3 : ∀ (p : Addr) (H' : Hp), Same H H' → H' p = some (.lst ((mixM ns).map V.int)) → Q (.ref p) H') : SpMixedI K vs H Q a_3
noncomputable def spMixed (K : PySem.W.Frag) : Sp := fun vs H Q a_3 => SpMixedI K vs H Q a_3
section
variable {P : Program} {w : World} {K : PySem.W.Frag} {mg : Str → Option Value} {base : Heap}
theorem ok_mixed {n : Nat} {f : Addr} {fd : FuncData} (T : At K mg "_law_mixed" s__law_mixed ["_law_script"] f fd) (B : Bn mg) : FnOk P w K mg base CX0 (n + 1) f fd ["_law_script"] (spMixed K) := by
  have sc := sc__law_mixed
  refine T.F.ok sc (fun vs H Q E h => ?_) (fun cdv A outer s H vs Q E hr h => ?_)
  · obtain ⟨a, ns, rfl, _⟩ := h; rfl
  obtain ⟨a, ns, rfl, hS, hl, q⟩ := h
  have m_len := B.len
  have m_range := B.range
  refine ⟨_, ((pss_one (ps_ret (pe_comp rfl (pi_range1 rfl m_range (pa_cons (pe_callB call_len_seq rfl m_len PySem.boot_len (pa_cons (pv 0) pa_nil)) pa_nil)) (CompOk.of (cl := [("_law_script", s.heap.objs.size + 1)]) (fr := [("_law_script", 0)]) rfl (by decide +kernel) rfl (by decide +kernel) (by decide +kernel) (fun _ _ h => h) (fun p hp e => ⟨_, by rw [(by decide +kernel : ∀ p ∈ _, p.2 = NameKind.free → p.1 = ("_law_script" : Str)) p hp e]; rfl⟩) (fun p hp => by cases List.mem_singleton.mp hp; exact ⟨rfl, rfl, Or.inl rfl⟩) (by decide +kernel)) (fun _ _ _ => (pe_op op_mod (pe_op op_mul (pe_op op_add (pe_ix (ix_listK (K := K) rfl) (pv 1) (pv 0) (fun _ _ => rfl)) (pe_op op_mul pe_int (pv 0))) pe_int) pe_int)))))), ?_⟩
  refine ⟨_, rfl, a, _, rfl, .inl hS, _, rfl, by rw [List.length_map]; omega, by rw [List.length_map]; omega, fun D hD => ?_⟩
  have el : (((ns.map V.int).length : Nat) : Int).toNat = ns.length := by rw [List.length_map]; omega
  rw [el]
  clear el
  refine comp_range (fun i => V.int (mixAt ns i)) hD (le_size (by omega)) ?_ ?_
  · intro i H' R hi s1 k
    have hx : atI (ns.map V.int) (0 + (i : Int)) = some (.int (ns.getD i 0)) := by
      rw [Int.zero_add]
      refine atI_nat ?_
      rw [List.getElem?_map, List.getElem?_eq_getElem hi, List.getD_eq_getElem?_getD, List.getElem?_eq_getElem hi]
      rfl
    refine ⟨_, rfl, _, rfl, a, _, _, _, rfl, rfl, s1.seq hS, hx, _, rfl, _, _, rfl, rfl, .inl ⟨by decide, by decide⟩, _, _, rfl, rfl, _, _, rfl, rfl, .inr ⟨by decide, by decide⟩, _, _, rfl, rfl, (by show (0 : Int) < 1000003; decide), ?_⟩
    exact k H' (Same.refl H')
  · intro H' s1 hD'
    refine q D H' s1 ?_
    rw [hD', mixM, List.map_map]
    rfl
end
section
open Rp
open Th (T)
variable {P : Program} {w : World} {K : PySem.W.Frag} {mg : Str → Option Value} {base : Heap}
inductive SpTagsI  (vs : List V) (H : Hp) (Q : VK) (a_3 : XK) : Prop
  | mk (t : T) (v : V) (h_0 : vs = [v]) (h_1 : Rep H t v) (h_2 : Q (.int (Th.tags t)) H) : SpTagsI  vs H Q a_3
noncomputable def spTags  : Sp := fun vs H Q a_3 => SpTagsI  vs H Q a_3
theorem ok_tags {n : Nat} {f : Addr} {fd : FuncData} (TT : At K mg "_law_tags" s__law_tags ["_law_thing"] f fd) (B : Bn mg) : FnOk P w K mg base CX0 (n + 1) f fd ["_law_thing"] spTags := by
  have sc := sc__law_tags
  refine TT.F.ok sc (fun vs H Q E h => ?_) (fun cdv A outer s H vs Q E hr h => ?_)
  · obtain ⟨t, v, rfl, _⟩ := h; rfl
  obtain ⟨t, v, rfl, R, q⟩ := h
  have m_isinstance := B.isinstance
  have m_tuple := B.tuple
  have hA_1 : PSs (XF__law_tags P w K mg base f cdv A outer s H E) (List.drop 3 (defBody s__law_tags)) _ := (pss_one (ps_ret (pv 1)))
  let tA_1 : L2.TS := rdOf hA_1
  have hB_1 : PSs _ _ tA_1 := hA_1
  have hA_2 : PSs (XF__law_tags P w K mg base f cdv A outer s H E) (List.drop 1 (thenA (ixA (defBody s__law_tags) 2))) _ := (pss_one (ps_setL (i := 1) sc.nd rfl rfl (pe_op op_add (pv 1) pe_int)))
  let tA_2 : L2.TS := rdOf hA_2
  have hB_2 : PSs _ _ tA_2 := hA_2
  have hA_3 : PSs (XF__law_tags P w K mg base f cdv A outer s H E) (thenA (ixA (defBody s__law_tags) 2)) _ := (pss_cons (ps_setL (i := 2) sc.nd rfl rfl (pe_ix ix_tup (pv 2) pe_int (fun _ _ => rfl))) hB_2)
  let tA_3 : L2.TS := rdOf hA_3
  have hB_3 : PSs _ _ tA_3 := hA_3
  have hA_4 : PSs (XF__law_tags P w K mg base f cdv A outer s H E) (List.drop 2 (defBody s__law_tags)) _ := (pss_cons (ps_while PassesOwn.never (PW.pt (pw_and (pt_val (pe_callB call_isinst rfl m_isinstance boot_isinstance' (pa_cons (pv 2) (pa_cons (pe_bltn (v := .ty "tuple") rfl m_tuple boot_tuple' rfl) pa_nil)))) (pw_and1 (pt_cmpR op_eq (pe_ix ix_tup (pv 2) pe_int (fun _ _ => rfl)) pe_str (nomark _))))) hB_3) hB_1)
  let tA_4 : L2.TS := rdOf hA_4
  have hB_4 : PSs _ _ tA_4 := hA_4
  have hA_5 : PSs (XF__law_tags P w K mg base f cdv A outer s H E) (List.drop 1 (defBody s__law_tags)) _ := (pss_cons (ps_setL (i := 2) sc.nd rfl rfl (pv 0)) hB_4)
  let tA_5 : L2.TS := rdOf hA_5
  have hB_5 : PSs _ _ tA_5 := hA_5
  have hA_6 : PSs (XF__law_tags P w K mg base f cdv A outer s H E) (defBody s__law_tags) _ := (pss_cons (ps_setL (i := 1) sc.nd rfl rfl pe_int) hB_5)
  let tA_6 : L2.TS := rdOf hA_6
  have hB_6 : PSs _ _ tA_6 := hA_6
  refine ⟨_, hB_6, ?_⟩
  refine ⟨_, rfl, ?_⟩
  refine ⟨fun m σ H' => H = H' ∧ ∃ (t' : T) (u : V) (d : Int), σ = [some v, some (.int d), some u] ∧ Rep H t' u ∧ d + (Th.tags t' : Int) = (Th.tags t : Int) ∧ m = Th.tags t', ⟨_, rfl, t, v, 0, rfl, R, by omega, rfl⟩, ?_⟩
  rintro m σ H' ⟨rfl, t', u, d, rfl, R', hd, rfl⟩
  have fin : Th.tags t' = 0 → Q (.int d) H := fun z => by
    have e : d = (Th.tags t : Int) := by omega
    rw [e]; exact q
  cases t' with
  | word x =>
    rw [Rep] at R'
    subst R'
    refine ⟨_, rfl, _, _, _, _, rfl, .str x, kit_str_tup K, _, rfl, ?_⟩
    refine iteF ?_
    refine iteF ?_
    exact ⟨_, rfl, fin rfl⟩
  | bundle hd' ps =>
    rw [Rep] at R'
    obtain ⟨a, l, us, rfl, h1, h2, h3⟩ := R'
    refine ⟨_, rfl, _, _, _, _, rfl, .tup h1, kit_tup_tup K, _, rfl, ?_⟩
    refine iteT ?_
    refine ⟨_, rfl, a, _, _, _, rfl, rfl, SqT.of h1, rfl, rfl, _, rfl, ?_⟩
    refine iteF ?_
    exact ⟨_, rfl, fin rfl⟩
  | run ws =>
    rw [Rep] at R'
    obtain ⟨a, l, rfl, h1, h2⟩ := R'
    refine ⟨_, rfl, _, _, _, _, rfl, .tup h1, kit_tup_tup K, _, rfl, ?_⟩
    refine iteT ?_
    refine ⟨_, rfl, a, _, _, _, rfl, rfl, SqT.of h1, rfl, rfl, _, rfl, ?_⟩
    refine iteF ?_
    exact ⟨_, rfl, fin rfl⟩
  | tag w' t1 =>
    rw [Rep] at R'
    obtain ⟨a, u1, rfl, h1, h2⟩ := R'
    rw [Th.tags] at hd
    refine ⟨_, rfl, _, _, _, _, rfl, .tup h1, kit_tup_tup K, _, rfl, ?_⟩
    refine iteT ?_
    refine ⟨_, rfl, a, _, _, _, rfl, rfl, SqT.of h1, rfl, rfl, _, rfl, ?_⟩
    refine iteT ?_
    refine ⟨fun σ' H' => H = H' ∧ σ' = [some v, some (.int (d + 1)), some u1], ?_, ?_⟩
    · rintro σ' H' ⟨rfl, rfl⟩
      exact ⟨Th.tags t1, by rw [Th.tags]; omega, rfl, t1, u1, d + 1, rfl, h2, by omega, rfl⟩
    · exact ⟨_, rfl, a, _, _, _, rfl, rfl, SqT.of h1, rfl, _, rfl, _, _, rfl, rfl, rfl, rfl⟩
noncomputable def FrAt (G H : Hp) : List Addr → List (List T) → Prop
  | [], [] => True
  | a :: as, f :: fs => (∃ vs, H a = some (.lst vs) ∧ Reps G f vs) ∧ FrAt G H as fs
  | _, _ => False
theorem FrAt.len {G H : Hp} : ∀ {as : List Addr} {fs : List (List T)}, FrAt G H as fs → as.length = fs.length
  | [], [], _ => rfl
  | _ :: as, _ :: fs, h => congrArg (· + 1) (FrAt.len h.2)
  | [], _ :: _, h => h.elim
  | _ :: _, [], h => h.elim
theorem FrAt.mono {G G' H H' : Hp} (sg : Same G G') : ∀ {as : List Addr} {fs : List (List T)}, FrAt G H as fs → (∀ a ∈ as, ∀ o, H a = some o → H' a = some o) → FrAt G' H' as fs
  | [], [], _, _ => True.intro
  | a :: as, f :: fs, h, k => by
    obtain ⟨⟨vs, h1, h2⟩, h3⟩ := h
    exact ⟨⟨vs, k a List.mem_cons_self _ h1, Reps.mono sg f vs h2⟩, FrAt.mono sg h3 fun b hb => k b (List.mem_cons_of_mem _ hb)⟩
  | [], _ :: _, h, _ => h.elim
  | _ :: _, [], h, _ => h.elim
theorem FrAt.there {G H : Hp} : ∀ {as : List Addr} {fs : List (List T)} {a : Addr}, FrAt G H as fs → a ∈ as → ∃ vs, H a = some (.lst vs)
  | [], [], _, _, hm => by cases hm
  | b :: as, f :: fs, a, h, hm => by
    rcases List.mem_cons.mp hm with e | hm
    · obtain ⟨⟨vs, h1, _⟩, _⟩ := h
      exact ⟨vs, by rw [e]; exact h1⟩
    · exact FrAt.there h.2 hm
  | [], _ :: _, _, h, _ => h.elim
  | _ :: _, [], _, h, _ => h.elim
structure Fr (G H : Hp) (F : Addr) (as : List Addr) (fs : List (List T)) : Prop where
  same : Same G H
  gF : G F = none
  at_ : H F = some (.lst (as.reverse.map V.ref))
  fr : FrAt G H as fs
  nd : (F :: as).Nodup
  gn : ∀ a ∈ as, G a = none
noncomputable def hide (H : Hp) (os : List Addr) : Hp := fun b => if b ∈ os then none else H b
theorem hide_in {H : Hp} {os : List Addr} {b : Addr} (h : b ∈ os) : hide H os b = none := by unfold hide; rw [if_pos h]
theorem hide_out {H : Hp} {os : List Addr} {b : Addr} (h : b ∉ os) : hide H os b = H b := by unfold hide; rw [if_neg h]
theorem Fr.open_ {G H : Hp} {F : Addr} {as : List Addr} {fs : List (List T)} (f : Fr G H F as fs) {b : Addr} {o : HO} (h : G b = some o) : b ∉ F :: as := fun hm => by
  rcases List.mem_cons.mp hm with e | hm
  · rw [e, f.gF] at h; cases h
  · rw [f.gn b hm] at h; cases h
theorem Fr.fresh {G H : Hp} {F : Addr} {as : List Addr} {fs : List (List T)} (f : Fr G H F as fs) {p : Addr} (h : H p = none) : p ∉ F :: as := fun hm => by
  rcases List.mem_cons.mp hm with e | hm
  · rw [e, f.at_] at h; cases h
  · obtain ⟨vs, q⟩ := f.fr.there hm
    rw [q] at h; cases h
theorem Fr.shut {G H H1 : Hp} {F : Addr} {as os : List Addr} {fs : List (List T)} (f : Fr G H F as fs) (s : ∀ b o, b ∉ F :: as → H b = some o → H1 b = some o) (sub : ∀ b ∈ os, b ∈ F :: as) : Same G (hide H1 os) := fun b o h => by
  have hn := f.open_ h
  rw [hide_out (fun z => hn (sub b z))]
  exact s b o hn (f.same b o h)
theorem Fr.top {G H H1 : Hp} {F a : Addr} {bs : List Addr} {top newtop : List T} {below : List (List T)} {newvs : List V} (f : Fr G H F (a :: bs) (top :: below)) (s : ∀ b o, b ≠ a → H b = some o → H1 b = some o) (hn : Reps (hide H1 (F :: a :: bs)) newtop newvs) :
    Same G (hide H1 (F :: a :: bs)) ∧ Fr (hide H1 (F :: a :: bs)) (upd H1 a (.lst newvs)) F (a :: bs) (newtop :: below) := by
  have sg : Same G (hide H1 (F :: a :: bs)) := f.shut (fun b o hb h => s b o (fun e => hb (by rw [e]; simp)) h) fun _ h => h
  have hFa : F ≠ a := fun e => (List.nodup_cons.mp f.nd).1 (by rw [e]; exact List.mem_cons_self)
  have nda := (List.nodup_cons.mp (List.nodup_cons.mp f.nd).2).1
  refine ⟨sg, fun b o h => ?_, hide_in List.mem_cons_self, ?_, ⟨⟨newvs, upd_same, hn⟩, ?_⟩, f.nd, fun b hb => hide_in (List.mem_cons_of_mem _ hb)⟩
  · have hb : b ∉ F :: a :: bs := fun z => by rw [hide_in z] at h; cases h
    rw [hide_out hb] at h
    rw [upd_ne (fun e => hb (by rw [e]; simp))]
    exact h
  · rw [upd_ne hFa]
    exact s _ _ hFa f.at_
  · refine f.fr.2.mono sg fun b hb o h => ?_
    have hba : b ≠ a := fun e => nda (by rw [← e]; exact hb)
    rw [upd_ne hba]
    exact s b o hba h
theorem Fr.begin {G H : Hp} {F p : Addr} {as : List Addr} {fs : List (List T)} (f : Fr G H F as fs) (hp : H p = none) : Fr G (upd (upd H p (.lst [])) F (.lst (as.reverse.map V.ref ++ [.ref p]))) F (p :: as) ([] :: fs) := by
  have hn := f.fresh hp
  have hFp : F ≠ p := fun e => hn (by rw [e]; exact List.mem_cons_self)
  have hGp : G p = none := f.same.free hp
  refine ⟨fun b o h => ?_, f.gF, ?_, ⟨⟨[], ?_, Reps.nil⟩, ?_⟩, ?_, ?_⟩
  · rw [upd_ne (fun e => by rw [e, f.gF] at h; cases h), upd_ne (fun e => by rw [e, hGp] at h; cases h)]
    exact f.same b o h
  · rw [upd_same, List.reverse_cons, List.map_append]
    rfl
  · rw [upd_ne (Ne.symm hFp), upd_same]
  · refine f.fr.mono (Same.refl G) fun b hb o h => ?_
    rw [upd_ne (fun e => (List.nodup_cons.mp f.nd).1 (by rw [← e]; exact hb)), upd_ne (fun e => hn (by rw [← e]; exact List.mem_cons_of_mem _ hb))]
    exact h
  · have := List.nodup_cons.mp f.nd
    refine List.nodup_cons.mpr ⟨fun z => ?_, List.nodup_cons.mpr ⟨fun z => hn (List.mem_cons_of_mem _ z), this.2⟩⟩
    rcases List.mem_cons.mp z with e | z
    · exact hFp e
    · exact this.1 z
  · intro b hb
    rcases List.mem_cons.mp hb with e | hb
    · rw [e]; exact hGp
    · exact f.gn b hb
theorem Fr.close {G H H1 : Hp} {F a b : Addr} {bs : List Addr} {top : List T} {fb : List T} {below : List (List T)} {o : HO} {newfb : List T} {newvs : List V} (f : Fr G H F (a :: b :: bs) (top :: fb :: below))
    (s : Same (upd H F (.lst ((b :: bs).reverse.map V.ref))) H1) (hn : Reps (hide H1 (F :: b :: bs)) newfb newvs) :
    Same G (hide H1 (F :: b :: bs)) ∧ Fr (hide H1 (F :: b :: bs)) (upd H1 b (.lst newvs)) F (b :: bs) (newfb :: below) := by
  have nd1 := List.nodup_cons.mp f.nd
  have nd2 := List.nodup_cons.mp nd1.2
  have nd3 := List.nodup_cons.mp nd2.2
  have hFb : F ≠ b := fun e => nd1.1 (by rw [e]; simp)
  have keep : ∀ c u, c ≠ F → H c = some u → H1 c = some u := fun c u hc h => s c u (by rw [upd_ne hc]; exact h)
  have sg : Same G (hide H1 (F :: b :: bs)) := fun c u h => by
    have hc := f.open_ h
    rw [hide_out (fun z => hc (by
      rcases List.mem_cons.mp z with e | z
      · rw [e]; exact List.mem_cons_self
      · exact List.mem_cons_of_mem _ (List.mem_cons_of_mem _ z)))]
    exact keep c u (fun e => hc (by rw [e]; exact List.mem_cons_self)) (f.same c u h)
  refine ⟨sg, fun c u h => ?_, hide_in List.mem_cons_self, ?_, ⟨⟨newvs, upd_same, hn⟩, ?_⟩, ?_, fun c hc => hide_in (List.mem_cons_of_mem _ hc)⟩
  · have hb : c ∉ F :: b :: bs := fun z => by rw [hide_in z] at h; cases h
    rw [hide_out hb] at h
    rw [upd_ne (fun e => hb (by rw [e]; simp))]
    exact h
  · rw [upd_ne hFb]
    exact s _ _ upd_same
  · refine f.fr.2.2.mono sg fun c hc u h => ?_
    rw [upd_ne (fun e => nd3.1 (by rw [← e]; exact hc))]
    exact keep c u (fun e => nd1.1 (by rw [← e]; exact List.mem_cons_of_mem _ (List.mem_cons_of_mem _ hc))) h
  · exact List.nodup_cons.mpr ⟨fun z => nd1.1 (List.mem_cons_of_mem _ z), nd2.2⟩
theorem ifN {a b : Int} {A B : Prop} (h : a ≠ b) (k : B) : if decide (V.int a = V.int b) = true then A else B := by
  rw [if_neg (by intro z; exact h (V.int.inj (of_decide_eq_true z)))]
  exact k
theorem rev_last (a : Addr) (bs : List Addr) : (a :: bs).reverse.map V.ref = bs.reverse.map V.ref ++ [.ref a] := by rw [List.reverse_cons, List.map_append]; rfl
inductive SpStepI  (vs : List V) (H : Hp) (Q : VK) (a_3 : XK) : Prop
  | mk (F : Addr) (way salt : Int) (G : Hp) (as : List Addr) (fs : List (List T)) (n : Nat) (h_0 : vs = [.ref F, .int way, .int salt]) (h_1 : Fr G H F as fs) (h_2 : Th.Ok n fs) (h_3 : n ≤ 1000) (h_4 : ∀ (G' H' : Hp) (as' : List Addr), Same G G' → Fr G' H' F as' (Th.step wordBy fs way salt) → Q .non H') : SpStepI  vs H Q a_3
noncomputable def spStep  : Sp := fun vs H Q a_3 => SpStepI  vs H Q a_3
theorem ok_step {n : Nat} {f g h : Addr} {fd gd hd : FuncData} (TS : At K mg "_law_step" s__law_step ["_law_frames", "_law_way", "_law_salt"] f fd) (TW : At K mg "_law_word_by" s__law_word_by ["_law_salt"] g gd) (TT : At K mg "_law_tags" s__law_tags ["_law_thing"] h hd) (B : Bn mg) :
    FnOk P w K mg base CX0 (n + 2) f fd ["_law_frames", "_law_way", "_law_salt"] spStep := by
  have sc := sc__law_step
  refine TS.F.ok sc (fun vs H Q E h => ?_) (fun cdv A outer s H vs Q E hr h => ?_)
  · obtain ⟨F, way, salt, G, as, fs, n, rfl, _⟩ := h; rfl
  obtain ⟨F, way, salt, G, as, fs, m, rfl, fr, ok, hm, q⟩ := h
  have m_len := B.len
  have m_range := B.range
  have hu : HuP _ := Nat.lt_of_succ_lt (hu_of hr)
  have G__law_word_by : FnOk P w K mg base CX0 (n + 1) g gd _ _ := ok_word TW B
  have G__law_tags : FnOk P w K mg base CX0 (n + 1) h hd _ _ := ok_tags TT B
  have m__law_word_by := TW.m
  have k__law_word_by := TW.F.kp
  have b__law_word_by := TW.b
  have m__law_tags := TT.m
  have k__law_tags := TT.F.kp
  have b__law_tags := TT.b
  have hA_1 : PSs (XF__law_step P w K mg base f cdv A outer s H E) (thenA (ixA (defBody s__law_step) 1)) _ := (pss_one (ps_expr (pe_bm PySem.F.plainAttrs_list PySem.F.slot_list_append PySem.F.type_list_append mt_append (pv 0) (pa_cons (pe_lst pa_nil) pa_nil))))
  let tA_1 : L2.TS := rdOf hA_1
  have hB_1 : PSs _ _ tA_1 := hA_1
  have hA_2 : PSs (XF__law_step P w K mg base f cdv A outer s H E) (List.drop 1 (thenA (ixA (elseA (ixA (defBody s__law_step) 1)) 0))) _ := (pss_one (ps_expr (pe_bm PySem.F.plainAttrs_list PySem.F.slot_list_append PySem.F.type_list_append mt_append (pe_ix ix_list (pv 0) (pe_un un_neg pe_int) (fun _ _ => rfl)) (pa_cons (pe_tup (pa_cons pe_str (pa_cons (pe_call G__law_word_by hr rfl m__law_word_by k__law_word_by b__law_word_by .nil pass0 (pa_cons (pv 2) pa_nil)) (pa_cons (pv 3) pa_nil)))) pa_nil))))
  let tA_2 : L2.TS := rdOf hA_2
  have hB_2 : PSs _ _ tA_2 := hA_2
  have hA_3 : PSs (XF__law_step P w K mg base f cdv A outer s H E) (thenA (ixA (elseA (ixA (defBody s__law_step) 1)) 0)) _ := (pss_cons (ps_expr (pe_bm0 PySem.F.plainAttrs_list PySem.F.slot_list_pop PySem.F.type_list_pop mt_pop (pv 0))) hB_2)
  let tA_3 : L2.TS := rdOf hA_3
  have hB_3 : PSs _ _ tA_3 := hA_3
  have hA_4 : PSs (XF__law_step P w K mg base f cdv A outer s H E) (thenA (ixA (elseA (ixA (elseA (ixA (defBody s__law_step) 1)) 0)) 0)) _ := (pss_one (ps_expr (pe_bm PySem.F.plainAttrs_list PySem.F.slot_list_append PySem.F.type_list_append mt_append (pv 3) (pa_cons (pe_tup (pa_cons pe_str (pa_cons (pe_comp rfl (pi_range1 rfl m_range (pa_cons (pe_op op_mod (pv 2) pe_int) pa_nil)) (CompOk.of (cl := [("_law_salt", s.heap.objs.size + 1)]) (fr := [("_law_salt", 2)]) rfl (by decide +kernel) rfl (by decide +kernel) (by decide +kernel) (fun _ _ h => h) (fun p hp e => ⟨_, by rw [(by decide +kernel : ∀ p ∈ _, p.2 = NameKind.free → p.1 = ("_law_salt" : Str)) p hp e]; rfl⟩) (fun p hp => by cases List.mem_singleton.mp hp; exact ⟨rfl, rfl, Or.inl rfl⟩) (by decide +kernel)) (fun _ _ _ => (pe_call G__law_word_by hr rfl m__law_word_by k__law_word_by b__law_word_by .nil pass0 (pa_cons (pe_op op_add (pv 1) (pe_op op_mul pe_int (pv 0))) pa_nil)))) pa_nil))) pa_nil))))
  let tA_4 : L2.TS := rdOf hA_4
  have hB_4 : PSs _ _ tA_4 := hA_4
  have hA_5 : PSs (XF__law_step P w K mg base f cdv A outer s H E) (List.drop 1 (thenA (ixA (elseA (ixA (elseA (ixA (elseA (ixA (defBody s__law_step) 1)) 0)) 0)) 0))) _ := (pss_one (ps_expr (pe_bm PySem.F.plainAttrs_list PySem.F.slot_list_append PySem.F.type_list_append mt_append (pv 3) (pa_cons (pe_tup (pa_cons pe_str (pa_cons (pe_call G__law_word_by hr rfl m__law_word_by k__law_word_by b__law_word_by .nil pass0 (pa_cons (pv 2) pa_nil)) (pa_cons (pv 4) pa_nil)))) pa_nil))))
  let tA_5 : L2.TS := rdOf hA_5
  have hB_5 : PSs _ _ tA_5 := hA_5
  have hA_6 : PSs (XF__law_step P w K mg base f cdv A outer s H E) (thenA (ixA (elseA (ixA (elseA (ixA (elseA (ixA (defBody s__law_step) 1)) 0)) 0)) 0)) _ := (pss_cons (ps_setL (i := 4) sc.nd rfl rfl (pe_bm0 PySem.F.plainAttrs_list PySem.F.slot_list_pop PySem.F.type_list_pop mt_pop (pv 3))) hB_5)
  let tA_6 : L2.TS := rdOf hA_6
  have hB_6 : PSs _ _ tA_6 := hA_6
  have hA_7 : PSs (XF__law_step P w K mg base f cdv A outer s H E) (elseA (ixA (elseA (ixA (elseA (ixA (elseA (ixA (defBody s__law_step) 1)) 0)) 0)) 0)) _ := (pss_one (ps_expr (pe_bm PySem.F.plainAttrs_list PySem.F.slot_list_append PySem.F.type_list_append mt_append (pv 3) (pa_cons (pe_call G__law_word_by hr rfl m__law_word_by k__law_word_by b__law_word_by .nil pass0 (pa_cons (pv 2) pa_nil)) pa_nil))))
  let tA_7 : L2.TS := rdOf hA_7
  have hB_7 : PSs _ _ tA_7 := hA_7
  have hA_8 : PSs (XF__law_step P w K mg base f cdv A outer s H E) (elseA (ixA (elseA (ixA (elseA (ixA (defBody s__law_step) 1)) 0)) 0)) _ := (pss_one (ps_if (PW.pt (pw_and (pt_cmpR op_eq (pv 1) pe_int (nomark _)) (pw_and (pt_cmpR (op_neN hu) (pv 3) (pe_lst pa_nil) (nomark _)) (pw_and1 (pt_cmpR op_lt (pe_call G__law_tags hr rfl m__law_tags k__law_tags b__law_tags .nil pass0 (pa_cons (pe_ix ix_list (pv 3) (pe_un un_neg pe_int) (fun _ _ => rfl)) pa_nil)) pe_int (nomark _)))))) hB_6 hB_7))
  let tA_8 : L2.TS := rdOf hA_8
  have hB_8 : PSs _ _ tA_8 := hA_8
  have hA_9 : PSs (XF__law_step P w K mg base f cdv A outer s H E) (elseA (ixA (elseA (ixA (defBody s__law_step) 1)) 0)) _ := (pss_one (ps_if (pt_cmpR op_eq (pv 1) pe_int (nomark _)) hB_4 hB_8))
  let tA_9 : L2.TS := rdOf hA_9
  have hB_9 : PSs _ _ tA_9 := hA_9
  have hA_10 : PSs (XF__law_step P w K mg base f cdv A outer s H E) (elseA (ixA (defBody s__law_step) 1)) _ := (pss_one (ps_if (PW.pt (pw_and (pt_cmpR op_eq (pv 1) pe_int (nomark _)) (pw_and1 (pt_cmpR op_gt (pe_callB call_len_seq rfl m_len PySem.boot_len (pa_cons (pv 0) pa_nil)) pe_int (nomark _))))) hB_3 hB_9))
  let tA_10 : L2.TS := rdOf hA_10
  have hB_10 : PSs _ _ tA_10 := hA_10
  have hA_11 : PSs (XF__law_step P w K mg base f cdv A outer s H E) (List.drop 1 (defBody s__law_step)) _ := (pss_one (ps_if (PW.pt (pw_and (pt_cmpR op_eq (pv 1) pe_int (nomark _)) (pw_and1 (pt_cmpR op_lt (pe_callB call_len_seq rfl m_len PySem.boot_len (pa_cons (pv 0) pa_nil)) pe_int (nomark _))))) hB_1 hB_10))
  let tA_11 : L2.TS := rdOf hA_11
  have hB_11 : PSs _ _ tA_11 := hA_11
  have hA_12 : PSs (XF__law_step P w K mg base f cdv A outer s H E) (defBody s__law_step) _ := (pss_cons (ps_setL (i := 3) sc.nd rfl rfl (pe_ix ix_list (pv 0) (pe_un un_neg pe_int) (fun _ _ => rfl))) hB_11)
  let tA_12 : L2.TS := rdOf hA_12
  have hB_12 : PSs _ _ tA_12 := hA_12
  refine ⟨_, hB_12, ?_⟩
  have hlen := fr.fr.len
  cases fs with
  | nil => exact absurd rfl ok.ne
  | cons top below =>
  cases as with
  | nil => simp at hlen
  | cons a bs =>
  have hlb : bs.length = below.length := by simpa using hlen
  obtain ⟨⟨vs, ha, hrep⟩, hbelow⟩ := id fr.fr
  have hat := fr.at_
  rw [rev_last] at hat
  have hvl : vs.length ≤ 400000 := by
    rw [← hrep.len]
    have h1 := Th.hefts_le top
    have h2 := ok.sz
    rw [Th.tot, List.map_cons, List.sum_cons] at h2
    omega
  have hol := ok.le
  rw [List.length_cons] at hol
  have hfl : (bs.reverse.map V.ref ++ [V.ref a]).length = below.length + 1 := by
    rw [List.length_append, List.length_map, List.length_reverse, hlb]
    rfl
  have hFa : F ≠ a := fun e => (List.nodup_cons.mp fr.nd).1 (by rw [e]; exact List.mem_cons_self)
  have wordEnd : Th.step wordBy (top :: below) way salt = (top ++ [.word (wordBy salt)]) :: below → ∀ H1, Same H H1 → Q .non (upd H1 a (.lst (vs ++ [.str (wordBy salt)]))) := by
    intro e H1 s1
    have sg : Same G (hide H1 (F :: a :: bs)) := fr.shut (fun b o _ h => s1 b o h) fun _ h => h
    have k := fr.top (H1 := H1) (newtop := top ++ [.word (wordBy salt)]) (newvs := vs ++ [.str (wordBy salt)]) (fun b o _ h => s1 b o h) (Reps.snoc (Reps.mono sg _ _ hrep) (by rw [Rep]))
    refine q _ _ (a :: bs) k.1 ?_
    rw [e]
    exact k.2
  have ha0 : atI (bs.reverse.map V.ref ++ [V.ref a]) (-1) = some (.ref a) := atI_last _ _
  refine ⟨_, rfl, _, rfl, F, _, _, .ref a, rfl, rfl, SqL.of hat, ha0, ?_⟩
  by_cases w0 : way = 0
  · subst w0
    refine ⟨_, rfl, rfl, _, rfl, ?_⟩
    refine iteT ?_
    refine ⟨_, rfl, F, _, rfl, .inl (SqL.of hat), _, _, rfl, rfl, _, rfl, ?_⟩
    refine ite2 (fun c => ?_) (fun c => ?_)
    · have c' : (((bs.reverse.map V.ref ++ [V.ref a]).length : Nat) : Int) < 9 := of_decide_eq_true c
      rw [hfl] at c'
      refine ⟨_, rfl, .inl ⟨rfl, _, SqL.of hat⟩, (by show 0 ≤ sizeLine; decide), fun p hp => ⟨F, _, _, rfl, rfl, same_new hp _ _ _ hat, lt_size (by rw [hfl]; omega), ?_⟩⟩
      have k := fr.begin hp
      rw [rev_last] at k
      refine q G _ (p :: a :: bs) (Same.refl G) ?_
      have e : Th.step wordBy (top :: below) 0 salt = [] :: top :: below := by unfold Th.step; dsimp only; rw [if_pos ⟨rfl, by omega⟩]
      rw [e]
      exact k
    · have c' : ¬ (((bs.reverse.map V.ref ++ [V.ref a]).length : Nat) : Int) < 9 := fun z => c (decide_eq_true z)
      rw [hfl] at c'
      refine ⟨_, rfl, rfl, _, rfl, ?_⟩
      refine iteF ?_
      refine iteF ?_
      refine ⟨_, rfl, rfl, _, rfl, ?_⟩
      refine iteF ?_
      refine ⟨_, rfl, rfl, _, rfl, ?_⟩
      refine iteF ?_
      refine iteF ?_
      refine ⟨_, rfl, .inl ⟨rfl, _, SqL.of ha⟩, _, rfl, salt, rfl, fun H1 s1 => ⟨a, _, _, rfl, rfl, s1 _ _ ha, lt_size (by omega), ?_⟩⟩
      refine wordEnd ?_ H1 s1
      unfold Th.step
      dsimp only
      rw [if_neg (fun z => c' (by omega)), if_neg (fun z => absurd z.1 (by decide)), if_neg (by decide), if_neg (by decide)]
  by_cases w1 : way = 1
  · subst w1
    refine ⟨_, rfl, rfl, _, rfl, ?_⟩
    refine iteF ?_
    refine iteF ?_
    refine ⟨_, rfl, rfl, _, rfl, ?_⟩
    refine iteT ?_
    refine ⟨_, rfl, F, _, rfl, .inl (SqL.of hat), _, _, rfl, rfl, _, rfl, ?_⟩
    refine ite2 (fun c => ?_) (fun c => ?_)
    · have c' : (1 : Int) < (((bs.reverse.map V.ref ++ [V.ref a]).length : Nat) : Int) := of_decide_eq_true c
      rw [hfl] at c'
      cases below with
      | nil => simp at c'
      | cons fb below =>
      cases bs with
      | nil => simp at hlb
      | cons b bs =>
      obtain ⟨⟨vb, hb, hrb⟩, _⟩ := id hbelow
      have nd1 := List.nodup_cons.mp fr.nd
      have nd2 := List.nodup_cons.mp nd1.2
      have hbF : b ≠ F := fun e => nd1.1 (by rw [← e]; simp)
      have hab : a ∉ F :: b :: bs := fun z => by
        rcases List.mem_cons.mp z with e | z
        · exact hFa e.symm
        · exact nd2.1 z
      have hvb : vb.length ≤ 400000 := by
        rw [← hrb.len]
        have h1 := Th.hefts_le fb
        have h2 := ok.sz
        rw [Th.tot, List.map_cons, List.sum_cons, List.map_cons, List.sum_cons] at h2
        omega
      refine ⟨_, rfl, .inl ⟨rfl, _, SqL.of hat⟩, F, _, .ref a, rfl, rfl, hat, last_at _ _, ?_⟩
      rw [List.dropLast_concat]
      have e1 : (upd H F (.lst ((b :: bs).reverse.map V.ref))) F = some (.lst (bs.reverse.map V.ref ++ [.ref b])) := by rw [upd_same, rev_last]
      have b1 : (upd H F (.lst ((b :: bs).reverse.map V.ref))) b = some (.lst vb) := by rw [upd_ne hbF]; exact hb
      have a1 : (upd H F (.lst ((b :: bs).reverse.map V.ref))) a = some (.lst vs) := by rw [upd_ne (Ne.symm hFa)]; exact ha
      refine ⟨_, rfl, _, rfl, F, _, _, .ref b, rfl, rfl, SqL.of e1, atI_last _ _, .inl ⟨rfl, _, SqL.of b1⟩, _, rfl, salt, rfl, fun H2 s2 => ⟨_, rfl, (by show 3 ≤ sizeLine; decide), fun p hp => ?_⟩⟩
      have s3 : Same (upd H F (.lst ((b :: bs).reverse.map V.ref))) (upd H2 p (.tup [.str "bundle", .str (wordBy salt), .ref a])) := s2.trans (same_new hp _)
      have hpn : p ∉ F :: b :: bs := fun z => by
        have hp1 := s2.free hp
        rcases List.mem_cons.mp z with e | z
        · rw [e, e1] at hp1; cases hp1
        · have := fr.fresh (p := p) (by
            rw [upd_ne (fun e => nd1.1 (by rw [← e]; exact List.mem_cons_of_mem _ z))] at hp1
            exact hp1)
          exact this (List.mem_cons_of_mem _ (List.mem_cons_of_mem _ z))
      refine ⟨b, vb, _, rfl, rfl, s3 _ _ b1, lt_size (by omega), ?_⟩
      have sg : Same G (hide (upd H2 p (.tup [.str "bundle", .str (wordBy salt), .ref a])) (F :: b :: bs)) := fun c u h => by
        have hc := fr.open_ h
        rw [hide_out (fun z => hc (by
          rcases List.mem_cons.mp z with e | z
          · rw [e]; exact List.mem_cons_self
          · exact List.mem_cons_of_mem _ (List.mem_cons_of_mem _ z)))]
        exact s3 c u (by rw [upd_ne (fun e => hc (by rw [e]; exact List.mem_cons_self))]; exact fr.same c u h)
      have k := fr.close (o := .lst []) s3 (newfb := fb ++ [.bundle (wordBy salt) top]) (newvs := vb ++ [.ref p]) (Reps.snoc (Reps.mono sg _ _ hrb) (by
        rw [Rep]
        refine ⟨p, a, vs, rfl, ?_, ?_, Reps.mono sg _ _ hrep⟩
        · rw [hide_out hpn, upd_same]
        · rw [hide_out hab]; exact s3 _ _ a1))
      refine q _ _ (b :: bs) k.1 ?_
      have e : Th.step wordBy (top :: fb :: below) 1 salt = (fb ++ [.bundle (wordBy salt) top]) :: below := by unfold Th.step; dsimp only; rw [if_neg (fun z => absurd z.1 (by decide)), if_pos ⟨rfl, by simp⟩]; rfl
      rw [e]
      exact k.2
    · have c' : ¬ (1 : Int) < (((bs.reverse.map V.ref ++ [V.ref a]).length : Nat) : Int) := fun z => c (decide_eq_true z)
      rw [hfl] at c'
      have hb0 : below = [] := List.length_eq_zero_iff.mp (by omega)
      refine ⟨_, rfl, rfl, _, rfl, ?_⟩
      refine iteF ?_
      refine ⟨_, rfl, rfl, _, rfl, ?_⟩
      refine iteF ?_
      refine iteF ?_
      refine ⟨_, rfl, .inl ⟨rfl, _, SqL.of ha⟩, _, rfl, salt, rfl, fun H1 s1 => ⟨a, _, _, rfl, rfl, s1 _ _ ha, lt_size (by omega), ?_⟩⟩
      refine wordEnd ?_ H1 s1
      unfold Th.step
      dsimp only
      rw [if_neg (fun z => absurd z.1 (by decide)), if_neg (fun z => z.2 hb0), if_neg (by decide), if_neg (by decide)]
  by_cases w2 : way = 2
  · subst w2
    refine ⟨_, rfl, rfl, _, rfl, ?_⟩
    refine iteF ?_
    refine iteF ?_
    refine ⟨_, rfl, rfl, _, rfl, ?_⟩
    refine iteF ?_
    refine iteF ?_
    refine ⟨_, rfl, rfl, _, rfl, ?_⟩
    refine iteT ?_
    refine ⟨_, rfl, .inl ⟨rfl, _, SqL.of ha⟩, _, rfl, _, _, rfl, rfl, (by show (0 : Int) < 9; decide), _, rfl, by omega, by omega, fun D hD => ?_⟩
    refine comp_range (fun k => V.str (wordBy (salt + 11 * (0 + (k : Int))))) hD (le_size (by omega)) ?_ ?_
    · intro i H' R hi s1 k
      exact ⟨_, rfl, _, rfl, _, _, rfl, rfl, .inl ⟨by decide, by decide⟩, _, _, rfl, rfl, _, rfl, k⟩
    · intro H1 s1 hD1
      refine ⟨(by show 2 ≤ sizeLine; decide), fun p hp => ?_⟩
      have s2 : Same H (upd H1 p (.tup [.str "run", .ref D])) := s1.trans (same_new hp _)
      refine ⟨a, vs, _, rfl, rfl, s2 _ _ ha, lt_size (by omega), ?_⟩
      have hpn := fr.fresh (s1.free hp)
      have hDn := fr.fresh hD
      have sg : Same G (hide (upd H1 p (.tup [.str "run", .ref D])) (F :: a :: bs)) := fr.shut (fun b o _ h => s2 b o h) fun _ h => h
      have k := fr.top (H1 := upd H1 p (.tup [.str "run", .ref D])) (newtop := top ++ [Th.runOf wordBy salt]) (newvs := vs ++ [.ref p]) (fun b o _ h => s2 b o h) (Reps.snoc (Reps.mono sg _ _ hrep) (by
        rw [Th.runOf, Rep]
        refine ⟨p, D, rfl, ?_, ?_⟩
        · rw [hide_out hpn, upd_same]
        · rw [hide_out hDn, same_new hp _ _ _ hD1, List.map_map]
          congr 2
          refine List.map_congr_left fun i _ => ?_
          show V.str (wordBy (salt + 11 * (0 + (i : Int)))) = V.str (wordBy (salt + 11 * (i : Int)))
          rw [Int.zero_add]))
      refine q _ _ (a :: bs) k.1 ?_
      have e : Th.step wordBy (top :: below) 2 salt = (top ++ [Th.runOf wordBy salt]) :: below := by unfold Th.step; dsimp only; rw [if_neg (fun z => absurd z.1 (by decide)), if_neg (fun z => absurd z.1 (by decide)), if_pos rfl]
      rw [e]
      exact k.2
  by_cases w3 : way = 3
  · subst w3
    refine ⟨_, rfl, rfl, _, rfl, ?_⟩
    refine iteF ?_
    refine iteF ?_
    refine ⟨_, rfl, rfl, _, rfl, ?_⟩
    refine iteF ?_
    refine iteF ?_
    refine ⟨_, rfl, rfl, _, rfl, ?_⟩
    refine iteF ?_
    refine ⟨_, rfl, rfl, _, rfl, ?_⟩
    refine iteT ?_
    refine ⟨_, rfl, (by show 0 ≤ sizeLine; decide), fun e he => ?_⟩
    have s1 : Same H (upd H e (.lst [])) := same_new he _
    have a1 := s1 _ _ ha
    refine ⟨a, e, vs, rfl, rfl, SqL.of a1, SqL.of upd_same, _, rfl, ?_⟩
    generalize upd H e (.lst []) = H1 at s1 a1
    show if (!vs.isEmpty) = true then _ else _
    have es : Th.step wordBy (top :: below) 3 salt = (Th.tagTop wordBy salt top).getD (top ++ [.word (wordBy salt)]) :: below := by
      unfold Th.step
      dsimp only
      rw [if_neg (fun z => absurd z.1 (by decide)), if_neg (fun z => absurd z.1 (by decide)), if_neg (by decide), if_pos rfl]
    cases el : top.getLast? with
    | none =>
      have ht : top = [] := List.getLast?_eq_none_iff.mp el
      have hv : vs = [] := List.length_eq_zero_iff.mp (by rw [← hrep.len, ht]; rfl)
      rw [if_neg (by rw [hv]; decide)]
      refine iteF ?_
      refine ⟨_, rfl, .inl ⟨rfl, _, SqL.of a1⟩, _, rfl, salt, rfl, fun H2 s2 => ⟨a, _, _, rfl, rfl, s2 _ _ a1, lt_size (by omega), ?_⟩⟩
      refine wordEnd ?_ H2 (s1.trans s2)
      rw [es, Th.tagTop, el]
      rfl
    | some t =>
      have ht := Th.last_split el
      rw [ht] at hrep
      obtain ⟨us, v, rfl, hus, hv⟩ := hrep.last
      rw [if_pos (by simp)]
      refine ⟨_, rfl, _, rfl, a, _, _, v, rfl, rfl, SqL.of a1, atI_last _ _, t, v, rfl, Rep.mono (fr.same.trans s1) _ _ hv, _, _, rfl, rfl, _, rfl, ?_⟩
      refine ite2 (fun c => ?_) (fun c => ?_)
      · have c' : (Th.tags t : Int) < 4 := of_decide_eq_true c
        refine ⟨_, rfl, .inl ⟨rfl, _, SqL.of a1⟩, a, _, v, rfl, rfl, a1, last_at _ _, ?_⟩
        rw [List.dropLast_concat]
        refine ⟨_, rfl, .inl ⟨rfl, _, SqL.of upd_same⟩, _, rfl, salt, rfl, fun H2 s2 => ⟨_, rfl, (by show 3 ≤ sizeLine; decide), fun p hp => ?_⟩⟩
        have a2 := s2 _ _ upd_same
        have s3 : ∀ b o, b ≠ a → H b = some o → (upd H2 p (.tup [.str "tag", .str (wordBy salt), v])) b = some o := fun b o hb h => by
          have h2 := s2 b o (by rw [upd_ne hb]; exact s1 b o h)
          exact same_new hp _ _ _ h2
        have hul : us.length ≤ 400000 := by rw [List.length_append] at hvl; omega
        refine ⟨a, us, _, rfl, rfl, same_new hp _ _ _ a2, lt_size (by omega), ?_⟩
        have hpn : p ∉ F :: a :: bs := by
          have hpa : p ≠ a := fun e => by rw [e, a2] at hp; cases hp
          have hp1 := s2.free hp
          rw [upd_ne hpa] at hp1
          exact fr.fresh (s1.free hp1)
        have sg : Same G (hide (upd H2 p (.tup [.str "tag", .str (wordBy salt), v])) (F :: a :: bs)) := fr.shut (fun b o hb h => s3 b o (fun e => hb (by rw [e]; simp)) h) fun _ h => h
        have k := fr.top (H1 := upd H2 p (.tup [.str "tag", .str (wordBy salt), v])) (newtop := top.dropLast ++ [.tag (wordBy salt) t]) (newvs := us ++ [.ref p]) s3 (Reps.snoc (Reps.mono sg _ _ hus) (by
          rw [Rep]
          refine ⟨p, v, rfl, ?_, Rep.mono sg _ _ hv⟩
          rw [hide_out hpn, upd_same]))
        refine q _ _ (a :: bs) k.1 ?_
        rw [es, Th.tagTop, el]
        dsimp only
        rw [if_pos (by omega)]
        exact k.2
      · have c' : ¬ (Th.tags t : Int) < 4 := fun z => c (decide_eq_true z)
        refine ⟨_, rfl, .inl ⟨rfl, _, SqL.of a1⟩, _, rfl, salt, rfl, fun H2 s2 => ⟨a, _, _, rfl, rfl, s2 _ _ a1, lt_size (by omega), ?_⟩⟩
        refine wordEnd ?_ H2 (s1.trans s2)
        rw [es, Th.tagTop, el]
        dsimp only
        rw [if_neg (by omega)]
        rfl
  · refine ⟨_, rfl, rfl, _, rfl, ?_⟩
    refine ifN w0 ?_
    refine iteF ?_
    refine ⟨_, rfl, rfl, _, rfl, ?_⟩
    refine ifN w1 ?_
    refine iteF ?_
    refine ⟨_, rfl, rfl, _, rfl, ?_⟩
    refine ifN w2 ?_
    refine ⟨_, rfl, rfl, _, rfl, ?_⟩
    refine ifN w3 ?_
    refine iteF ?_
    refine ⟨_, rfl, .inl ⟨rfl, _, SqL.of ha⟩, _, rfl, salt, rfl, fun H1 s1 => ⟨a, _, _, rfl, rfl, s1 _ _ ha, lt_size (by omega), ?_⟩⟩
    refine wordEnd ?_ H1 s1
    unfold Th.step
    dsimp only
    rw [if_neg (fun z => w0 z.1), if_neg (fun z => w1 z.1), if_neg w2, if_neg w3]
theorem fr_start {H : Hp} {p F : Addr} (hp : H p = none) (hF : (upd H p (.lst [])) F = none) : Fr H (upd (upd H p (.lst [])) F (.lst [.ref p])) F [p] [[]] := by
  have hFp : F ≠ p := fun e => by rw [e, upd_same] at hF; cases hF
  have hHF : H F = none := by rw [upd_ne hFp] at hF; exact hF
  refine ⟨same_upd (same_new hp _) hHF _, hHF, upd_same, ⟨⟨[], ?_, Reps.nil⟩, True.intro⟩, ?_, ?_⟩
  · rw [upd_ne (Ne.symm hFp), upd_same]
  · simp [hFp]
  · intro a ha
    have e : a = p := by simpa using ha
    rw [e]; exact hp
inductive SpGrownI (K : PySem.W.Frag) (vs : List V) (H : Hp) (Q : VK) (a_3 : XK) : Prop
  | mk (c : Addr) (cells : List Int) (h_0 : vs = [.ref c]) (h_1 : SqL K H c (cells.map V.int)) (h_2 : cells.length ≤ 63) (h_3 : ∀ (v : V) (H' : Hp), Same H H' → Rep H' (Th.grown wordBy cells) v → Q v H') : SpGrownI K vs H Q a_3
noncomputable def spGrown (K : PySem.W.Frag) : Sp := fun vs H Q a_3 => SpGrownI K vs H Q a_3
theorem ok_grown {n : Nat} {f g h k : Addr} {fd gd hd kd : FuncData} (TG : At K mg "_law_grown" s__law_grown ["_law_cells"] f fd) (TS : At K mg "_law_step" s__law_step ["_law_frames", "_law_way", "_law_salt"] g gd) (TW : At K mg "_law_word_by" s__law_word_by ["_law_salt"] h hd) (TT : At K mg "_law_tags" s__law_tags ["_law_thing"] k kd) (B : Bn mg) :
    FnOk P w K mg base CX0 (n + 3) f fd ["_law_cells"] (spGrown K) := by
  have sc := sc__law_grown
  refine TG.F.ok sc (fun vs H Q E h => ?_) (fun cdv A outer s H vs Q E hr h => ?_)
  · obtain ⟨c, cells, rfl, _⟩ := h; rfl
  obtain ⟨c, cells, rfl, hS, h63, q⟩ := h
  have m_len := B.len
  have m_range := B.range
  have G__law_step : FnOk P w K mg base CX0 (n + 2) g gd _ _ := ok_step TS TW TT B
  have m__law_step := TS.m
  have k__law_step := TS.F.kp
  have b__law_step := TS.b
  have okg := Th.ok_grow wordBy wordBy_len cells
  have hA_1 : PSs (XF__law_grown P w K mg base f cdv A outer s H E) (List.drop 4 (defBody s__law_grown)) _ := (pss_one (ps_ret (pe_tup (pa_cons pe_str (pa_cons pe_str (pa_cons (pe_ix ix_list (pv 1) pe_int (fun _ _ => rfl)) pa_nil))))))
  let tA_1 : L2.TS := rdOf hA_1
  have hB_1 : PSs _ _ tA_1 := hA_1
  have hA_2 : PSs (XF__law_grown P w K mg base f cdv A outer s H E) (thenA (ixA (defBody s__law_grown) 3)) _ := (pss_one (ps_ret (pe_ix ix_list (pe_ix ix_list (pv 1) pe_int (fun _ _ => rfl)) pe_int (fun _ _ => rfl))))
  let tA_2 : L2.TS := rdOf hA_2
  have hB_2 : PSs _ _ tA_2 := hA_2
  have hA_3 : PSs (XF__law_grown P w K mg base f cdv A outer s H E) (List.drop 3 (defBody s__law_grown)) _ := (pss_cons (ps_if (pt_cmpR op_eq (pe_callB call_len_seq rfl m_len PySem.boot_len (pa_cons (pe_ix ix_list (pv 1) pe_int (fun _ _ => rfl)) pa_nil)) pe_int (nomark _)) hB_2 pss_nil) hB_1)
  let tA_3 : L2.TS := rdOf hA_3
  have hB_3 : PSs _ _ tA_3 := hA_3
  have hA_4 : PSs (XF__law_grown P w K mg base f cdv A outer s H E) (thenA (ixA (defBody s__law_grown) 2)) _ := (pss_one (ps_expr (pe_call G__law_step hr rfl m__law_step k__law_step b__law_step .nil pass0 (pa_cons (pv 1) (pa_cons pe_int (pa_cons (pe_callB call_len_seq rfl m_len PySem.boot_len (pa_cons (pv 1) pa_nil)) pa_nil))))))
  let tA_4 : L2.TS := rdOf hA_4
  have hB_4 : PSs _ _ tA_4 := hA_4
  have hA_5 : PSs (XF__law_grown P w K mg base f cdv A outer s H E) (List.drop 2 (defBody s__law_grown)) _ := (pss_cons (ps_while PassesOwn.never (pt_cmpR op_gt (pe_callB call_len_seq rfl m_len PySem.boot_len (pa_cons (pv 1) pa_nil)) pe_int (nomark _)) hB_4) hB_3)
  let tA_5 : L2.TS := rdOf hA_5
  have hB_5 : PSs _ _ tA_5 := hA_5
  have hA_6 : PSs (XF__law_grown P w K mg base f cdv A outer s H E) (thenA (ixA (defBody s__law_grown) 1)) _ := (pss_one (ps_expr (pe_call G__law_step hr rfl m__law_step k__law_step b__law_step .nil pass0 (pa_cons (pv 1) (pa_cons (pe_op op_mod (pe_ix ix_list (pv 0) (pv 2) (fun _ _ => rfl)) pe_int) (pa_cons (pe_op op_add (pe_op op_fdiv (pe_ix ix_list (pv 0) (pv 2) (fun _ _ => rfl)) pe_int) (pe_op op_mul pe_int (pv 2))) pa_nil))))))
  let tA_6 : L2.TS := rdOf hA_6
  have hB_6 : PSs _ _ tA_6 := hA_6
  have hA_7 : PSs (XF__law_grown P w K mg base f cdv A outer s H E) (List.drop 1 (defBody s__law_grown)) _ := (pss_cons (ps_for PassesOwn.never rfl (pi_range1 rfl m_range (pa_cons (pe_callB call_len_seq rfl m_len PySem.boot_len (pa_cons (pv 0) pa_nil)) pa_nil)) (pg_nameL (i := 2) sc.nd rfl rfl) hB_6) hB_5)
  let tA_7 : L2.TS := rdOf hA_7
  have hB_7 : PSs _ _ tA_7 := hA_7
  have hA_8 : PSs (XF__law_grown P w K mg base f cdv A outer s H E) (defBody s__law_grown) _ := (pss_cons (ps_setL (i := 1) sc.nd rfl rfl (pe_lst (pa_cons (pe_lst pa_nil) pa_nil))) hB_7)
  let tA_8 : L2.TS := rdOf hA_8
  have hB_8 : PSs _ _ tA_8 := hA_8
  refine ⟨_, hB_8, ?_⟩
  refine ⟨(by show 0 ≤ sizeLine; decide), fun p hp => ⟨(by show 1 ≤ sizeLine; decide), fun F hF => ?_⟩⟩
  have fr0 := fr_start hp hF
  refine ⟨_, rfl, c, _, rfl, .inl (fr0.same.seq hS), _, rfl, by rw [List.length_map]; omega, by rw [List.length_map]; omega, ?_⟩
  have el : (((cells.map V.int).length : Nat) : Int).toNat = cells.length := by rw [List.length_map]; omega
  rw [el]
  clear el
  refine for_range (fun i σ H' => E3 fun (G : Hp) (as : List Addr) (kv : Option V) => A3 (σ = [some (.ref c), some (.ref F), kv]) (Same H G) (Fr G H' F as (Th.grow wordBy cells i))) ⟨H, [p], none, rfl, Same.refl H, fr0⟩ ?_ ?_
  · rintro i σ H1 hi ⟨G, as, kv, rfl, sG, fr⟩
    have hc1 := (sG.trans fr.same).seq hS
    have hx : atI (cells.map V.int) (0 + (i : Int)) = some (.int (cells.getD i 0)) := by
      rw [Int.zero_add]
      exact atI_nat (by rw [List.getElem?_map, List.getElem?_eq_getElem hi, List.getD_eq_getElem?_getD, List.getElem?_eq_getElem hi]; rfl)
    refine ⟨_, rfl, _, rfl, _, rfl, c, _, _, _, rfl, rfl, hc1, hx, _, _, rfl, rfl, (by show (0 : Int) < 7; decide), _, rfl, _, rfl, c, _, _, _, rfl, rfl, hc1, hx, _, _, rfl, rfl, ⟨by decide, by decide⟩, _, rfl, _, _, rfl, rfl, .inl ⟨by decide, by decide⟩, _, _, rfl, rfl, F, cells.getD i 0 % 7, cells.getD i 0 / 7 + 3 * (0 + (i : Int)), G, as, _, i, rfl, fr, okg i, by omega, fun G' H2 as' sg fr' => ?_⟩
    rw [Int.zero_add] at fr'
    exact ⟨G', as', _, rfl, sG.trans sg, fr'⟩
  · rintro σ H1 ⟨G, as, kv, rfl, sG, fr⟩
    have ol := (okg cells.length).le
    have one := (okg cells.length).ne
    have hpos : 0 < (Th.grow wordBy cells cells.length).length := List.length_pos_iff.mpr one
    refine ⟨fun m σ H' => E5 fun (G : Hp) (as : List Addr) (fs : List (List T)) (kv : Option V) (j : Nat) => A7 (σ = [some (.ref c), some (.ref F), kv]) (Same H G) (Fr G H' F as fs) (fs.length = m + 1) (Th.thingOf (Th.close wordBy m fs) = Th.grown wordBy cells) (Th.Ok j fs) (j + m ≤ 100),
      ⟨(Th.grow wordBy cells cells.length).length - 1, G, as, _, kv, cells.length, rfl, sG, fr, by omega, rfl, okg _, by omega⟩, ?_⟩
    rintro m σ H2 ⟨G2, as2, fs, kv2, j, rfl, sG2, fr2, hfl, heq, okj, hj⟩
    have hal := fr2.fr.len
    refine ⟨_, rfl, F, _, rfl, .inl (SqL.of fr2.at_), _, _, rfl, rfl, _, rfl, ?_⟩
    have hll : (as2.reverse.map V.ref).length = m + 1 := by rw [List.length_map, List.length_reverse, hal, hfl]
    refine ite2 (fun cc => ?_) (fun cc => ?_)
    · have c' : (1 : Int) < (((as2.reverse.map V.ref).length : Nat) : Int) := of_decide_eq_true cc
      rw [hll] at c'
      obtain ⟨m', rfl⟩ : ∃ m', m = m' + 1 := ⟨m - 1, by omega⟩
      refine ⟨fun σ' H' => ∃ (G : Hp) (as : List Addr) (kv : Option V), σ' = [some (.ref c), some (.ref F), kv] ∧ Same H G ∧ Fr G H' F as (Th.step wordBy fs 1 ((m' : Int) + 2)), ?_, ?_⟩
      · rintro σ' H' ⟨G3, as3, kv3, rfl, sG3, fr3⟩
        exact ⟨m', by omega, G3, as3, _, kv3, j + 1, rfl, sG3, fr3, Th.step_close_len wordBy hfl, heq, Th.ok_step wordBy wordBy_len okj _ _, by omega⟩
      · refine ⟨_, rfl, _, rfl, F, _, rfl, .inl (SqL.of fr2.at_), F, 1, _, G2, as2, fs, j, rfl, fr2, okj, by omega, fun G3 H3 as3 sg fr3 => ?_⟩
        have e : (((as2.reverse.map V.ref).length : Nat) : Int) = (m' : Int) + 2 := by rw [hll]; omega
        rw [e] at fr3
        exact ⟨G3, as3, _, rfl, sG2.trans sg, fr3⟩
    · have c' : ¬ (1 : Int) < (((as2.reverse.map V.ref).length : Nat) : Int) := fun z => cc (decide_eq_true z)
      rw [hll] at c'
      have hm0 : m = 0 := by omega
      subst hm0
      match fs, as2, hfl, hal, fr2, heq with
      | [f0], [a], _, _, fr2, heq =>
        obtain ⟨⟨vs, ha, hrep⟩, _⟩ := id fr2.fr
        have hat : H2 F = some (.lst [.ref a]) := fr2.at_
        have heq' : Th.thingOf [f0] = Th.grown wordBy cells := heq
        have sH := sG2.trans fr2.same
        refine ⟨_, rfl, F, _, _, .ref a, rfl, rfl, SqL.of hat, rfl, a, _, rfl, .inl (SqL.of ha), rfl, _, rfl, ?_⟩
        refine ite2 (fun c1 => ?_) (fun c1 => ?_)
        · have c1' : ((vs.length : Nat) : Int) = 1 := V.int.inj (of_decide_eq_true c1)
          have hl1 : vs.length = 1 := by omega
          match vs, hl1, ha, hrep with
          | [v], _, ha, hrep =>
            have hf := hrep.len
            match f0, hf, hrep, heq' with
            | [t], _, hrep, heq' =>
              rw [Reps] at hrep
              obtain ⟨v', r, e, hv, _⟩ := hrep
              cases e
              refine ⟨_, rfl, F, _, _, .ref a, rfl, rfl, SqL.of hat, rfl, a, _, _, v, rfl, rfl, SqL.of ha, rfl, q v H2 sH ?_⟩
              rw [← heq']
              exact Rep.mono fr2.same _ _ hv
        · have c1' : ¬ vs.length = 1 := fun z => c1 (decide_eq_true (congrArg V.int (by rw [z]; rfl)))
          refine ⟨_, rfl, F, _, _, .ref a, rfl, rfl, SqL.of hat, rfl, (by show 3 ≤ sizeLine; decide), fun p' hp' => ?_⟩
          have s3 : Same H2 (upd H2 p' (.tup [.str "bundle", .str "top", .ref a])) := same_new hp' _
          refine q (.ref p') _ (sH.trans s3) ?_
          have hf := hrep.len
          have e : Th.thingOf [f0] = .bundle "top" f0 := by
            match f0, hf with
            | [], _ => rfl
            | [t], hf => exact absurd hf.symm c1'
            | _ :: _ :: _, _ => rfl
          rw [← heq', e, Rep]
          exact ⟨p', a, vs, rfl, upd_same, s3 _ _ ha, Reps.mono (fr2.same.trans s3) _ _ hrep⟩
end
section
open Rp
open Th (T)
variable {P : Program} {w : World} {K : PySem.W.Frag} {mg : Str → Option Value} {base : Heap}
inductive SpLineI  (vs : List V) (H : Hp) (Q : VK) (a_3 : XK) : Prop
  | mk (t : T) (v : V) (h_0 : vs = [v]) (h_1 : Rep H t v) (h_2 : Th.size t ≤ 1000000) (h_3 : ∀ H', Same H H' → Q (.str (Th.flat t)) H') : SpLineI  vs H Q a_3
noncomputable def spLine  : Sp := fun vs H Q a_3 => SpLineI  vs H Q a_3
theorem ok_line {n : Nat} {f : Addr} {fd : FuncData} (TL : At K mg "_law_flat_line" s__law_flat_line ["_law_thing"] f fd) (B : Bn mg) : FnOk P w K mg base CX0 (n + 1) f fd ["_law_thing"] spLine := by
  have sc := sc__law_flat_line
  refine TL.F.ok sc (fun vs H Q E h => ?_) (fun cdv A outer s H vs Q E hr h => ?_)
  · obtain ⟨t, v, rfl, _⟩ := h; rfl
  obtain ⟨t, v, rfl, R, hz, q⟩ := h
  have m_isinstance := B.isinstance
  have m_str := B.str
  have m_len := B.len
  have m_range := B.range
  have hu : HuP _ := Nat.lt_of_succ_lt (hu_of hr)
  have hA_1 : PSs (XF__law_flat_line P w K mg base f cdv A outer s H E) (List.drop 3 (defBody s__law_flat_line)) _ := (pss_one (ps_ret (pv 1)))
  let tA_1 : L2.TS := rdOf hA_1
  have hB_1 : PSs _ _ tA_1 := hA_1
  have hA_2 : PSs (XF__law_flat_line P w K mg base f cdv A outer s H E) (thenA (ixA (thenA (ixA (defBody s__law_flat_line) 2)) 1)) _ := (pss_one (ps_setL (i := 1) sc.nd rfl rfl (pe_op op_add_str (pv 1) (pv 3))))
  let tA_2 : L2.TS := rdOf hA_2
  have hB_2 : PSs _ _ tA_2 := hA_2
  have hA_3 : PSs (XF__law_flat_line P w K mg base f cdv A outer s H E) (List.drop 1 (thenA (ixA (elseA (ixA (thenA (ixA (defBody s__law_flat_line) 2)) 1)) 0))) _ := (pss_one (ps_expr (pe_bm PySem.F.plainAttrs_list PySem.F.slot_list_append PySem.F.type_list_append mt_append (pv 2) (pa_cons (pe_op op_add_str (pe_ix ix_tup (pv 3) pe_int (fun _ _ => rfl)) pe_str) pa_nil))))
  let tA_3 : L2.TS := rdOf hA_3
  have hB_3 : PSs _ _ tA_3 := hA_3
  have hA_4 : PSs (XF__law_flat_line P w K mg base f cdv A outer s H E) (thenA (ixA (elseA (ixA (thenA (ixA (defBody s__law_flat_line) 2)) 1)) 0)) _ := (pss_cons (ps_expr (pe_bm PySem.F.plainAttrs_list PySem.F.slot_list_append PySem.F.type_list_append mt_append (pv 2) (pa_cons (pe_ix ix_tup (pv 3) pe_int (fun _ _ => rfl)) pa_nil))) hB_3)
  let tA_4 : L2.TS := rdOf hA_4
  have hB_4 : PSs _ _ tA_4 := hA_4
  have hA_5 : PSs (XF__law_flat_line P w K mg base f cdv A outer s H E) (thenA (ixA (elseA (ixA (elseA (ixA (thenA (ixA (defBody s__law_flat_line) 2)) 1)) 0)) 0)) _ := (pss_one (ps_setL (i := 1) sc.nd rfl rfl (pe_op op_add_str (pe_op op_add_str (pe_op op_add_str (pv 1) pe_str) (pe_bm PySem.F.plainAttrs_str PySem.F.slot_str_join PySem.F.type_str_join mt_join pe_str (pa_cons (pe_ix ix_tup (pv 3) pe_int (fun _ _ => rfl)) pa_nil))) pe_str)))
  let tA_5 : L2.TS := rdOf hA_5
  have hB_5 : PSs _ _ tA_5 := hA_5
  have hA_6 : PSs (XF__law_flat_line P w K mg base f cdv A outer s H E) (List.drop 2 (elseA (ixA (elseA (ixA (elseA (ixA (thenA (ixA (defBody s__law_flat_line) 2)) 1)) 0)) 0))) _ := (pss_one (ps_expr (pe_bm PySem.F.plainAttrs_list PySem.F.slot_list_append PySem.F.type_list_append mt_append (pv 2) (pa_cons (pe_op op_add_str (pe_ix ix_tup (pv 3) pe_int (fun _ _ => rfl)) pe_str) pa_nil))))
  let tA_6 : L2.TS := rdOf hA_6
  have hB_6 : PSs _ _ tA_6 := hA_6
  have hA_7 : PSs (XF__law_flat_line P w K mg base f cdv A outer s H E) (thenA (ixA (thenA (ixA (elseA (ixA (elseA (ixA (elseA (ixA (thenA (ixA (defBody s__law_flat_line) 2)) 1)) 0)) 0)) 1)) 1)) _ := (pss_one (ps_expr (pe_bm PySem.F.plainAttrs_list PySem.F.slot_list_append PySem.F.type_list_append mt_append (pv 2) (pa_cons pe_str pa_nil))))
  let tA_7 : L2.TS := rdOf hA_7
  have hB_7 : PSs _ _ tA_7 := hA_7
  have hA_8 : PSs (XF__law_flat_line P w K mg base f cdv A outer s H E) (List.drop 1 (thenA (ixA (elseA (ixA (elseA (ixA (elseA (ixA (thenA (ixA (defBody s__law_flat_line) 2)) 1)) 0)) 0)) 1))) _ := (pss_one (ps_if (pt_cmpR op_gt (pv 4) pe_int (nomark _)) hB_7 pss_nil))
  let tA_8 : L2.TS := rdOf hA_8
  have hB_8 : PSs _ _ tA_8 := hA_8
  have hA_9 : PSs (XF__law_flat_line P w K mg base f cdv A outer s H E) (thenA (ixA (elseA (ixA (elseA (ixA (elseA (ixA (thenA (ixA (defBody s__law_flat_line) 2)) 1)) 0)) 0)) 1)) _ := (pss_cons (ps_expr (pe_bm PySem.F.plainAttrs_list PySem.F.slot_list_append PySem.F.type_list_append mt_append (pv 2) (pa_cons (pe_ix ix_list (pe_ix ix_tup (pv 3) pe_int (fun _ _ => rfl)) (pv 4) (fun _ _ => rfl)) pa_nil))) hB_8)
  let tA_9 : L2.TS := rdOf hA_9
  have hB_9 : PSs _ _ tA_9 := hA_9
  have hA_10 : PSs (XF__law_flat_line P w K mg base f cdv A outer s H E) (List.drop 1 (elseA (ixA (elseA (ixA (elseA (ixA (thenA (ixA (defBody s__law_flat_line) 2)) 1)) 0)) 0))) _ := (pss_cons (ps_for PassesOwn.never rfl (pi_range3 rfl m_range (pa_cons (pe_op op_sub (pe_callB call_len_seq rfl m_len PySem.boot_len (pa_cons (pe_ix ix_tup (pv 3) pe_int (fun _ _ => rfl)) pa_nil)) pe_int) (pa_cons (pe_un un_neg pe_int) (pa_cons (pe_un un_neg pe_int) pa_nil)))) (pg_nameL (i := 4) sc.nd rfl rfl) hB_9) hB_6)
  let tA_10 : L2.TS := rdOf hA_10
  have hB_10 : PSs _ _ tA_10 := hA_10
  have hA_11 : PSs (XF__law_flat_line P w K mg base f cdv A outer s H E) (elseA (ixA (elseA (ixA (elseA (ixA (thenA (ixA (defBody s__law_flat_line) 2)) 1)) 0)) 0)) _ := (pss_cons (ps_expr (pe_bm PySem.F.plainAttrs_list PySem.F.slot_list_append PySem.F.type_list_append mt_append (pv 2) (pa_cons pe_str pa_nil))) hB_10)
  let tA_11 : L2.TS := rdOf hA_11
  have hB_11 : PSs _ _ tA_11 := hA_11
  have hA_12 : PSs (XF__law_flat_line P w K mg base f cdv A outer s H E) (elseA (ixA (elseA (ixA (thenA (ixA (defBody s__law_flat_line) 2)) 1)) 0)) _ := (pss_one (ps_if (pt_cmpR op_eq (pe_ix ix_tup (pv 3) pe_int (fun _ _ => rfl)) pe_str (nomark _)) hB_5 hB_11))
  let tA_12 : L2.TS := rdOf hA_12
  have hB_12 : PSs _ _ tA_12 := hA_12
  have hA_13 : PSs (XF__law_flat_line P w K mg base f cdv A outer s H E) (elseA (ixA (thenA (ixA (defBody s__law_flat_line) 2)) 1)) _ := (pss_one (ps_if (pt_cmpR op_eq (pe_ix ix_tup (pv 3) pe_int (fun _ _ => rfl)) pe_str (nomark _)) hB_4 hB_12))
  let tA_13 : L2.TS := rdOf hA_13
  have hB_13 : PSs _ _ tA_13 := hA_13
  have hA_14 : PSs (XF__law_flat_line P w K mg base f cdv A outer s H E) (List.drop 1 (thenA (ixA (defBody s__law_flat_line) 2))) _ := (pss_one (ps_if (pt_val (pe_callB call_isinst rfl m_isinstance boot_isinstance' (pa_cons (pv 3) (pa_cons (pe_bltn (v := .ty "str") rfl m_str boot_str' rfl) pa_nil)))) hB_2 hB_13))
  let tA_14 : L2.TS := rdOf hA_14
  have hB_14 : PSs _ _ tA_14 := hA_14
  have hA_15 : PSs (XF__law_flat_line P w K mg base f cdv A outer s H E) (thenA (ixA (defBody s__law_flat_line) 2)) _ := (pss_cons (ps_setL (i := 3) sc.nd rfl rfl (pe_bm0 PySem.F.plainAttrs_list PySem.F.slot_list_pop PySem.F.type_list_pop mt_pop (pv 2))) hB_14)
  let tA_15 : L2.TS := rdOf hA_15
  have hB_15 : PSs _ _ tA_15 := hA_15
  have hA_16 : PSs (XF__law_flat_line P w K mg base f cdv A outer s H E) (List.drop 2 (defBody s__law_flat_line)) _ := (pss_cons (ps_while PassesOwn.never (pt_cmpR (op_neN hu) (pv 2) (pe_lst pa_nil) (nomark _)) hB_15) hB_1)
  let tA_16 : L2.TS := rdOf hA_16
  have hB_16 : PSs _ _ tA_16 := hA_16
  have hA_17 : PSs (XF__law_flat_line P w K mg base f cdv A outer s H E) (List.drop 1 (defBody s__law_flat_line)) _ := (pss_cons (ps_setL (i := 2) sc.nd rfl rfl (pe_lst (pa_cons (pv 0) pa_nil))) hB_16)
  let tA_17 : L2.TS := rdOf hA_17
  have hB_17 : PSs _ _ tA_17 := hA_17
  have hA_18 : PSs (XF__law_flat_line P w K mg base f cdv A outer s H E) (defBody s__law_flat_line) _ := (pss_cons (ps_setL (i := 1) sc.nd rfl rfl pe_str) hB_17)
  let tA_18 : L2.TS := rdOf hA_18
  have hB_18 : PSs _ _ tA_18 := hA_18
  refine ⟨_, hB_18, ?_⟩
  refine ⟨_, rfl, (by show 1 ≤ sizeLine; decide), fun D hD => ?_⟩
  have hfl := Th.flat_le t
  have hhl := Th.heft_le t
  refine ⟨fun m σ H' => E5 fun (line : Str) (todo : List T) (vs : List V) (ov kv : Option V) => A7 (σ = [some v, some (.str line), some (.ref D), ov, kv]) (Same H H') (H' D = some (.lst vs)) (Reps H todo vs) (line ++ Th.cat todo.reverse = Th.flat t) (m = Th.hefts todo) (m ≤ Th.heft t),
    ⟨Th.hefts [t], "", [t], [v], none, none, rfl, same_new hD _, upd_same, Reps.cons R Reps.nil, ?_, rfl, by rw [Th.hefts, Th.hefts]; omega⟩, ?_⟩
  · rw [Th.nil_app, List.reverse_singleton, Th.cat, Th.cat, Th.app_nil]
  rintro m σ H1 ⟨line, todo, vs, ov, kv, rfl, s1, hD1', hrep, hcat, rfl, hm⟩
  refine ⟨_, rfl, (by show 0 ≤ sizeLine; decide), fun e he => ?_⟩
  have s2 : Same H (upd H1 e (.lst [])) := s1.trans (same_new he _)
  have hD1 := same_new he (.lst []) _ _ hD1'
  refine ⟨D, e, vs, rfl, rfl, SqL.of hD1, SqL.of upd_same, _, rfl, ?_⟩
  generalize upd H1 e (.lst []) = H2 at s2 hD1
  show if (!vs.isEmpty) = true then _ else _
  by_cases hx : todo = []
  · subst hx
    rw [Reps] at hrep
    subst hrep
    refine iteF ?_
    have e : line = Th.flat t := by rw [List.reverse_nil, Th.cat, Th.app_nil] at hcat; exact hcat
    refine ⟨_, rfl, ?_⟩
    rw [e]
    exact q _ s2
  obtain ⟨rest, one, rfl⟩ := Fm.split_last todo hx
  obtain ⟨us, u, rfl, hus, hu1⟩ := hrep.last
  rw [if_pos (by simp)]
  have hhr : Th.hefts (rest ++ [one]) = Th.hefts rest + Th.heft one := by rw [Th.hefts_app, Th.hefts, Th.hefts]; omega
  have hcat' : line ++ (Th.flat one ++ Th.cat rest.reverse) = Th.flat t := by
    rw [List.reverse_append, List.reverse_singleton, List.singleton_append, Th.cat] at hcat
    exact hcat
  have hlen : line.length + ((Th.flat one).length + (Th.cat rest.reverse).length) ≤ 1000000 := by rw [← Th.app_len, ← Th.app_len, hcat']; omega
  have hrl : us.length ≤ 1000000 := by
    have h1 := Th.len_hefts rest
    have h2 := hus.len
    omega
  replace hz := kpI hz
  replace hhl := kpI hhl
  replace hm := kpI hm
  replace hhr := kpI hhr
  clear hfl
  refine ⟨fun σ' H' => ∃ (line : Str) (todo : List T) (vs : List V) (ov kv : Option V), σ' = [some v, some (.str line), some (.ref D), ov, kv] ∧ Same H H' ∧ H' D = some (.lst vs) ∧ Reps H todo vs ∧ line ++ Th.cat todo.reverse = Th.flat t ∧ Th.hefts todo < Th.hefts (rest ++ [one]), ?_, ?_⟩
  · rintro σ' H' ⟨line', todo', vs', ov', kv', rfl, a1, a2, a3, a4, a5⟩
    exact ⟨Th.hefts todo', a5, line', todo', vs', ov', kv', rfl, a1, a2, a3, a4, rfl, Nat.le_trans (Nat.le_of_lt a5) hm.out⟩
  refine ⟨_, rfl, .inl ⟨rfl, _, SqL.of hD1⟩, D, _, u, rfl, rfl, hD1, last_at us u, ?_⟩
  rw [List.dropLast_concat]
  have s3 : Same H (upd H2 D (.lst us)) := same_upd s2 hD _
  have hD3 : (upd H2 D (.lst us)) D = some (.lst us) := upd_same
  generalize upd H2 D (.lst us) = H3 at s3 hD3
  cases one with
  | word x =>
    rw [Rep] at hu1
    subst hu1
    rw [Th.flat] at hcat' hlen
    refine ⟨_, rfl, _, _, _, _, rfl, .str x, kit_str_str K, _, rfl, ?_⟩
    refine iteT ?_
    refine ⟨_, rfl, _, rfl, _, _, rfl, rfl, le_size (by omega), ?_⟩
    exact ⟨line ++ x, rest, us, _, _, rfl, s3, hD3, hus, by rw [Th.app_assoc]; exact hcat', by rw [hhr.out, Th.heft]; omega⟩
  | tag w' t' =>
    rw [Rep] at hu1
    obtain ⟨a, x, rfl, h1, h2⟩ := hu1
    have h1' := s3 _ _ h1
    rw [Th.flat] at hcat' hlen
    have e2 : (": " : Str).length = 2 := by decide
    rw [Th.app_len, Th.app_len] at hlen
    refine ⟨_, rfl, _, _, _, _, rfl, .tup h1', kit_tup_str K, _, rfl, ?_⟩
    refine iteF ?_
    refine ⟨_, rfl, a, _, _, _, rfl, rfl, SqT.of h1', rfl, rfl, _, rfl, ?_⟩
    refine iteT ?_
    refine ⟨_, rfl, .inl ⟨rfl, _, SqL.of hD3⟩, _, rfl, a, _, _, _, rfl, rfl, SqT.of h1', rfl, D, _, _, rfl, rfl, hD3, lt_size (by omega), ?_⟩
    have s4 : Same H (upd H3 D (.lst (us ++ [x]))) := same_upd s3 hD _
    have hD4 : (upd H3 D (.lst (us ++ [x]))) D = some (.lst (us ++ [x])) := upd_same
    generalize upd H3 D (.lst (us ++ [x])) = H4 at s4 hD4
    have h1'' := s4 _ _ h1
    refine ⟨_, rfl, .inl ⟨rfl, _, SqL.of hD4⟩, _, rfl, a, _, _, _, rfl, rfl, SqT.of h1'', rfl, _, _, rfl, rfl, le_size (by omega), D, _, _, rfl, rfl, hD4, lt_size (by simp; omega), ?_⟩
    refine ⟨line, rest ++ [t'] ++ [.word (w' ++ ": ")], us ++ [x] ++ [.str (w' ++ ": ")], _, _, rfl, same_upd s4 hD _, upd_same, Reps.snoc (Reps.snoc hus h2) (by rw [Rep]), ?_, ?_⟩
    · rw [List.reverse_append, List.reverse_append, List.reverse_singleton, List.reverse_singleton, List.singleton_append, List.singleton_append, Th.cat, Th.cat, Th.flat, ← hcat', Th.app_assoc (w' ++ ": ")]
    · rw [hhr.out]
      simp only [Th.hefts_app, Th.hefts, Th.heft]
      omega
  | run ws =>
    rw [Rep] at hu1
    obtain ⟨a, l, rfl, h1, h2⟩ := hu1
    have h1' := s3 _ _ h1
    have h2' := s3 _ _ h2
    rw [Th.flat] at hcat' hlen
    have e1 : ("[" : Str).length = 1 := by decide
    have e2 : ("]" : Str).length = 1 := by decide
    rw [Th.app_len, Th.app_len] at hlen
    refine ⟨_, rfl, _, _, _, _, rfl, .tup h1', kit_tup_str K, _, rfl, ?_⟩
    refine iteF ?_
    refine ⟨_, rfl, a, _, _, _, rfl, rfl, SqT.of h1', rfl, rfl, _, rfl, ?_⟩
    refine iteF ?_
    refine ⟨_, rfl, a, _, _, _, rfl, rfl, SqT.of h1', rfl, rfl, _, rfl, ?_⟩
    refine iteT ?_
    refine ⟨_, rfl, _, _, rfl, rfl, le_size (by omega), rfl, _, rfl, a, _, _, _, rfl, rfl, SqT.of h1', rfl, _, l, ws, rfl, rfl, SqL.of h2', ?_, _, _, rfl, rfl, ?_, _, _, rfl, rfl, ?_, ?_⟩
    · rw [map_len]
      have e3 : (" " : Str).length = 1 := by decide
      rw [e3]
      cases ws with
      | nil => simp
      | cons y ws =>
        have := Th.join_len_eq " " (y :: ws) (by simp)
        rw [e3] at this
        omega
    · rw [Th.app_len]
      exact le_size (by omega)
    · rw [Th.app_len, Th.app_len]
      exact le_size (by omega)
    · refine ⟨line ++ "[" ++ Str.join " " ws ++ "]", rest, us, _, _, rfl, s3, hD3, hus, ?_, by rw [hhr.out, Th.heft]; omega⟩
      rw [← hcat']
      simp only [Th.app_assoc]
  | bundle hd' ps =>
    rw [Rep] at hu1
    obtain ⟨a, l, ws, rfl, h1, h2, h3⟩ := hu1
    have h1' := s3 _ _ h1
    have hpl := h3.len
    rw [Th.flat] at hcat' hlen
    have e1 : ("(" : Str).length = 1 := by decide
    have e2 : (")" : Str).length = 1 := by decide
    rw [Th.app_len, Th.app_len, Th.app_len] at hlen
    have hps : ps.length ≤ 1000000 := by
      have hm := hm.out
      rw [hhr.out, Th.heft] at hm
      have := hhl.out
      have := hz.out
      omega
    refine ⟨_, rfl, _, _, _, _, rfl, .tup h1', kit_tup_str K, _, rfl, ?_⟩
    refine iteF ?_
    refine ⟨_, rfl, a, _, _, _, rfl, rfl, SqT.of h1', rfl, rfl, _, rfl, ?_⟩
    refine iteF ?_
    refine ⟨_, rfl, a, _, _, _, rfl, rfl, SqT.of h1', rfl, rfl, _, rfl, ?_⟩
    refine iteF ?_
    refine ⟨_, rfl, .inl ⟨rfl, _, SqL.of hD3⟩, D, _, _, rfl, rfl, hD3, lt_size (by omega), ?_⟩
    have s4 : Same H (upd H3 D (.lst (us ++ [.str ")"]))) := same_upd s3 hD _
    have hD4 : (upd H3 D (.lst (us ++ [.str ")"]))) D = some (.lst (us ++ [.str ")"])) := upd_same
    generalize upd H3 D (.lst (us ++ [.str ")"])) = H4 at s4 hD4
    refine ⟨_, rfl, a, _, _, _, rfl, rfl, SqT.of (s4 _ _ h1), rfl, l, _, rfl, .inl (SqL.of (s4 _ _ h2)), _, _, rfl, rfl, _, rfl, _, rfl, (((ws.length : Nat) : Int) - 1), -1, rfl, ⟨by omega, by omega, by omega, by omega⟩, ?_⟩
    have en : ((((ws.length : Nat) : Int) - 1) - (-1)).toNat = ws.length := by omega
    rw [en]
    clear en
    refine for_rangeD (fun i σ H' => E1 fun kv => A3 (σ = [some v, some (.str line), some (.ref D), some (.ref a), kv]) (Same H H') (∃ pvs, H' D = some (.lst (us ++ [.str ")"] ++ pvs)) ∧ Reps H (Th.pushed ps i) pvs)) ⟨_, rfl, s4, [], by rw [List.append_nil]; exact hD4, Reps.nil⟩ ?_ ?_
    · rintro i σ H5 hi ⟨kv5, rfl, s5, pvs, hD5, hpv⟩
      have hj : ps.length - 1 - i < ws.length := by omega
      have hxj : ws[ps.length - 1 - i]? = some ws[ps.length - 1 - i] := List.getElem?_eq_getElem hj
      obtain ⟨tj, htj, hrj⟩ := h3.get hxj
      generalize ws[ps.length - 1 - i] = xj at hxj hrj
      have hgd : ps.getD (ps.length - 1 - i) (.word "") = tj := by rw [List.getD_eq_getElem?_getD, htj]; rfl
      have ek : (((ws.length : Nat) : Int) - 1 - (i : Int)) = ((ps.length - 1 - i : Nat) : Int) := by omega
      have hat : atI ws (((ws.length : Nat) : Int) - 1 - (i : Int)) = some xj := by rw [ek]; exact atI_nat hxj
      have hpvl : pvs.length ≤ 2 * i := by
        rw [← hpv.len]
        exact Th.pushed_len ps i
      have hl5 : (us ++ [V.str ")"] ++ pvs).length ≤ 4000000 := by
        rw [List.length_append, List.length_append, List.length_singleton]
        omega
      refine ⟨_, rfl, .inl ⟨rfl, _, SqL.of hD5⟩, _, rfl, a, _, _, _, rfl, rfl, SqT.of (s5 _ _ h1), rfl, _, rfl, l, _, _, xj, rfl, rfl, SqL.of (s5 _ _ h2), hat, D, _, _, rfl, rfl, hD5, lt_size (by omega), ?_⟩
      have s6 : Same H (upd H5 D (.lst (us ++ [.str ")"] ++ pvs ++ [xj]))) := same_upd s5 hD _
      have hD6 : (upd H5 D (.lst (us ++ [.str ")"] ++ pvs ++ [xj]))) D = some (.lst (us ++ [.str ")"] ++ pvs ++ [xj])) := upd_same
      generalize upd H5 D (.lst (us ++ [.str ")"] ++ pvs ++ [xj])) = H6 at s6 hD6
      refine ⟨_, rfl, _, _, rfl, rfl, _, rfl, ?_⟩
      refine ite2 (fun c => ?_) (fun c => ?_)
      · have c' : (0 : Int) < (((ws.length : Nat) : Int) - 1 - (i : Int)) := of_decide_eq_true c
        refine ⟨_, rfl, .inl ⟨rfl, _, SqL.of hD6⟩, D, _, _, rfl, rfl, hD6, lt_size (by rw [List.length_append, List.length_singleton]; omega), ?_⟩
        refine ⟨_, rfl, same_upd s6 hD _, pvs ++ [xj, .str ", "], by rw [upd_same]; simp, ?_⟩
        rw [Th.pushed, if_pos (by omega), hgd]
        exact Reps.app (Reps.cons hrj (Reps.cons (by rw [Rep]) Reps.nil)) hpv
      · have c' : ¬ (0 : Int) < (((ws.length : Nat) : Int) - 1 - (i : Int)) := fun z => c (decide_eq_true z)
        refine ⟨_, rfl, s6, pvs ++ [xj], by rw [hD6]; simp, ?_⟩
        rw [Th.pushed, if_neg (by omega), hgd]
        exact Reps.snoc hpv hrj
    · rintro σ H5 ⟨kv5, rfl, s5, pvs, hD5, hpv⟩
      rw [← hpl] at hpv
      have hpvl : pvs.length ≤ 2 * ps.length := by
        rw [← hpv.len]
        exact Th.pushed_len ps _
      have hl5 : (us ++ [V.str ")"] ++ pvs).length ≤ 4000000 := by
        rw [List.length_append, List.length_append, List.length_singleton]
        omega
      refine ⟨_, rfl, .inl ⟨rfl, _, SqL.of hD5⟩, _, rfl, a, _, _, _, rfl, rfl, SqT.of (s5 _ _ h1), rfl, _, _, rfl, rfl, le_size (by omega), D, _, _, rfl, rfl, hD5, lt_size (by omega), ?_⟩
      refine ⟨line, rest ++ [.word ")"] ++ Th.pushed ps ps.length ++ [.word (hd' ++ "(")], us ++ [.str ")"] ++ pvs ++ [.str (hd' ++ "(")], _, _, rfl, same_upd s5 hD _, upd_same, Reps.snoc (Reps.app hpv (Reps.snoc hus (by rw [Rep]))) (by rw [Rep]), ?_, ?_⟩
      · rw [List.reverse_append, List.reverse_append, List.reverse_append, Th.pushed_all, List.reverse_singleton, List.reverse_singleton, List.singleton_append, List.singleton_append, Th.cat, Th.cat_app, Th.cat_between, Th.cat, Th.flat, Th.flat, ← hcat']
        simp only [Th.app_assoc]
      · have hb := Th.hefts_between ps
        rw [← Th.pushed_all ps, Th.hefts_rev] at hb
        rw [hhr.out]
        simp only [Th.hefts_app, Th.hefts, Th.heft]
        omega
end
section
open Rp
open Th (T)
variable {P : Program} {w : World} {K : PySem.W.Frag} {mg : Str → Option Value} {base : Heap}
noncomputable def solid : T → Bool
  | .word _ => true
  | .run ws => ws.isEmpty
  | .bundle _ ps => ps.isEmpty
  | .tag _ _ => false
noncomputable def isTag : T → Bool
  | .tag _ _ => true
  | _ => false
noncomputable def unb (t : T) (wide W cell : Int) : Bool := solid t || decide (cell % 16 = 1) || (decide (wide ≤ W) && !decide (cell % 4 = 3))
inductive SpUnbI  (vs : List V) (H : Hp) (Q : VK) (a_3 : XK) : Prop
  | mk (t : T) (v : V) (wide W cell : Int) (h_0 : vs = [v, .int wide, .int W, .int cell]) (h_1 : Rep H t v) (h_2 : isTag t = false) (h_3 : Q (.bl (unb t wide W cell)) H) : SpUnbI  vs H Q a_3
noncomputable def spUnb  : Sp := fun vs H Q a_3 => SpUnbI  vs H Q a_3
theorem dec_int (a b : Int) : decide (V.int a = V.int b) = decide (a = b) := by
  by_cases h : a = b
  · rw [h, decide_eq_true rfl, decide_eq_true rfl]
  · rw [decide_eq_false h, decide_eq_false (fun z => h (V.int.inj z))]
theorem ok_unb {n : Nat} {f : Addr} {fd : FuncData} (TU : At K mg "_law_unbroken" s__law_unbroken ["_law_one", "_law_wide", "_law_width", "_law_cell"] f fd) (B : Bn mg) : FnOk P w K mg base CX0 (n + 1) f fd ["_law_one", "_law_wide", "_law_width", "_law_cell"] spUnb := by
  have sc := sc__law_unbroken
  refine TU.F.ok sc (fun vs H Q E h => ?_) (fun cdv A outer s H vs Q E hr h => ?_)
  · obtain ⟨t, v, wide, W, cell, rfl, _⟩ := h; rfl
  obtain ⟨t, v, wide, W, cell, rfl, R, ht, q⟩ := h
  have m_isinstance := B.isinstance
  have m_str := B.str
  have m_len := B.len
  have rest : ∃ tr, PSs (cxOf CX0 P w K mg base ["_law_one", "_law_wide", "_law_width", "_law_cell"] "_law_unbroken" (defScope s__law_unbroken) f cdv A outer s H E).nox (List.drop 1 (defBody s__law_unbroken)) tr ∧ (solid t = false → tr { nx := fun _ H' => Q .non H', rt := Q } [some v, some (.int wide), some (.int W), some (.int cell)] H) := by
    refine ⟨_, ((pss_cons (ps_if (pt_cmpR op_eq (pe_op op_mod (pv 3) pe_int) pe_int (nomark _))
      (pss_one (ps_ret pe_bl))
      pss_nil)
    (pss_one (ps_ret (pe_and (pe_cmpR op_le (pv 1) (pv 2) (nomark _)) (pe_one (pe_cmpR op_ne (pe_op op_mod (pv 3) pe_int) pe_int (nomark _)))))))), fun hs => ?_⟩
    refine ⟨_, rfl, _, _, rfl, rfl, (by show (0 : Int) < 16; decide), rfl, _, rfl, ?_⟩
    refine ite2 (fun c => ?_) (fun c => ?_)
    · have c' : cell % 16 = 1 := V.int.inj (of_decide_eq_true c)
      have e : unb t wide W cell = true := by rw [unb, hs, decide_eq_true c']; rfl
      rw [e] at q
      exact q
    · have c' : ¬ cell % 16 = 1 := fun z => c (decide_eq_true (congrArg V.int z))
      have e : unb t wide W cell = (decide (wide ≤ W) && !decide (cell % 4 = 3)) := by rw [unb, hs, decide_eq_false c']; rfl
      refine ⟨_, rfl, _, rfl, _, _, rfl, rfl, _, rfl, ?_⟩
      refine ite2 (fun c2 => ?_) (fun c2 => ?_)
      · have c2' : wide ≤ W := of_decide_eq_true c2
        refine ⟨_, rfl, _, _, rfl, rfl, (by show (0 : Int) < 4; decide), rfl, ?_⟩
        rw [e, decide_eq_true c2', Bool.true_and, ← dec_int] at q
        exact q
      · have c2' : ¬ wide ≤ W := fun z => c2 (decide_eq_true z)
        rw [e, decide_eq_false c2', Bool.false_and] at q
        exact q
  obtain ⟨tr, hr1, hr2⟩ := rest
  refine ⟨_, ((pss_cons (ps_if (PW.pt (pw_or (pt_val (pe_callB call_isinst rfl m_isinstance boot_isinstance' (pa_cons (pv 0) (pa_cons (pe_bltn (v := .ty "str") rfl m_str boot_str' rfl) pa_nil)))) (pw_or1 (pt_cmpR op_eq (pe_callB call_len_seq rfl m_len PySem.boot_len (pa_cons (pe_ix ix_tup (pv 0) (pe_un un_neg pe_int) (fun _ _ => rfl)) pa_nil)) pe_int (nomark _)))))
      (pss_one (ps_ret pe_bl))
      pss_nil)
    hr1)), ?_⟩
  have yes : solid t = true → Q (.bl true) H := fun e => by
    have e' : unb t wide W cell = true := by rw [unb, e]; rfl
    rw [e'] at q
    exact q
  cases t with
  | word x =>
    rw [Rep] at R
    subst R
    refine ⟨_, rfl, _, _, _, _, rfl, .str x, kit_str_str K, _, rfl, ?_⟩
    refine iteT ?_
    refine iteT ?_
    exact yes rfl
  | tag w' t => cases ht
  | run ws =>
    rw [Rep] at R
    obtain ⟨a, l, rfl, h1, h2⟩ := R
    refine ⟨_, rfl, _, _, _, _, rfl, .tup h1, kit_tup_str K, _, rfl, ?_⟩
    refine iteF ?_
    refine ⟨_, rfl, _, rfl, a, _, _, _, rfl, rfl, SqT.of h1, rfl, l, _, rfl, .inl (SqL.of h2), rfl, _, rfl, ?_⟩
    refine ite2 (fun c => ?_) (fun c => ?_)
    · have c' : (((ws.map V.str).length : Nat) : Int) = 0 := V.int.inj (of_decide_eq_true c)
      rw [List.length_map] at c'
      exact yes (by rw [solid, List.isEmpty_iff]; exact List.length_eq_zero_iff.mp (by omega))
    · have c' : ¬ (((ws.map V.str).length : Nat) : Int) = 0 := fun z => c (decide_eq_true (congrArg V.int z))
      rw [List.length_map] at c'
      refine hr2 ?_
      rw [solid, List.isEmpty_eq_false_iff]
      intro e
      rw [e] at c'
      exact c' rfl
  | bundle hd' ps =>
    rw [Rep] at R
    obtain ⟨a, l, us, rfl, h1, h2, h3⟩ := R
    have hl := h3.len
    refine ⟨_, rfl, _, _, _, _, rfl, .tup h1, kit_tup_str K, _, rfl, ?_⟩
    refine iteF ?_
    refine ⟨_, rfl, _, rfl, a, _, _, _, rfl, rfl, SqT.of h1, rfl, l, _, rfl, .inl (SqL.of h2), rfl, _, rfl, ?_⟩
    refine ite2 (fun c => ?_) (fun c => ?_)
    · have c' : ((us.length : Nat) : Int) = 0 := V.int.inj (of_decide_eq_true c)
      exact yes (by rw [solid, List.isEmpty_iff]; exact List.length_eq_zero_iff.mp (by omega))
    · have c' : ¬ ((us.length : Nat) : Int) = 0 := fun z => c (decide_eq_true (congrArg V.int z))
      refine hr2 ?_
      rw [solid, List.isEmpty_eq_false_iff]
      intro e
      rw [e] at hl
      exact c' (by rw [← hl]; rfl)
theorem join_snoc : ∀ (g : List Str) (x : Str), g ≠ [] → Str.join " " (g ++ [x]) = Str.join " " g ++ " " ++ x
  | [], _, h => absurd rfl h
  | [y], x, _ => rfl
  | y :: z :: g, x, _ => by
    show y ++ " " ++ Str.join " " (z :: g ++ [x]) = y ++ " " ++ Str.join " " (z :: g) ++ " " ++ x
    rw [join_snoc (z :: g) x (by simp)]
    simp only [Th.app_assoc]
inductive SpWordRowsI (K : PySem.W.Frag) (vs : List V) (H : Hp) (Q : VK) (a_3 : XK) : Prop
  | mk (a : Addr) (ws : List Str) (room cell : Int) (h_0 : vs = [.ref a, .int room, .int cell]) (h_1 : SqL K H a (ws.map V.str)) (h_2 : ws ≠ []) (h_3 : ws.length ≤ 1000000) (h_4 : (Str.join " " ws).length ≤ 1000000) (h_5 : ∀ (r : Addr) (H' : Hp) (gs : List (List Str)), H r = none → Same H H' → H' r = some (.lst ((gs.map (Str.join " ")).map V.str)) → gs.flatten = ws → (∀ g ∈ gs, g ≠ []) → (cell = 0 → gs = Fm.filledM Ly.sz ws room) → (cell = 3 → gs = ws.map fun x => [x]) → gs.length ≤ ws.length → Q (.ref r) H') : SpWordRowsI K vs H Q a_3
noncomputable def spWordRows (K : PySem.W.Frag) : Sp := fun vs H Q a_3 => SpWordRowsI K vs H Q a_3
theorem take_snoc' {α : Type} {xs : List α} {i : Nat} {y : α} (h : xs[i]? = some y) : xs.take (i + 1) = xs.take i ++ [y] := by
  rw [List.take_add_one, h]
  rfl
theorem ok_wordrows {n : Nat} {f : Addr} {fd : FuncData} (TU : At K mg "_law_word_rows" s__law_word_rows ["_law_words", "_law_room", "_law_cell"] f fd) (B : Bn mg) : FnOk P w K mg base CX0 (n + 1) f fd ["_law_words", "_law_room", "_law_cell"] (spWordRows K) := by
  have sc := sc__law_word_rows
  refine TU.F.ok sc (fun vs H Q E h => ?_) (fun cdv A outer s H vs Q E hr h => ?_)
  · obtain ⟨a, ws, room, cell, rfl, _⟩ := h; rfl
  obtain ⟨a, ws, room, cell, rfl, hS, hne, hwl, hwj, q⟩ := h
  have m_len := B.len
  have m_range := B.range
  obtain ⟨w0, ws', rfl⟩ : ∃ w0 ws', ws = w0 :: ws' := by
    cases ws with
    | nil => exact absurd rfl hne
    | cons x r => exact ⟨x, r, rfl⟩
  have hA_1 : PSs (XF__law_word_rows P w K mg base f cdv A outer s H E) (List.drop 4 (defBody s__law_word_rows)) _ := (pss_one (ps_ret (pv 3)))
  let tA_1 : L2.TS := rdOf hA_1
  have hB_1 : PSs _ _ tA_1 := hA_1
  have hA_2 : PSs (XF__law_word_rows P w K mg base f cdv A outer s H E) (List.drop 3 (defBody s__law_word_rows)) _ := (pss_cons (ps_expr (pe_bm PySem.F.plainAttrs_list PySem.F.slot_list_append PySem.F.type_list_append mt_append (pv 3) (pa_cons (pv 4) pa_nil))) hB_1)
  let tA_2 : L2.TS := rdOf hA_2
  have hB_2 : PSs _ _ tA_2 := hA_2
  have hA_3 : PSs (XF__law_word_rows P w K mg base f cdv A outer s H E) (List.drop 1 (thenA (ixA (thenA (ixA (defBody s__law_word_rows) 2)) 1))) _ := (pss_one (ps_setL (i := 4) sc.nd rfl rfl (pe_ix ix_list (pv 0) (pv 5) (fun _ _ => rfl))))
  let tA_3 : L2.TS := rdOf hA_3
  have hB_3 : PSs _ _ tA_3 := hA_3
  have hA_4 : PSs (XF__law_word_rows P w K mg base f cdv A outer s H E) (thenA (ixA (thenA (ixA (defBody s__law_word_rows) 2)) 1)) _ := (pss_cons (ps_expr (pe_bm PySem.F.plainAttrs_list PySem.F.slot_list_append PySem.F.type_list_append mt_append (pv 3) (pa_cons (pv 4) pa_nil))) hB_3)
  let tA_4 : L2.TS := rdOf hA_4
  have hB_4 : PSs _ _ tA_4 := hA_4
  have hA_5 : PSs (XF__law_word_rows P w K mg base f cdv A outer s H E) (elseA (ixA (thenA (ixA (defBody s__law_word_rows) 2)) 1)) _ := (pss_one (ps_setL (i := 4) sc.nd rfl rfl (pe_op op_add_str (pe_op op_add_str (pv 4) pe_str) (pe_ix ix_list (pv 0) (pv 5) (fun _ _ => rfl)))))
  let tA_5 : L2.TS := rdOf hA_5
  have hB_5 : PSs _ _ tA_5 := hA_5
  have hA_6 : PSs (XF__law_word_rows P w K mg base f cdv A outer s H E) (List.drop 1 (thenA (ixA (defBody s__law_word_rows) 2))) _ := (pss_one (ps_if (PW.pt (pw_or (pt_val (pv 6)) (pw_or1 (pt_cmpR op_gt (pe_op op_add (pe_op op_add (pe_callB call_len_str rfl m_len PySem.boot_len (pa_cons (pv 4) pa_nil)) pe_int) (pe_callB call_len_str rfl m_len PySem.boot_len (pa_cons (pe_ix ix_list (pv 0) (pv 5) (fun _ _ => rfl)) pa_nil))) (pv 1) (nomark _))))) hB_4 hB_5))
  let tA_6 : L2.TS := rdOf hA_6
  have hB_6 : PSs _ _ tA_6 := hA_6
  have hA_7 : PSs (XF__law_word_rows P w K mg base f cdv A outer s H E) (thenA (ixA (defBody s__law_word_rows) 2)) _ := (pss_cons (ps_setL (i := 6) sc.nd rfl rfl (pe_and (pe_cmpR op_eq (pe_op op_mod (pv 2) pe_int) pe_int (nomark _)) (pe_one (pe_cmpR op_eq (pe_op op_mod (pe_op op_fdiv (pv 2) pe_int) (pe_op op_add (pv 5) pe_int)) pe_int (nomark _))))) hB_6)
  let tA_7 : L2.TS := rdOf hA_7
  have hB_7 : PSs _ _ tA_7 := hA_7
  have hA_8 : PSs (XF__law_word_rows P w K mg base f cdv A outer s H E) (List.drop 2 (defBody s__law_word_rows)) _ := (pss_cons (ps_for PassesOwn.never rfl (pi_range2 rfl m_range (pa_cons pe_int (pa_cons (pe_callB call_len_seq rfl m_len PySem.boot_len (pa_cons (pv 0) pa_nil)) pa_nil))) (pg_nameL (i := 5) sc.nd rfl rfl) hB_7) hB_2)
  let tA_8 : L2.TS := rdOf hA_8
  have hB_8 : PSs _ _ tA_8 := hA_8
  have hA_9 : PSs (XF__law_word_rows P w K mg base f cdv A outer s H E) (List.drop 1 (defBody s__law_word_rows)) _ := (pss_cons (ps_setL (i := 4) sc.nd rfl rfl (pe_ix ix_list (pv 0) pe_int (fun _ _ => rfl))) hB_8)
  let tA_9 : L2.TS := rdOf hA_9
  have hB_9 : PSs _ _ tA_9 := hA_9
  have hA_10 : PSs (XF__law_word_rows P w K mg base f cdv A outer s H E) (defBody s__law_word_rows) _ := (pss_cons (ps_setL (i := 3) sc.nd rfl rfl (pe_lst pa_nil)) hB_9)
  let tA_10 : L2.TS := rdOf hA_10
  have hB_10 : PSs _ _ tA_10 := hA_10
  refine ⟨_, hB_10, ?_⟩
  refine ⟨(by show 0 ≤ sizeLine; decide), fun r hr0 => ?_⟩
  have s0 : Same H (upd H r (.lst [])) := same_new hr0 _
  have e0 : (upd H r (.lst [])) r = some (.lst []) := upd_same
  generalize upd H r (.lst []) = H0 at s0 e0
  have hS0 := s0.seq hS
  refine ⟨_, rfl, a, _, _, .str w0, rfl, rfl, hS0, (show atI _ ((0 : Nat) : Int) = _ from atI_nat rfl), ?_⟩
  refine ⟨_, rfl, a, _, rfl, .inl hS0, 1, (((w0 :: ws').map V.str).length : Int), rfl, ⟨by omega, by omega, by omega, by rw [List.length_map]; omega⟩, ?_⟩
  have el : ((((w0 :: ws').map V.str).length : Int) - 1).toNat = ws'.length := by rw [List.length_map, List.length_cons]; omega
  rw [el]
  clear el
  have hjw : ∀ g : List Str, (∃ p s, p ++ g ++ s = w0 :: ws') → Fm.jl Ly.sz g ≤ 1000000 := by
    rintro g ⟨p, s, e⟩
    have h1 := jl_take g s
    have h2 := jl_drop p (g ++ s)
    rw [← List.append_assoc, e] at h2
    have h3 := join_jl (w0 :: ws')
    omega
  refine for_range (fun i σ H' => ∃ (done : List (List Str)) (cur : List Str) (kv ev : Option V), σ = [some (.ref a), some (.int room), some (.int cell), some (.ref r), some (.str (Str.join " " cur)), kv, ev] ∧ Same H H' ∧ H' r = some (.lst ((done.map (Str.join " ")).map V.str)) ∧ cur ≠ [] ∧
      (done ++ [cur]).flatten = (w0 :: ws').take (i + 1) ∧ (∀ g ∈ done, g ≠ []) ∧ (cell = 0 → Fm.run Ly.sz room ((w0 :: ws').take (i + 1)) = (done ++ [cur], (Fm.jl Ly.sz cur : Int))) ∧ (cell = 3 → done ++ [cur] = ((w0 :: ws').take (i + 1)).map fun x => [x]) ∧ done.length ≤ i)
    ⟨[], [w0], none, none, rfl, s0, e0, by simp, by simp, by simp, fun _ => ?_, fun _ => by simp, Nat.le_refl _⟩ ?_ ?_
  · show Fm.run Ly.sz room [w0] = _
    unfold Fm.run
    rw [List.foldl_cons, List.foldl_nil, Fm.turn, if_neg (fun z => z.1 rfl)]
    rfl
  · rintro i σ H1 hi ⟨done, cur, kv, ev, rfl, s1, hr1, hcur, hfl, hdn, hc0, hc3, hdl⟩
    have hS1 := s1.seq hS
    have hlt : i + 1 < (w0 :: ws').length := by rw [List.length_cons]; omega
    have hy : (w0 :: ws')[i + 1]? = some ((w0 :: ws')[i + 1]) := List.getElem?_eq_getElem hlt
    generalize (w0 :: ws')[i + 1] = y at hy
    have ht := take_snoc' hy
    have hat : atI ((w0 :: ws').map V.str) (1 + (i : Int)) = some (.str y) := by
      rw [show (1 + (i : Int)) = ((i + 1 : Nat) : Int) by omega]
      exact atI_nat (by rw [List.getElem?_map, hy]; rfl)
    have hsplit : ∃ s, (done ++ [cur]).flatten ++ [y] ++ s = w0 :: ws' := ⟨(w0 :: ws').drop (i + 1 + 1), by rw [hfl, ← ht, List.take_append_drop]⟩
    obtain ⟨suf, hsuf⟩ := hsplit
    rw [List.flatten_append, List.flatten_singleton] at hsuf
    have hcl : Fm.jl Ly.sz (cur ++ [y]) ≤ 1000000 := hjw _ ⟨done.flatten, suf, by rw [← List.append_assoc]; exact hsuf⟩
    have hcl' := hcl
    rw [Fm.jl_snoc Ly.sz cur y hcur] at hcl'
    have hyl : y.length ≤ 1000000 := by have : Ly.sz y = y.length := rfl; omega
    have hjc := join_jl cur
    have brk : ∀ ev' : Option V, (cell = 0 → room < (Fm.jl Ly.sz cur : Int) + 1 + (y.length : Int)) →
        ∃ (done' : List (List Str)) (cur' : List Str) (kv ev : Option V), [some (V.ref a), some (.int room), some (.int cell), some (.ref r), some (.str y), some (.int (1 + (i : Int))), ev'] = [some (.ref a), some (.int room), some (.int cell), some (.ref r), some (.str (Str.join " " cur')), kv, ev] ∧
          Same H (upd H1 r (.lst ((done.map (Str.join " ")).map V.str ++ [.str (Str.join " " cur)]))) ∧ (upd H1 r (.lst ((done.map (Str.join " ")).map V.str ++ [.str (Str.join " " cur)]))) r = some (.lst ((done'.map (Str.join " ")).map V.str)) ∧ cur' ≠ [] ∧
          (done' ++ [cur']).flatten = (w0 :: ws').take (i + 1 + 1) ∧ (∀ g ∈ done', g ≠ []) ∧ (cell = 0 → Fm.run Ly.sz room ((w0 :: ws').take (i + 1 + 1)) = (done' ++ [cur'], (Fm.jl Ly.sz cur' : Int))) ∧ (cell = 3 → done' ++ [cur'] = ((w0 :: ws').take (i + 1 + 1)).map fun x => [x]) ∧ done'.length ≤ i + 1 := by
      intro ev' hb
      refine ⟨done ++ [cur], [y], _, _, rfl, same_upd s1 hr0 _, by rw [upd_same]; simp, by simp, ?_, ?_, ?_, ?_, by simp; omega⟩
      · rw [List.flatten_append, hfl, ht]; simp
      · intro g hg
        rcases List.mem_append.mp hg with h | h
        · exact hdn g h
        · have e : g = cur := by simpa using h
          rw [e]; exact hcur
      · intro z
        rw [ht, Fm.run_snoc, hc0 z, Fm.turn, if_neg (fun c => by have := hb z; have := c.2; have : Ly.sz y = y.length := rfl; omega)]
        rfl
      · intro z
        rw [ht, hc3 z, List.map_append]
        rfl
    have app : ∀ ev' : Option V, cell ≠ 3 → (cell = 0 → (Fm.jl Ly.sz cur : Int) + 1 + (y.length : Int) ≤ room) →
        ∃ (done' : List (List Str)) (cur' : List Str) (kv ev : Option V), [some (V.ref a), some (.int room), some (.int cell), some (.ref r), some (.str (Str.join " " cur ++ " " ++ y)), some (.int (1 + (i : Int))), ev'] = [some (.ref a), some (.int room), some (.int cell), some (.ref r), some (.str (Str.join " " cur')), kv, ev] ∧
          Same H H1 ∧ H1 r = some (.lst ((done'.map (Str.join " ")).map V.str)) ∧ cur' ≠ [] ∧
          (done' ++ [cur']).flatten = (w0 :: ws').take (i + 1 + 1) ∧ (∀ g ∈ done', g ≠ []) ∧ (cell = 0 → Fm.run Ly.sz room ((w0 :: ws').take (i + 1 + 1)) = (done' ++ [cur'], (Fm.jl Ly.sz cur' : Int))) ∧ (cell = 3 → done' ++ [cur'] = ((w0 :: ws').take (i + 1 + 1)).map fun x => [x]) ∧ done'.length ≤ i + 1 := by
      intro ev' h3 hb
      refine ⟨done, cur ++ [y], some (.int (1 + (i : Int))), ev', by rw [join_snoc cur y hcur], s1, hr1, by simp, ?_, hdn, ?_, fun z => absurd z h3, by omega⟩
      · rw [ht, ← hfl, List.flatten_append, List.flatten_append]; simp
      · intro z
        rw [ht, Fm.run_snoc, hc0 z, Fm.turn, if_pos ⟨by simp, by have := hb z; have : Ly.sz y = y.length := rfl; omega⟩, Fm.onLast_snoc, Fm.jl_snoc Ly.sz cur y hcur]
        congr 1
    refine ⟨_, rfl, _, _, rfl, rfl, (by show (0 : Int) < 4; decide), rfl, _, rfl, ?_⟩
    refine ite2 (fun ce => ?_) (fun ce => ?_)
    · have ce' : cell % 4 = 3 := V.int.inj (of_decide_eq_true ce)
      refine ⟨_, rfl, _, _, rfl, rfl, ⟨by decide, by decide⟩, _, rfl, _, _, rfl, rfl, _, _, rfl, rfl, (by show (0 : Int) < 1 + (i : Int) + 2; omega), rfl, ?_⟩
      refine ⟨_, rfl, _, rfl, ?_⟩
      refine ite2 (fun c1 => ?_) (fun c1 => ?_)
      · refine ⟨_, rfl, .inl ⟨rfl, _, SqL.of hr1⟩, _, rfl, r, _, _, rfl, rfl, hr1, lt_size (by simp; omega), ?_⟩
        refine ⟨_, rfl, _, rfl, a, _, _, .str y, rfl, rfl, (same_upd s1 hr0 _).seq hS, hat, ?_⟩
        exact brk _ (fun z => by rw [z] at ce'; omega)
      · have c1' : ¬ cell / 4 % (1 + (i : Int) + 2) = 0 := fun z => c1 (decide_eq_true (congrArg V.int z))
        have n3 : cell ≠ 3 := fun z => c1' (by rw [z]; exact Int.zero_emod _)
        refine ⟨_, rfl, _, rfl, le_size (by omega), _, _, rfl, rfl, _, rfl, _, rfl, a, _, _, .str y, rfl, rfl, hS1, hat, y, rfl, le_size (by omega), _, _, rfl, rfl, _, rfl, _, _, rfl, rfl, _, rfl, ?_⟩
        refine ite2 (fun c2 => ?_) (fun c2 => ?_)
        · refine ⟨_, rfl, .inl ⟨rfl, _, SqL.of hr1⟩, _, rfl, r, _, _, rfl, rfl, hr1, lt_size (by simp; omega), ?_⟩
          refine ⟨_, rfl, _, rfl, a, _, _, .str y, rfl, rfl, (same_upd s1 hr0 _).seq hS, hat, ?_⟩
          exact brk _ (fun z => by rw [z] at ce'; omega)
        · refine ⟨_, rfl, _, _, rfl, rfl, le_size (by show _ + 1 ≤ _; omega), _, rfl, _, rfl, a, _, _, .str y, rfl, rfl, hS1, hat, _, _, rfl, rfl, le_size (by rw [len_app]; show _ + 1 + _ ≤ _; omega), ?_⟩
          exact app _ n3 (fun z => by rw [z] at ce'; omega)
    · have ce' : ¬ cell % 4 = 3 := fun z => ce (decide_eq_true (congrArg V.int z))
      have n3 : cell ≠ 3 := fun z => ce' (by rw [z]; rfl)
      refine ⟨_, rfl, _, rfl, ?_⟩
      refine iteF ?_
      refine ⟨_, rfl, _, rfl, le_size (by omega), _, _, rfl, rfl, _, rfl, _, rfl, a, _, _, .str y, rfl, rfl, hS1, hat, y, rfl, le_size (by omega), _, _, rfl, rfl, _, rfl, _, _, rfl, rfl, _, rfl, ?_⟩
      refine ite2 (fun c2 => ?_) (fun c2 => ?_)
      · have c2' : room < ((Str.join " " cur).length : Int) + 1 + (y.length : Int) := of_decide_eq_true c2
        refine ⟨_, rfl, .inl ⟨rfl, _, SqL.of hr1⟩, _, rfl, r, _, _, rfl, rfl, hr1, lt_size (by simp; omega), ?_⟩
        refine ⟨_, rfl, _, rfl, a, _, _, .str y, rfl, rfl, (same_upd s1 hr0 _).seq hS, hat, ?_⟩
        exact brk _ (fun _ => by rw [hjc] at c2'; exact c2')
      · have c2' : ¬ room < ((Str.join " " cur).length : Int) + 1 + (y.length : Int) := fun z => c2 (decide_eq_true z)
        refine ⟨_, rfl, _, _, rfl, rfl, le_size (by show _ + 1 ≤ _; omega), _, rfl, _, rfl, a, _, _, .str y, rfl, rfl, hS1, hat, _, _, rfl, rfl, le_size (by rw [len_app]; show _ + 1 + _ ≤ _; omega), ?_⟩
        exact app _ n3 (fun _ => by rw [hjc] at c2'; omega)
  · rintro σ H1 ⟨done, cur, kv, ev, rfl, s1, hr1, hcur, hfl, hdn, hc0, hc3, hdl⟩
    refine ⟨_, rfl, .inl ⟨rfl, _, SqL.of hr1⟩, _, rfl, r, _, _, rfl, rfl, hr1, lt_size (by simp at hwl ⊢; omega), ?_⟩
    have ea : (w0 :: ws').take (ws'.length + 1) = w0 :: ws' := List.take_of_length_le (by simp)
    rw [ea] at hfl hc0 hc3
    refine ⟨_, rfl, q r _ (done ++ [cur]) hr0 (same_upd s1 hr0 _) (by rw [upd_same]; simp) hfl ?_ (fun z => ?_) hc3 (by simp; omega)⟩
    · intro g hg
      rcases List.mem_append.mp hg with h | h
      · exact hdn g h
      · have e : g = cur := by simpa using h
        rw [e]; exact hcur
    · rw [Fm.filledM, hc0 z]
end
section
open Rp
open Th (T)
variable {P : Program} {w : World} {K : PySem.W.Frag} {mg : Str → Option Value} {base : Heap}
noncomputable def ItemAt (H H' : Hp) (v : V) (x : Ly.It) : Prop := ∃ (p : Addr) (u : V), v = .ref p ∧ H' p = some (.tup [u, .int (x.i : Int), .str x.lead, .str x.tail]) ∧ Rep H x.t u
noncomputable def ItemsAt (H H' : Hp) : List V → List Ly.It → Prop
  | [], [] => True
  | v :: vs, x :: xs => ItemAt H H' v x ∧ ItemsAt H H' vs xs
  | _, _ => False
noncomputable def TK (H H' : Hp) : Prop := ∀ b xs, H b = some (.tup xs) → H' b = some (.tup xs)
theorem TK.of {H H' : Hp} (s : Same H H') : TK H H' := fun b xs h => s b _ h
theorem TK.trans {H H1 H2 : Hp} (a : TK H H1) (b : TK H1 H2) : TK H H2 := fun c xs h => b c xs (a c xs h)
theorem TK.lst {H : Hp} {p : Addr} {xs : List V} (h : H p = some (.lst xs)) (o : HO) : TK H (upd H p o) := fun b ys q => by
  rw [upd_ne (fun e => by rw [e, h] at q; cases q)]
  exact q
theorem ItemsAt.mono {H H1 H2 : Hp} (k : TK H1 H2) : ∀ {vs : List V} {xs : List Ly.It}, ItemsAt H H1 vs xs → ItemsAt H H2 vs xs
  | [], [], _ => True.intro
  | _ :: _, _ :: _, ⟨⟨p, u, e, h1, h2⟩, t⟩ => ⟨⟨p, u, e, k p _ h1, h2⟩, ItemsAt.mono k t⟩
  | [], _ :: _, h => h.elim
  | _ :: _, [], h => h.elim
theorem ItemsAt.len {H H1 : Hp} : ∀ {vs : List V} {xs : List Ly.It}, ItemsAt H H1 vs xs → vs.length = xs.length
  | [], [], _ => rfl
  | _ :: _, _ :: _, h => congrArg (· + 1) (ItemsAt.len h.2)
  | [], _ :: _, h => h.elim
  | _ :: _, [], h => h.elim
theorem ItemsAt.snoc {H H1 : Hp} {v : V} {x : Ly.It} (h : ItemAt H H1 v x) : ∀ {vs : List V} {xs : List Ly.It}, ItemsAt H H1 vs xs → ItemsAt H H1 (vs ++ [v]) (xs ++ [x])
  | [], [], _ => ⟨h, True.intro⟩
  | _ :: _, _ :: _, q => ⟨q.1, ItemsAt.snoc h q.2⟩
  | [], _ :: _, q => q.elim
  | _ :: _, [], q => q.elim
theorem ItemsAt.last {H H1 : Hp} {x : Ly.It} : ∀ {vs : List V} {xs : List Ly.It}, ItemsAt H H1 vs (xs ++ [x]) → ∃ us v, vs = us ++ [v] ∧ ItemsAt H H1 us xs ∧ ItemAt H H1 v x
  | [], [], h => h.elim
  | [v], [], h => ⟨[], v, rfl, True.intro, h.1⟩
  | _ :: _ :: _, [], h => h.2.elim
  | [], _ :: _, h => h.elim
  | v :: vs, y :: xs, h => by
    refine hideG fun G_1 back_1 => ?_
    obtain ⟨us, u, e, h1, h2⟩ := ItemsAt.last h.2
    refine back_1 ?_
    clear back_1 G_1
    exact ⟨v :: us, u, by rw [e]; rfl, ⟨h.1, h1⟩, h2⟩
inductive SpOtherI (K : PySem.W.Frag) (vs : List V) (H : Hp) (Q : VK) (a_3 : XK) : Prop
  | mk (t : T) (v : V) (W : Int) (c : Addr) (cs : List Int) (h_0 : vs = [v, .int W, .ref c]) (h_1 : Rep H t v) (h_2 : SqL K H c (cs.map V.int)) (h_3 : cs ≠ []) (h_4 : Th.size t ≤ 900000) (h_5 : ∀ (r : Addr) (H' : Hp) (rows : List Str), H r = none → Same H H' → H' r = some (.lst (rows.map V.str)) → Ly.Any t 0 "" "" rows → (cs = [0] → rows = Ly.lay W t 0 "" "") → (cs = [3] → True) → rows.length ≤ Th.size t → Q (.ref r) H') : SpOtherI K vs H Q a_3
noncomputable def spOther (K : PySem.W.Frag) : Sp := fun vs H Q a_3 => SpOtherI K vs H Q a_3
theorem rule_unb {t : T} {wide W : Int} (h : isTag t = false) : unb t wide W 0 = (solid t || decide (wide ≤ W)) := by
  rw [unb]
  have e1 : decide ((0 : Int) % 16 = 1) = false := by decide
  have e2 : decide ((0 : Int) % 4 = 3) = false := by decide
  rw [e1, e2]
  simp
theorem lay_flat {W : Int} {t : T} {i : Nat} {lead tail : Str} (ht : isTag t = false) (h : (solid t || decide (((Ly.flatRow t i lead tail).length : Int) ≤ W)) = true) : Ly.lay W t i lead tail = [Ly.flatRow t i lead tail] := by
  cases t with
  | word x => rw [Ly.lay]
  | tag w t => cases ht
  | run ws =>
    rw [Ly.lay, if_pos]
    rw [Bool.or_eq_true] at h
    exact h.imp (fun z => List.isEmpty_iff.mp z) of_decide_eq_true
  | bundle h' ps =>
    rw [Ly.lay, if_pos]
    rw [Bool.or_eq_true] at h
    exact h.imp (fun z => List.isEmpty_iff.mp z) of_decide_eq_true
theorem any_flat {t : T} {i : Nat} {lead tail : Str} (ht : isTag t = false) : Ly.Any t i lead tail [Ly.flatRow t i lead tail] := by
  cases t with
  | word x => exact .word
  | tag w t => cases ht
  | run ws => exact .flatR
  | bundle h' ps => exact .flatB
theorem ok_other {n : Nat} {f g h k : Addr} {fd gd hd kd : FuncData} (TO : At K mg "_law_other_rows" s__law_other_rows ["_law_thing", "_law_width", "_law_cells"] f fd) (TL : At K mg "_law_flat_line" s__law_flat_line ["_law_thing"] g gd)
    (TU : At K mg "_law_unbroken" s__law_unbroken ["_law_one", "_law_wide", "_law_width", "_law_cell"] h hd) (TW : At K mg "_law_word_rows" s__law_word_rows ["_law_words", "_law_room", "_law_cell"] k kd) (B : Bn mg) :
    FnOk P w K mg base CX0 (n + 2) f fd ["_law_thing", "_law_width", "_law_cells"] (spOther K) := by
  have sc := sc__law_other_rows
  refine TO.F.ok sc (fun vs H Q E h => ?_) (fun cdv A outer s H vs Q E hr h => ?_)
  · obtain ⟨t, v, W, c, cs, rfl, _⟩ := h; rfl
  refine hideG fun G_2 back_2 => ?_
  obtain ⟨t, v, W, c, cs, rfl, R, hC, hcs, hsz, q⟩ := h
  refine back_2 ?_
  clear back_2 G_2
  have m_len := B.len
  have m_range := B.range
  have m_isinstance := B.isinstance
  have m_tuple := B.tuple
  have m_int := B.int
  have hu : HuP _ := Nat.lt_of_succ_lt (hu_of hr)
  have G__law_flat_line : FnOk P w K mg base CX0 (n + 1) g gd _ _ := ok_line TL B
  have G__law_unbroken : FnOk P w K mg base CX0 (n + 1) h hd _ _ := ok_unb TU B
  have G__law_word_rows : FnOk P w K mg base CX0 (n + 1) k kd _ _ := ok_wordrows TW B
  have m__law_flat_line := TL.m
  have k__law_flat_line := TL.F.kp
  have b__law_flat_line := TL.b
  have m__law_unbroken := TU.m
  have k__law_unbroken := TU.F.kp
  have b__law_unbroken := TU.b
  have m__law_word_rows := TW.m
  have k__law_word_rows := TW.F.kp
  have b__law_word_rows := TW.b
  have hfl := Th.flat_le t
  have hwt := Ly.wt_le t
  have hcap := Ly.cap_le t
  have e0 : ("" : Str).length = 0 := by decide
  have hA_1 : PSs (XF__law_other_rows P w K mg base f cdv A outer s H E) (List.drop 4 (defBody s__law_other_rows)) _ := (pss_one (ps_ret (pv 3)))
  let tA_1 : L2.TS := rdOf hA_1
  have hB_1 : PSs _ _ tA_1 := hA_1
  have hA_2 : PSs (XF__law_other_rows P w K mg base f cdv A outer s H E) (List.drop 5 (thenA (ixA (defBody s__law_other_rows) 3))) _ := (pss_one (ps_setL (i := 4) sc.nd rfl rfl (pe_op op_add (pv 4) pe_int)))
  let tA_2 : L2.TS := rdOf hA_2
  have hB_2 : PSs _ _ tA_2 := hA_2
  have hA_3 : PSs (XF__law_other_rows P w K mg base f cdv A outer s H E) (thenA (ixA (thenA (ixA (defBody s__law_other_rows) 3)) 4)) _ := (pss_one (ps_expr (pe_bm PySem.F.plainAttrs_list PySem.F.slot_list_append PySem.F.type_list_append mt_append (pv 5) (pa_cons (pe_tup (pa_cons (pe_ix ix_tup (pv 6) pe_int (fun _ _ => rfl)) (pa_cons (pv 7) (pa_cons (pe_op op_add_str (pe_op op_add_str (pv 8) (pe_ix ix_tup (pv 6) pe_int (fun _ _ => rfl))) pe_str) (pa_cons (pv 9) pa_nil))))) pa_nil))))
  let tA_3 : L2.TS := rdOf hA_3
  have hB_3 : PSs _ _ tA_3 := hA_3
  have hA_4 : PSs (XF__law_other_rows P w K mg base f cdv A outer s H E) (thenA (ixA (elseA (ixA (thenA (ixA (defBody s__law_other_rows) 3)) 4)) 0)) _ := (pss_one (ps_expr (pe_bm PySem.F.plainAttrs_list PySem.F.slot_list_append PySem.F.type_list_append mt_append (pv 3) (pa_cons (pv 12) pa_nil))))
  let tA_4 : L2.TS := rdOf hA_4
  have hB_4 : PSs _ _ tA_4 := hA_4
  have hA_5 : PSs (XF__law_other_rows P w K mg base f cdv A outer s H E) (List.drop 2 (thenA (ixA (elseA (ixA (elseA (ixA (thenA (ixA (defBody s__law_other_rows) 3)) 4)) 0)) 0))) _ := (pss_one (ps_expr (pe_bm PySem.F.plainAttrs_list PySem.F.slot_list_append PySem.F.type_list_append mt_append (pv 3) (pa_cons (pe_op op_add_str (pe_op op_add_str (pe_op op_blank pe_str (pv 7)) pe_str) (pv 9)) pa_nil))))
  let tA_5 : L2.TS := rdOf hA_5
  have hB_5 : PSs _ _ tA_5 := hA_5
  have hA_6 : PSs (XF__law_other_rows P w K mg base f cdv A outer s H E) (thenA (ixA (thenA (ixA (elseA (ixA (elseA (ixA (thenA (ixA (defBody s__law_other_rows) 3)) 4)) 0)) 0)) 1)) _ := (pss_one (ps_expr (pe_bm PySem.F.plainAttrs_list PySem.F.slot_list_append PySem.F.type_list_append mt_append (pv 3) (pa_cons (pe_op op_add_str (pe_op op_add_str (pe_op op_blank pe_str (pv 7)) pe_str) (pv 13)) pa_nil))))
  let tA_6 : L2.TS := rdOf hA_6
  have hB_6 : PSs _ _ tA_6 := hA_6
  have hA_7 : PSs (XF__law_other_rows P w K mg base f cdv A outer s H E) (List.drop 1 (thenA (ixA (elseA (ixA (elseA (ixA (thenA (ixA (defBody s__law_other_rows) 3)) 4)) 0)) 0))) _ := (pss_cons (ps_for PassesOwn.never rfl (pi_list (pe_call G__law_word_rows hr rfl m__law_word_rows k__law_word_rows b__law_word_rows .nil pass0 (pa_cons (pe_ix ix_tup (pv 6) pe_int (fun _ _ => rfl)) (pa_cons (pe_op op_sub (pe_op op_sub (pv 1) (pv 7)) pe_int) (pa_cons (pv 10) pa_nil))))) (pg_nameL (i := 13) sc.nd rfl rfl) hB_6) hB_5)
  let tA_7 : L2.TS := rdOf hA_7
  have hB_7 : PSs _ _ tA_7 := hA_7
  have hA_8 : PSs (XF__law_other_rows P w K mg base f cdv A outer s H E) (thenA (ixA (elseA (ixA (elseA (ixA (thenA (ixA (defBody s__law_other_rows) 3)) 4)) 0)) 0)) _ := (pss_cons (ps_expr (pe_bm PySem.F.plainAttrs_list PySem.F.slot_list_append PySem.F.type_list_append mt_append (pv 3) (pa_cons (pe_op op_add_str (pv 11) pe_str) pa_nil))) hB_7)
  let tA_8 : L2.TS := rdOf hA_8
  have hB_8 : PSs _ _ tA_8 := hA_8
  have hA_9 : PSs (XF__law_other_rows P w K mg base f cdv A outer s H E) (List.drop 1 (thenA (ixA (elseA (ixA (elseA (ixA (elseA (ixA (thenA (ixA (defBody s__law_other_rows) 3)) 4)) 0)) 0)) 2))) _ := (pss_one (ps_expr (pe_bm PySem.F.plainAttrs_list PySem.F.slot_list_append PySem.F.type_list_append mt_append (pv 5) (pa_cons (pe_tup (pa_cons (pe_ix ix_list (pe_ix ix_tup (pv 6) pe_int (fun _ _ => rfl)) (pv 14) (fun _ _ => rfl)) (pa_cons (pe_op op_add (pv 7) pe_int) (pa_cons pe_str (pa_cons (pv 15) pa_nil))))) pa_nil))))
  let tA_9 : L2.TS := rdOf hA_9
  have hB_9 : PSs _ _ tA_9 := hA_9
  have hA_10 : PSs (XF__law_other_rows P w K mg base f cdv A outer s H E) (thenA (ixA (elseA (ixA (elseA (ixA (elseA (ixA (thenA (ixA (defBody s__law_other_rows) 3)) 4)) 0)) 0)) 2)) _ := (pss_cons (ps_setL (i := 15) sc.nd rfl rfl (pe_ix ix_list (pe_lst (pa_cons pe_str (pa_cons pe_str pa_nil))) (pe_callTy call_int1 rfl m_int boot_int' (pa_cons (pe_cmpR op_eq (pe_op op_add (pv 14) pe_int) (pe_callB call_len_seq rfl m_len PySem.boot_len (pa_cons (pe_ix ix_tup (pv 6) pe_int (fun _ _ => rfl)) pa_nil)) (nomark _)) pa_nil)) (fun _ _ => rfl))) hB_9)
  let tA_10 : L2.TS := rdOf hA_10
  have hB_10 : PSs _ _ tA_10 := hA_10
  have hA_11 : PSs (XF__law_other_rows P w K mg base f cdv A outer s H E) (List.drop 2 (elseA (ixA (elseA (ixA (elseA (ixA (thenA (ixA (defBody s__law_other_rows) 3)) 4)) 0)) 0))) _ := (pss_one (ps_for PassesOwn.never rfl (pi_range3 rfl m_range (pa_cons (pe_op op_sub (pe_callB call_len_seq rfl m_len PySem.boot_len (pa_cons (pe_ix ix_tup (pv 6) pe_int (fun _ _ => rfl)) pa_nil)) pe_int) (pa_cons (pe_un un_neg pe_int) (pa_cons (pe_un un_neg pe_int) pa_nil)))) (pg_nameL (i := 14) sc.nd rfl rfl) hB_10))
  let tA_11 : L2.TS := rdOf hA_11
  have hB_11 : PSs _ _ tA_11 := hA_11
  have hA_12 : PSs (XF__law_other_rows P w K mg base f cdv A outer s H E) (List.drop 1 (elseA (ixA (elseA (ixA (elseA (ixA (thenA (ixA (defBody s__law_other_rows) 3)) 4)) 0)) 0))) _ := (pss_cons (ps_expr (pe_bm PySem.F.plainAttrs_list PySem.F.slot_list_append PySem.F.type_list_append mt_append (pv 5) (pa_cons (pe_tup (pa_cons (pe_op op_add_str (pe_op op_add_str (pe_op op_blank pe_str (pv 7)) pe_str) (pv 9)) (pa_cons pe_int (pa_cons pe_str (pa_cons pe_str pa_nil))))) pa_nil))) hB_11)
  let tA_12 : L2.TS := rdOf hA_12
  have hB_12 : PSs _ _ tA_12 := hA_12
  have hA_13 : PSs (XF__law_other_rows P w K mg base f cdv A outer s H E) (elseA (ixA (elseA (ixA (elseA (ixA (thenA (ixA (defBody s__law_other_rows) 3)) 4)) 0)) 0)) _ := (pss_cons (ps_expr (pe_bm PySem.F.plainAttrs_list PySem.F.slot_list_append PySem.F.type_list_append mt_append (pv 3) (pa_cons (pe_op op_add_str (pe_op op_add_str (pv 11) (pe_ix ix_tup (pv 6) pe_int (fun _ _ => rfl))) pe_str) pa_nil))) hB_12)
  let tA_13 : L2.TS := rdOf hA_13
  have hB_13 : PSs _ _ tA_13 := hA_13
  have hA_14 : PSs (XF__law_other_rows P w K mg base f cdv A outer s H E) (elseA (ixA (elseA (ixA (thenA (ixA (defBody s__law_other_rows) 3)) 4)) 0)) _ := (pss_one (ps_if (pt_cmpR op_eq (pe_ix ix_tup (pv 6) pe_int (fun _ _ => rfl)) pe_str (nomark _)) hB_8 hB_13))
  let tA_14 : L2.TS := rdOf hA_14
  have hB_14 : PSs _ _ tA_14 := hA_14
  have hA_15 : PSs (XF__law_other_rows P w K mg base f cdv A outer s H E) (elseA (ixA (thenA (ixA (defBody s__law_other_rows) 3)) 4)) _ := (pss_one (ps_if (pt_val (pe_call G__law_unbroken hr rfl m__law_unbroken k__law_unbroken b__law_unbroken .nil pass0 (pa_cons (pv 6) (pa_cons (pe_callB call_len_str rfl m_len PySem.boot_len (pa_cons (pv 12) pa_nil)) (pa_cons (pv 1) (pa_cons (pv 10) pa_nil)))))) hB_4 hB_14))
  let tA_15 : L2.TS := rdOf hA_15
  have hB_15 : PSs _ _ tA_15 := hA_15
  have hA_16 : PSs (XF__law_other_rows P w K mg base f cdv A outer s H E) (List.drop 4 (thenA (ixA (defBody s__law_other_rows) 3))) _ := (pss_cons (ps_if (PW.pt (pw_and (pt_val (pe_callB call_isinst rfl m_isinstance boot_isinstance' (pa_cons (pv 6) (pa_cons (pe_bltn (v := .ty "tuple") rfl m_tuple boot_tuple' rfl) pa_nil)))) (pw_and1 (pt_cmpR op_eq (pe_ix ix_tup (pv 6) pe_int (fun _ _ => rfl)) pe_str (nomark _))))) hB_3 hB_15) hB_2)
  let tA_16 : L2.TS := rdOf hA_16
  have hB_16 : PSs _ _ tA_16 := hA_16
  have hA_17 : PSs (XF__law_other_rows P w K mg base f cdv A outer s H E) (List.drop 3 (thenA (ixA (defBody s__law_other_rows) 3))) _ := (pss_cons (ps_setL (i := 12) sc.nd rfl rfl (pe_op op_add_str (pe_op op_add_str (pv 11) (pe_call G__law_flat_line hr rfl m__law_flat_line k__law_flat_line b__law_flat_line .nil pass0 (pa_cons (pv 6) pa_nil))) (pv 9))) hB_16)
  let tA_17 : L2.TS := rdOf hA_17
  have hB_17 : PSs _ _ tA_17 := hA_17
  have hA_18 : PSs (XF__law_other_rows P w K mg base f cdv A outer s H E) (List.drop 2 (thenA (ixA (defBody s__law_other_rows) 3))) _ := (pss_cons (ps_setL (i := 11) sc.nd rfl rfl (pe_op op_add_str (pe_op op_blank pe_str (pv 7)) (pv 8))) hB_17)
  let tA_18 : L2.TS := rdOf hA_18
  have hB_18 : PSs _ _ tA_18 := hA_18
  have hA_19 : PSs (XF__law_other_rows P w K mg base f cdv A outer s H E) (List.drop 1 (thenA (ixA (defBody s__law_other_rows) 3))) _ := (pss_cons (ps_setL (i := 10) sc.nd rfl rfl (pe_ix ix_list (pv 2) (pe_op op_mod (pv 4) (pe_callB call_len_seq rfl m_len PySem.boot_len (pa_cons (pv 2) pa_nil))) (fun _ _ => rfl))) hB_18)
  let tA_19 : L2.TS := rdOf hA_19
  have hB_19 : PSs _ _ tA_19 := hA_19
  have hA_20 : PSs (XF__law_other_rows P w K mg base f cdv A outer s H E) (thenA (ixA (defBody s__law_other_rows) 3)) _ := (pss_cons (ps_asg (pe_bm0 PySem.F.plainAttrs_list PySem.F.slot_list_pop PySem.F.type_list_pop mt_pop (pv 5)) (pg_tup rfl (pgs_cons (pg_nameL (i := 6) sc.nd rfl rfl) (pgs_cons (pg_nameL (i := 7) sc.nd rfl rfl) (pgs_cons (pg_nameL (i := 8) sc.nd rfl rfl) (pgs_cons (pg_nameL (i := 9) sc.nd rfl rfl) pgs_nil)))))) hB_19)
  let tA_20 : L2.TS := rdOf hA_20
  have hB_20 : PSs _ _ tA_20 := hA_20
  have hA_21 : PSs (XF__law_other_rows P w K mg base f cdv A outer s H E) (List.drop 3 (defBody s__law_other_rows)) _ := (pss_cons (ps_while PassesOwn.never (pt_cmpR (op_neN hu) (pv 5) (pe_lst pa_nil) (nomark _)) hB_20) hB_1)
  let tA_21 : L2.TS := rdOf hA_21
  have hB_21 : PSs _ _ tA_21 := hA_21
  have hA_22 : PSs (XF__law_other_rows P w K mg base f cdv A outer s H E) (List.drop 2 (defBody s__law_other_rows)) _ := (pss_cons (ps_setL (i := 5) sc.nd rfl rfl (pe_lst (pa_cons (pe_tup (pa_cons (pv 0) (pa_cons pe_int (pa_cons pe_str (pa_cons pe_str pa_nil))))) pa_nil))) hB_21)
  let tA_22 : L2.TS := rdOf hA_22
  have hB_22 : PSs _ _ tA_22 := hA_22
  have hA_23 : PSs (XF__law_other_rows P w K mg base f cdv A outer s H E) (List.drop 1 (defBody s__law_other_rows)) _ := (pss_cons (ps_setL (i := 4) sc.nd rfl rfl pe_int) hB_22)
  let tA_23 : L2.TS := rdOf hA_23
  have hB_23 : PSs _ _ tA_23 := hA_23
  have hA_24 : PSs (XF__law_other_rows P w K mg base f cdv A outer s H E) (defBody s__law_other_rows) _ := (pss_cons (ps_setL (i := 3) sc.nd rfl rfl (pe_lst pa_nil)) hB_23)
  let tA_24 : L2.TS := rdOf hA_24
  have hB_24 : PSs _ _ tA_24 := hA_24
  refine ⟨_, hB_24, ?_⟩
  refine ⟨(by show 0 ≤ sizeLine; decide), fun r hr0 => ?_⟩
  refine ⟨_, rfl, (by show 4 ≤ sizeLine; decide), fun p0 hp0 => ⟨(by show 1 ≤ sizeLine; decide), fun D hD => ?_⟩⟩
  have s0 : Same H (upd H r (.lst [])) := same_new hr0 _
  have hHp0 : H p0 = none := s0.free hp0
  have s1 := s0.trans (same_new hp0 (.tup [v, .int 0, .str "", .str ""]))
  have hHD : H D = none := s1.free hD
  have hrD : r ≠ D := fun e => by
    have : (upd (upd H r (.lst [])) p0 (.tup [v, .int 0, .str "", .str ""])) r = some (.lst []) := same_new hp0 _ _ _ upd_same
    rw [← e, this] at hD; cases hD
  refine ⟨fun m σ H' => E14 fun (done : List Str) (todo : List Ly.It) (vs : List V) (seen : Int) (z6 z7 z8 z9 z10 z11 z12 z13 z14 z15 : Option V) => A12 (σ = [some v, some (.int W), some (.ref c), some (.ref r), some (.int seen), some (.ref D), z6, z7, z8, z9, z10, z11, z12, z13, z14, z15]) (Same H H') (H' r = some (.lst (done.map V.str))) (H' D = some (.lst vs)) (ItemsAt H H' vs todo) ((∀ more, Ly.AnyI todo.reverse more → Ly.Any t 0 "" "" (done ++ more))) ((cs = [0] → done ++ Ly.layI W todo.reverse = Ly.lay W t 0 "" "")) ((cs = [3] → True)) ((∀ x ∈ todo, (Ly.flatRow x.t x.i x.lead x.tail).length ≤ (Th.flat t).length ∧ Th.size x.t ≤ 1000000)) (done.length + Ly.capI todo ≤ Ly.cap t) (m = Ly.wtI todo) (m ≤ Ly.wt t),
    ⟨_, [], [⟨t, 0, "", ""⟩], [.ref p0], 0, none, none, none, none, none, none, none, none, none, none, rfl, same_upd s1 hHD _, ?_, upd_same, ?_, ?_, ?_, ?_, ?_, ?_, rfl, ?_⟩, ?_⟩
  · rw [upd_ne hrD]
    exact same_new hp0 _ _ _ upd_same
  · refine ⟨⟨p0, v, rfl, ?_, R⟩, True.intro⟩
    exact same_new hD _ _ _ upd_same
  · intro more hm
    cases hm with
    | cons h1 h2 =>
      cases h2
      rw [List.append_nil]
      exact h1
  · intro _
    show [] ++ (Ly.lay W t 0 "" "" ++ []) = _
    rw [List.append_nil, List.nil_append]
  · exact fun _ => True.intro
  · intro x hx
    have e : x = ⟨t, 0, "", ""⟩ := by simpa using hx
    subst e
    rw [Ly.flatRow_len, e0]
    exact ⟨by dsimp only; omega, by dsimp only; omega⟩
  · rw [Ly.capI, Ly.capI]; simp
  · rw [Ly.wtI, Ly.wtI]; dsimp only; omega
  intro m σ H1 hz_3
  refine hideG fun G_3 back_3 => ?_
  obtain ⟨done, todo, vs, seen, z6, z7, z8, z9, z10, z11, z12, z13, z14, z15, rfl, s2, hr1, hD1, hit, hany, hrule, hfull, hlen, hcapI, rfl, hm⟩ := hz_3
  refine back_3 ?_
  clear back_3 G_3
  refine ⟨_, rfl, (by show 0 ≤ sizeLine; decide), fun e he => ?_⟩
  have se := same_new he (.lst [])
  have s3 := s2.trans se
  have hr3 := se _ _ hr1
  have hD3 := se _ _ hD1
  have hit3 := hit.mono (TK.of se)
  refine ⟨D, e, vs, rfl, rfl, SqL.of hD3, SqL.of upd_same, _, rfl, ?_⟩
  generalize upd H1 e (.lst []) = H2 at se s3 hr3 hD3 hit3
  show if (!vs.isEmpty) = true then _ else _
  by_cases hx : todo = []
  · subst hx
    have hv : vs = [] := List.length_eq_zero_iff.mp hit.len
    subst hv
    refine iteF ?_
    have ha := hany [] .nil
    rw [List.append_nil] at ha
    refine ⟨_, rfl, q r H2 done hr0 s3 hr3 ha (fun z => ?_) (fun z => ?_) ?_⟩
    · have := hrule z
      rw [List.reverse_nil, Ly.layI, List.append_nil] at this
      exact this
    · exact True.intro
    · rw [Ly.capI] at hcapI
      omega
  refine hideG fun G_4 back_4 => ?_
  obtain ⟨rest, one, rfl⟩ := Fm.split_last todo hx
  refine back_4 ?_
  clear back_4 G_4
  refine hideG fun G_5 back_5 => ?_
  obtain ⟨us, u, rfl, hus, hone⟩ := hit3.last
  refine back_5 ?_
  clear back_5 G_5
  rw [if_pos (by simp)]
  refine hideG fun G_6 back_6 => ?_
  obtain ⟨p, u1, rfl, hp, hu1⟩ := hone
  refine back_6 ?_
  clear back_6 G_6
  refine hideG fun G_7 back_7 => ?_
  obtain ⟨t1, i1, lead, tail⟩ := one
  refine back_7 ?_
  clear back_7 G_7
  dsimp only at hp hu1
  refine hideG fun G_8 back_8 => ?_
  obtain ⟨hl1, hs1⟩ := hlen ⟨t1, i1, lead, tail⟩ (by simp)
  refine back_8 ?_
  clear back_8 G_8
  dsimp only at hl1 hs1
  have hl1' := hl1
  rw [Ly.flatRow_len] at hl1'
  have hwr : Ly.wtI (rest ++ [⟨t1, i1, lead, tail⟩]) = Ly.wtI rest + Ly.wt t1 := by rw [Ly.wtI_app, Ly.wtI, Ly.wtI]; dsimp only; omega
  have hcr : Ly.capI (rest ++ [⟨t1, i1, lead, tail⟩]) = Ly.capI rest + Ly.cap t1 := by rw [Ly.capI_app, Ly.capI, Ly.capI]; dsimp only; omega
  rw [hcr] at hcapI
  have hrl := Ly.len_wtI rest
  have hul := hus.len
  rw [List.reverse_append, List.reverse_singleton, List.singleton_append] at hany hrule
  have hL : i1 + lead.length + (Th.flat t1).length + tail.length ≤ 1000000 := by omega
  have hdl : done.length ≤ 900000 := by omega
  have husl : us.length ≤ 1000000 := by omega
  replace hsz := kpI hsz
  replace hfl := kpI hfl
  replace hwt := kpI hwt
  replace hcap := kpI hcap
  replace hm := kpI hm
  replace hcapI := kpI hcapI
  replace hl1' := kpI hl1'
  replace hwr := kpI hwr
  clear hrl hul hcr hl1
  refine hideG fun G_9 back_9 => ?_
  obtain ⟨N, toN, ofN⟩ := hideN (fun σ' H' => ∃ m', m' < Ly.wtI (rest ++ [⟨t1, i1, lead, tail⟩]) ∧ E14 fun (done : List Str) (todo : List Ly.It) (vs : List V) (seen : Int) (z6 z7 z8 z9 z10 z11 z12 z13 z14 z15 : Option V) => A12 (σ' = [some v, some (.int W), some (.ref c), some (.ref r), some (.int seen), some (.ref D), z6, z7, z8, z9, z10, z11, z12, z13, z14, z15]) (Same H H') (H' r = some (.lst (done.map V.str))) (H' D = some (.lst vs)) (ItemsAt H H' vs todo) ((∀ more, Ly.AnyI todo.reverse more → Ly.Any t 0 "" "" (done ++ more))) ((cs = [0] → done ++ Ly.layI W todo.reverse = Ly.lay W t 0 "" "")) ((cs = [3] → True)) ((∀ x ∈ todo, (Ly.flatRow x.t x.i x.lead x.tail).length ≤ (Th.flat t).length ∧ Th.size x.t ≤ 1000000)) (done.length + Ly.capI todo ≤ Ly.cap t) (m' = Ly.wtI todo) (m' ≤ Ly.wt t))
  refine back_9 ?_
  clear back_9 G_9
  refine ⟨N, ofN, ?_⟩
  have hpD : p ≠ D := fun z => by rw [z, hD3] at hp; cases hp
  have hp4' : (upd H2 D (.lst (us ++ [V.ref p]).dropLast)) p = some (.tup [u1, .int (i1 : Int), .str lead, .str tail]) := by rw [upd_ne hpD]; exact hp
  refine ⟨_, rfl, .inl ⟨rfl, _, SqL.of hD3⟩, D, _, .ref p, rfl, rfl, hD3, last_at us _, p, _, rfl, SqT.of hp4', rfl, _, _, rfl, _, _, rfl, _, _, rfl, _, _, rfl, rfl, ?_⟩
  rw [List.dropLast_concat]
  have s4 : Same H (upd H2 D (.lst us)) := same_upd s3 hHD _
  have hr4 : (upd H2 D (.lst us)) r = some (.lst (done.map V.str)) := by rw [upd_ne hrD]; exact hr3
  have hD4 : (upd H2 D (.lst us)) D = some (.lst us) := upd_same
  have hus4 := hus.mono (TK.lst hD3 (.lst us))
  generalize upd H2 D (.lst us) = H4 at s4 hr4 hD4 hus4
  have hC4 := s4.seq hC
  have hcl : (0 : Int) < ((cs.map V.int).length : Nat) := by
    rw [List.length_map]
    have := List.length_pos_iff.mpr hcs
    omega
  refine hideG fun G_10 back_10 => ?_
  obtain ⟨cell, hcell, hc0, hc3⟩ : ∃ cell : Int, atI (cs.map V.int) (seen % ((cs.map V.int).length : Nat)) = some (.int cell) ∧ (cs = [0] → cell = 0) ∧ (cs = [3] → cell = 3) := by
    have n0 := Int.emod_nonneg seen (show (((cs.map V.int).length : Nat) : Int) ≠ 0 by omega)
    have n1 := Int.emod_lt_of_pos seen hcl
    generalize seen % (((cs.map V.int).length : Nat) : Int) = j at n0 n1
    rw [List.length_map] at n1
    have hj : j.toNat < cs.length := by omega
    refine ⟨cs[j.toNat], ?_, ?_, ?_⟩
    · have ej : ((j.toNat : Nat) : Int) = j := by omega
      have h1 : atI (cs.map V.int) ((j.toNat : Nat) : Int) = some (.int cs[j.toNat]) := atI_nat (by rw [List.getElem?_map, List.getElem?_eq_getElem hj]; rfl)
      rw [ej] at h1
      exact h1
    · intro z
      subst z
      have : j.toNat = 0 := by simp at hj; omega
      simp [this]
    · intro z
      subst z
      have : j.toNat = 0 := by simp at hj; omega
      simp [this]
  refine back_10 ?_
  clear back_10 G_10
  refine ⟨_, rfl, _, rfl, _, rfl, c, _, rfl, .inl hC4, _, _, rfl, rfl, hcl, c, _, _, _, rfl, rfl, hC4, hcell, ?_⟩
  refine ⟨_, rfl, i1, rfl, rfl, by omega, _, rfl, _, _, rfl, rfl, le_size (by rw [Ly.pad_len]; omega), ?_⟩
  have eb : (" " : Str) = " " := rfl
  refine ⟨_, rfl, _, rfl, t1, u1, rfl, Rep.mono s4 _ _ hu1, hs1, fun H5 s5 => ⟨_, _, rfl, rfl, le_size (by rw [len_app, Ly.pad_len]; omega), _, rfl, _, _, rfl, rfl, le_size (by rw [len_app, len_app, Ly.pad_len]; omega), ?_⟩⟩
  have s45 := s4.trans s5
  replace hs1 := kpI hs1
  have hr5 := s5 _ _ hr4
  have hD5 := s5 _ _ hD4
  have hus5 := hus4.mono (TK.of s5)
  have hu5 := Rep.mono s45 _ _ hu1
  have fin : ∀ (done' : List Str) (todo' : List Ly.It) (vs' : List V) (H' : Hp) (y6 y7 y8 y9 y10 y11 y12 y13 y14 y15 : Option V), Same H H' → H' r = some (.lst (done'.map V.str)) → H' D = some (.lst vs') → ItemsAt H H' vs' todo' →
      (∀ more, Ly.AnyI todo'.reverse more → Ly.Any t 0 "" "" (done' ++ more)) → (cs = [0] → done' ++ Ly.layI W todo'.reverse = Ly.lay W t 0 "" "") → (cs = [3] → True) →
      (∀ x ∈ todo', (Ly.flatRow x.t x.i x.lead x.tail).length ≤ (Th.flat t).length ∧ Th.size x.t ≤ 1000000) → done'.length + Ly.capI todo' ≤ Ly.cap t → Ly.wtI todo' < Ly.wtI (rest ++ [⟨t1, i1, lead, tail⟩]) →
      N [some v, some (V.int W), some (.ref c), some (.ref r), some (.int (seen + 1)), some (.ref D), y6, y7, y8, y9, y10, y11, y12, y13, y14, y15] H' := by
    intro done' todo' vs' H' y6 y7 y8 y9 y10 y11 y12 y13 y14 y15 a1 a2 a3 a4 a5 a6 a7 a8 a9 a10
    exact toN _ _ ⟨Ly.wtI todo', a10, done', todo', vs', seen + 1, _, _, _, _, _, _, _, _, _, _, rfl, a1, a2, a3, a4, a5, a6, a7, a8, a9, rfl, Nat.le_trans (Nat.le_of_lt a10) hm.out⟩
  have hlenr : ∀ x ∈ rest, (Ly.flatRow x.t x.i x.lead x.tail).length ≤ (Th.flat t).length ∧ Th.size x.t ≤ 1000000 := fun x hx => hlen x (List.mem_append_left _ hx)
  have flat1 : isTag t1 = false → unb t1 ((Ly.flatRow t1 i1 lead tail).length : Int) W cell = true → ∀ (y6 y7 y8 y9 y10 y11 y12 y13 y14 y15 : Option V) (H' : Hp), H' = upd H5 r (.lst (done.map V.str ++ [.str (Ly.flatRow t1 i1 lead tail)])) → _ :=
    fun ht hub y6 y7 y8 y9 y10 y11 y12 y13 y14 y15 H' e => fin (done ++ [Ly.flatRow t1 i1 lead tail]) rest us H' y6 y7 y8 y9 y10 y11 y12 y13 y14 y15 (by rw [e]; exact same_upd s45 hr0 _) (by rw [e, upd_same, List.map_append]; rfl) (by rw [e, upd_ne (Ne.symm hrD)]; exact hD5) (by rw [e]; exact hus5.mono (TK.lst hr5 _))
      (fun more hm' => by rw [List.append_assoc]; exact hany _ (.cons (any_flat ht) hm'))
      (fun z => by
        have h1 := hrule z
        rw [Ly.layI] at h1
        dsimp only at h1
        rw [hc0 z, rule_unb ht] at hub
        rw [lay_flat ht hub] at h1
        rw [List.append_assoc]
        exact h1)
      (fun _ => True.intro)
      hlenr (by rw [List.length_append, List.length_singleton]; have := Ly.cap_pos t1; have := hcapI.out; omega) (by rw [hwr.out]; have := Ly.wt_pos t1; omega)
  cases t1 with
  | word x =>
    rw [Rep] at hu5
    subst hu5
    refine ⟨_, rfl, _, _, _, _, rfl, .str x, kit_str_tup K, _, rfl, ?_⟩
    refine iteF ?_
    refine iteF ?_
    refine ⟨_, rfl, _, rfl, _, rfl, le_size (by rw [len_app, len_app, len_app, Ly.pad_len]; omega), _, rfl, _, rfl, .word x, _, _, W, cell, rfl, (by rw [Rep]), rfl, _, rfl, ?_⟩
    have hub : unb (.word x) ((Ly.flatRow (.word x) i1 lead tail).length : Int) W cell = true := rfl
    refine iteT ?_
    refine ⟨_, rfl, .inl ⟨rfl, _, SqL.of hr5⟩, _, rfl, r, _, _, rfl, rfl, hr5, lt_size (by simp; omega), ?_⟩
    exact ⟨_, rfl, _, _, rfl, rfl, flat1 rfl hub _ _ _ _ _ _ _ _ _ _ _ rfl⟩
  | tag w' t' =>
    rw [Rep] at hu1
    refine hideG fun G_11 back_11 => ?_
    obtain ⟨a, x, rfl, h1, h2⟩ := hu1
    refine back_11 ?_
    clear back_11 G_11
    have h15 := s45 _ _ h1
    have e2 : (": " : Str).length = 2 := by decide
    rw [Th.flat, Th.app_len, Th.app_len, e2] at hL
    refine ⟨_, rfl, _, _, _, _, rfl, .tup h15, kit_tup_tup K, _, rfl, ?_⟩
    refine iteT ?_
    refine ⟨_, rfl, a, _, _, _, rfl, rfl, SqT.of h15, rfl, rfl, _, rfl, ?_⟩
    refine iteT ?_
    refine ⟨_, rfl, .inl ⟨rfl, _, SqL.of hD5⟩, _, rfl, a, _, _, _, rfl, rfl, SqT.of h15, rfl, _, rfl, _, rfl, _, rfl, a, _, _, _, rfl, rfl, SqT.of h15, rfl, _, _, rfl, rfl, le_size (by omega), _, _, rfl, rfl, le_size (by rw [len_app, e2]; omega), _, rfl, (by show 4 ≤ sizeLine; decide), fun p' hp' => ?_⟩
    have sp := same_new hp' (.tup [x, .int (i1 : Int), .str (lead ++ w' ++ ": "), .str tail])
    have hDp := sp _ _ hD5
    have hp'D : p' ≠ D := fun z => by rw [z, hD5] at hp'; cases hp'
    refine ⟨D, us, _, rfl, rfl, hDp, lt_size (by omega), ?_⟩
    refine ⟨_, rfl, _, _, rfl, rfl, fin done (rest ++ [⟨t', i1, lead ++ w' ++ ": ", tail⟩]) (us ++ [.ref p']) _ _ _ _ _ _ _ _ _ _ _ (same_upd (s45.trans sp) hHD _) (by rw [upd_ne hrD]; exact sp _ _ hr5) upd_same
      (ItemsAt.snoc ⟨p', x, rfl, by rw [upd_ne hp'D, upd_same], h2⟩ (hus5.mono (TK.trans (TK.of sp) (TK.lst hDp _)))) ?_ ?_ ?_ ?_ ?_ ?_⟩
    · intro more hm'
      rw [List.reverse_append, List.reverse_singleton, List.singleton_append] at hm'
      cases hm' with
      | cons b1 b2 => exact hany _ (.cons (.tag b1) b2)
    · intro z
      have q1 := hrule z
      rw [Ly.layI] at q1
      dsimp only at q1
      rw [Ly.lay] at q1
      rw [List.reverse_append, List.reverse_singleton, List.singleton_append, Ly.layI]
      exact q1
    · exact fun _ => True.intro
    · intro y hy
      rcases List.mem_append.mp hy with hy | hy
      · exact hlenr y hy
      · have e : y = ⟨t', i1, lead ++ w' ++ ": ", tail⟩ := by simpa using hy
        subst e
        have hs1 := hs1.out
        have hl1' := hl1'.out
        rw [Th.flat, Th.app_len, Th.app_len, e2] at hl1'
        rw [Th.size] at hs1
        rw [Ly.flatRow_len]
        dsimp only
        rw [Th.app_len, Th.app_len, e2]
        exact ⟨by omega, by omega⟩
    · rw [Ly.capI_app, Ly.capI, Ly.capI]
      have hcapI := hcapI.out
      rw [Ly.cap] at hcapI
      dsimp only
      omega
    · rw [hwr.out, Ly.wtI_app, Ly.wtI, Ly.wtI, Ly.wt]
      dsimp only
      omega
  | run ws =>
    have hu5' := hu5
    rw [Rep] at hu1
    refine hideG fun G_12 back_12 => ?_
    obtain ⟨a, l, rfl, h1, h2⟩ := hu1
    refine back_12 ?_
    clear back_12 G_12
    have h15 := s45 _ _ h1
    have e1 : ("[" : Str).length = 1 := by decide
    have e2 : ("]" : Str).length = 1 := by decide
    have e3 : ("  " : Str).length = 2 := by decide
    refine ⟨_, rfl, _, _, _, _, rfl, .tup h15, kit_tup_tup K, _, rfl, ?_⟩
    refine iteT ?_
    refine ⟨_, rfl, a, _, _, _, rfl, rfl, SqT.of h15, rfl, rfl, _, rfl, ?_⟩
    refine iteF ?_
    refine ⟨_, rfl, _, rfl, _, rfl, le_size (by rw [len_app, len_app, len_app, Ly.pad_len]; omega), _, rfl, _, rfl, .run ws, _, _, W, cell, rfl, hu5', rfl, _, rfl, ?_⟩
    refine ite2 (fun hub => ?_) (fun hub => ?_)
    · refine ⟨_, rfl, .inl ⟨rfl, _, SqL.of hr5⟩, _, rfl, r, _, _, rfl, rfl, hr5, lt_size (by simp; omega), ?_⟩
      exact ⟨_, rfl, _, _, rfl, rfl, flat1 rfl hub _ _ _ _ _ _ _ _ _ _ _ rfl⟩
    have hub' : ¬ unb (.run ws) ((Ly.flatRow (.run ws) i1 lead tail).length : Int) W cell = true := hub
    have hne : ws ≠ [] := fun z => hub' (by subst z; rfl)
    rw [Th.flat, Th.app_len, Th.app_len, e1, e2] at hL
    have hws : ws.length ≤ 1000000 := by
      have hcapI := hcapI.out
      have := hcap.out
      have := hsz.out
      rw [Ly.cap] at hcapI
      omega
    refine ⟨_, rfl, a, _, _, _, rfl, rfl, SqT.of h15, rfl, rfl, _, rfl, ?_⟩
    refine iteT ?_
    refine ⟨_, rfl, .inl ⟨rfl, _, SqL.of hr5⟩, _, rfl, _, _, rfl, rfl, le_size (by rw [len_app, Ly.pad_len, e1]; omega), r, _, _, rfl, rfl, hr5, lt_size (by simp; omega), ?_⟩
    have s6 : Same H (upd H5 r (.lst (done.map V.str ++ [.str (Ly.pad i1 ++ lead ++ "[")]))) := same_upd s45 hr0 _
    have hr6 : (upd H5 r (.lst (done.map V.str ++ [.str (Ly.pad i1 ++ lead ++ "[")]))) r = some (.lst ((done ++ [Ly.pad i1 ++ lead ++ "["]).map V.str)) := by rw [upd_same, List.map_append]; rfl
    have hD6 : (upd H5 r (.lst (done.map V.str ++ [.str (Ly.pad i1 ++ lead ++ "[")]))) D = some (.lst us) := by rw [upd_ne (Ne.symm hrD)]; exact hD5
    have hus6 := hus5.mono (TK.lst hr5 (.lst (done.map V.str ++ [.str (Ly.pad i1 ++ lead ++ "[")])))
    generalize upd H5 r (.lst (done.map V.str ++ [.str (Ly.pad i1 ++ lead ++ "[")])) = H6 at s6 hr6 hD6 hus6
    have h16 := s6 _ _ h1
    have h26 := s6 _ _ h2
    refine ⟨_, rfl, a, _, _, _, rfl, rfl, SqT.of h16, rfl, _, rfl, _, rfl, _, _, rfl, rfl, _, _, rfl, rfl, _, rfl, l, ws, Ly.room W i1, cell, rfl, SqL.of h26, hne, hws, by omega, fun r2 H7 gs hr2n s7 hr2 g1 g2 g3 g4 g5 => ?_⟩
    have hr7 := s7 _ _ hr6
    have hD7 := s7 _ _ hD6
    have hus7 := hus6.mono (TK.of s7)
    have s67 := s6.trans s7
    have hrr : r2 ≠ r := fun z => by rw [z, hr6] at hr2n; cases hr2n
    have hgl : ∀ g' ∈ gs, Fm.jl Ly.sz g' ≤ (Str.join " " ws).length := fun g' hg' => by
      rw [join_jl, ← g1]
      have key : ∀ (gs : List (List Str)), g' ∈ gs → Fm.jl Ly.sz g' ≤ Fm.jl Ly.sz gs.flatten := by
        intro gs
        induction gs with
        | nil => intro z; cases z
        | cons b gs ih =>
          intro z
          rw [List.flatten_cons]
          rcases List.mem_cons.mp z with e | z
          · rw [e]; exact jl_take _ _
          · exact Nat.le_trans (ih z) (jl_drop _ _)
      exact key gs hg'
    refine ⟨r2, rfl, ⟨_, SqL.of hr2⟩, for_list (K := K) (a := r2) (xs := (gs.map (Str.join " ")).map V.str) (fun j σ H' => (∀ b o, b ≠ r → H7 b = some o → H' b = some o) ∧ Same H H' ∧ H' r = some (.lst ((done ++ [Ly.pad i1 ++ lead ++ "["] ++ (gs.take j).map (Ly.wordRow i1)).map V.str)) ∧ ∃ y13 y14 y15, σ = [some v, some (.int W), some (.ref c), some (.ref r), some (.int seen), some (.ref D), some (.ref a), some (.int (i1 : Int)), some (.str lead), some (.str tail), some (.int cell), some (.str (Ly.pad i1 ++ lead)), some (.str (Ly.pad i1 ++ lead ++ Th.flat (.run ws) ++ tail)), y13, y14, y15]) ⟨fun _ _ _ z => z, s67, by rw [hr7]; simp, _, _, _, rfl⟩ ?_ ?_ ?_⟩
    · intro j σ H8 _ hz_4
      refine hideG fun G_13 back_13 => ?_
      obtain ⟨k8, _⟩ := hz_4
      refine back_13 ?_
      clear back_13 G_13
      exact SqL.of (k8 _ _ hrr hr2)
    · intro j x σ H8 hx hz_5
      refine hideG fun G_14 back_14 => ?_
      obtain ⟨k8, s8, hr8, y13, y14, y15, rfl⟩ := hz_5
      refine back_14 ?_
      clear back_14 G_14
      rw [List.map_map, List.getElem?_map] at hx
      refine hideG fun G_15 back_15 => ?_
      obtain ⟨gj, hgj, rfl⟩ : ∃ gj, gs[j]? = some gj ∧ x = V.str (Str.join " " gj) := by
        cases e : gs[j]? with
        | none => rw [e] at hx; cases hx
        | some gj => rw [e] at hx; exact ⟨gj, rfl, (Option.some.inj hx).symm⟩
      refine back_15 ?_
      clear back_15 G_15
      have hj1 := hgl gj (List.mem_of_getElem? hgj)
      have hj2 := join_jl gj
      have hjl : j < gs.length := (List.getElem?_eq_some_iff.mp hgj).1
      refine ⟨_, rfl, .inl ⟨rfl, _, SqL.of hr8⟩, _, rfl, i1, rfl, rfl, by omega, _, _, rfl, rfl, le_size (by rw [Ly.pad_len, e3]; omega), _, rfl, _, _, rfl, rfl, le_size (by rw [len_app, Ly.pad_len, e3]; omega), r, _, _, rfl, rfl, hr8, lt_size (by simp; omega), ?_⟩
      refine ⟨fun b o hb z => by rw [upd_ne hb]; exact k8 b o hb z, same_upd s8 hr0 _, ?_, _, _, _, rfl⟩
      rw [upd_same, take_snoc' hgj]
      simp [Ly.wordRow]
    · intro σ H8 hz_2
      refine hideG fun G_16 back_16 => ?_
      obtain ⟨k8, s8, hr8, y13, y14, y15, rfl⟩ := hz_2
      refine back_16 ?_
      clear back_16 G_16
      have eg : (gs.take ((gs.map (Str.join " ")).map V.str).length) = gs := by rw [List.length_map, List.length_map, List.take_length]
      rw [eg] at hr8
      refine ⟨_, rfl, .inl ⟨rfl, _, SqL.of hr8⟩, _, rfl, i1, rfl, rfl, by omega, _, _, rfl, rfl, le_size (by rw [Ly.pad_len, e2]; omega), _, rfl, _, _, rfl, rfl, le_size (by rw [len_app, Ly.pad_len, e2]; omega), r, _, _, rfl, rfl, hr8, lt_size (by simp; omega), ?_⟩
      have hD8 := k8 _ _ (Ne.symm hrD) hD7
      have hus8 : ItemsAt H H8 us rest := hus7.mono (fun b xs z => k8 b _ (fun e => by rw [e, hr7] at z; cases z) z)
      refine ⟨_, rfl, _, _, rfl, rfl, fin (done ++ ((Ly.pad i1 ++ lead ++ "[") :: (gs.map (Ly.wordRow i1) ++ [Ly.pad i1 ++ "]" ++ tail]))) rest us _ _ _ _ _ _ _ _ _ _ _ (same_upd s8 hr0 _) (by rw [upd_same]; simp) (by rw [upd_ne (Ne.symm hrD)]; exact hD8) (hus8.mono (TK.lst hr8 _)) ?_ ?_ ?_ hlenr ?_ ?_⟩
      · intro more hm'
        rw [List.append_assoc]
        exact hany _ (.cons (.run hne g1 g2) hm')
      · intro z
        have q1 := hrule z
        rw [Ly.layI] at q1
        dsimp only at q1
        have ht : isTag (T.run ws) = false := rfl
        rw [hc0 z, rule_unb ht] at hub'
        rw [Ly.lay, if_neg (fun y => hub' (by
          rw [Bool.or_eq_true]
          exact y.imp (fun e => List.isEmpty_iff.mpr e) decide_eq_true)), ← g3 (hc0 z)] at q1
        rw [List.append_assoc]
        exact q1
      · exact fun _ => True.intro
      · simp only [List.length_append, List.length_cons, List.length_map, List.length_nil]
        have hcapI := hcapI.out
        rw [Ly.cap] at hcapI
        omega
      · rw [hwr.out, Ly.wt]
        omega
  | bundle hd' ps =>
    have hu5' := hu5
    rw [Rep] at hu1
    refine hideG fun G_17 back_17 => ?_
    obtain ⟨a, l, ws, rfl, h1, h2, h3⟩ := hu1
    refine back_17 ?_
    clear back_17 G_17
    have h15 := s45 _ _ h1
    have hpl := h3.len
    have e1 : ("(" : Str).length = 1 := by decide
    have e2 : (")" : Str).length = 1 := by decide
    refine ⟨_, rfl, _, _, _, _, rfl, .tup h15, kit_tup_tup K, _, rfl, ?_⟩
    refine iteT ?_
    refine ⟨_, rfl, a, _, _, _, rfl, rfl, SqT.of h15, rfl, rfl, _, rfl, ?_⟩
    refine iteF ?_
    refine ⟨_, rfl, _, rfl, _, rfl, le_size (by rw [len_app, len_app, len_app, Ly.pad_len]; omega), _, rfl, _, rfl, .bundle hd' ps, _, _, W, cell, rfl, hu5', rfl, _, rfl, ?_⟩
    refine ite2 (fun hub => ?_) (fun hub => ?_)
    · refine ⟨_, rfl, .inl ⟨rfl, _, SqL.of hr5⟩, _, rfl, r, _, _, rfl, rfl, hr5, lt_size (by simp; omega), ?_⟩
      exact ⟨_, rfl, _, _, rfl, rfl, flat1 rfl hub _ _ _ _ _ _ _ _ _ _ _ rfl⟩
    have hub' : ¬ unb (.bundle hd' ps) ((Ly.flatRow (.bundle hd' ps) i1 lead tail).length : Int) W cell = true := hub
    have hne : ps ≠ [] := fun z => hub' (by subst z; rfl)
    rw [Th.flat, Th.app_len, Th.app_len, Th.app_len, e1, e2] at hL
    have hpn : ps.length ≤ 900000 := by
      have hm := hm.out
      rw [hwr.out, Ly.wt] at hm
      have := hwt.out
      have := hsz.out
      have h9 := Ly.len_wtI (Ly.partsI ps 0)
      rw [Ly.partsI_len, Ly.wtI_parts] at h9
      omega
    refine ⟨_, rfl, a, _, _, _, rfl, rfl, SqT.of h15, rfl, rfl, _, rfl, ?_⟩
    refine iteF ?_
    refine ⟨_, rfl, .inl ⟨rfl, _, SqL.of hr5⟩, _, rfl, _, rfl, a, _, _, _, rfl, rfl, SqT.of h15, rfl, _, _, rfl, rfl, le_size (by rw [len_app, Ly.pad_len]; omega), _, _, rfl, rfl, le_size (by rw [len_app, len_app, Ly.pad_len, e1]; omega), r, _, _, rfl, rfl, hr5, lt_size (by simp; omega), ?_⟩
    have s6 : Same H (upd H5 r (.lst (done.map V.str ++ [.str (Ly.pad i1 ++ lead ++ hd' ++ "(")]))) := same_upd s45 hr0 _
    have hr6 : (upd H5 r (.lst (done.map V.str ++ [.str (Ly.pad i1 ++ lead ++ hd' ++ "(")]))) r = some (.lst ((done ++ [Ly.pad i1 ++ lead ++ hd' ++ "("]).map V.str)) := by rw [upd_same, List.map_append]; rfl
    have hD6 : (upd H5 r (.lst (done.map V.str ++ [.str (Ly.pad i1 ++ lead ++ hd' ++ "(")]))) D = some (.lst us) := by rw [upd_ne (Ne.symm hrD)]; exact hD5
    have hus6 := hus5.mono (TK.lst hr5 (.lst (done.map V.str ++ [.str (Ly.pad i1 ++ lead ++ hd' ++ "(")])))
    generalize upd H5 r (.lst (done.map V.str ++ [.str (Ly.pad i1 ++ lead ++ hd' ++ "(")])) = H6 at s6 hr6 hD6 hus6
    refine ⟨_, rfl, .inl ⟨rfl, _, SqL.of hD6⟩, _, rfl, i1, rfl, rfl, by omega, _, _, rfl, rfl, le_size (by rw [Ly.pad_len, e2]; omega), _, rfl, _, _, rfl, rfl, le_size (by rw [len_app, Ly.pad_len, e2]; omega), (by show 4 ≤ sizeLine; decide), fun pl hpl' => ?_⟩
    have sl := same_new hpl' (.tup [.str (Ly.pad i1 ++ ")" ++ tail), .int 0, .str "", .str ""])
    have hDl := sl _ _ hD6
    have hplD : pl ≠ D := fun z => by rw [z, hD6] at hpl'; cases hpl'
    refine ⟨D, us, _, rfl, rfl, hDl, lt_size (by omega), ?_⟩
    have s7 := same_upd (s6.trans sl) hHD (.lst (us ++ [.ref pl]))
    have hr7 : (upd (upd H6 pl (.tup [.str (Ly.pad i1 ++ ")" ++ tail), .int 0, .str "", .str ""])) D (.lst (us ++ [.ref pl]))) r = some (.lst ((done ++ [Ly.pad i1 ++ lead ++ hd' ++ "("]).map V.str)) := by rw [upd_ne hrD]; exact sl _ _ hr6
    have hD7 : (upd (upd H6 pl (.tup [.str (Ly.pad i1 ++ ")" ++ tail), .int 0, .str "", .str ""])) D (.lst (us ++ [.ref pl]))) D = some (.lst (us ++ [.ref pl])) := upd_same
    have hus7 : ItemsAt H (upd (upd H6 pl (.tup [.str (Ly.pad i1 ++ ")" ++ tail), .int 0, .str "", .str ""])) D (.lst (us ++ [.ref pl]))) (us ++ [.ref pl]) (rest ++ [Ly.lastI (Ly.pad i1 ++ ")" ++ tail)]) :=
      ItemsAt.snoc ⟨pl, _, rfl, by rw [upd_ne hplD, upd_same]; rfl, by rw [Ly.lastI, Rep]⟩ (hus6.mono (TK.trans (TK.of sl) (TK.lst hDl _)))
    generalize upd (upd H6 pl (.tup [.str (Ly.pad i1 ++ ")" ++ tail), .int 0, .str "", .str ""])) D (.lst (us ++ [.ref pl])) = H7 at s7 hr7 hD7 hus7
    refine ⟨_, rfl, a, _, _, _, rfl, rfl, SqT.of (s7 _ _ h1), rfl, l, _, rfl, .inl (SqL.of (s7 _ _ h2)), _, _, rfl, rfl, _, rfl, _, rfl, (((ws.length : Nat) : Int) - 1), -1, rfl, ⟨by omega, by omega, by omega, by omega⟩, ?_⟩
    have en : ((((ws.length : Nat) : Int) - 1) - (-1)).toNat = ws.length := by omega
    rw [en]
    clear en
    refine for_rangeD (fun j σ H' => Same H H' ∧ H' r = some (.lst ((done ++ [Ly.pad i1 ++ lead ++ hd' ++ "("]).map V.str)) ∧ (∃ pvs, H' D = some (.lst (us ++ [.ref pl] ++ pvs)) ∧ ItemsAt H H' (us ++ [.ref pl] ++ pvs) (rest ++ [Ly.lastI (Ly.pad i1 ++ ")" ++ tail)] ++ ((Ly.partsI ps (i1 + 2)).drop (ps.length - j)).reverse) ∧ pvs.length ≤ j) ∧
        ∃ y14 y15, σ = [some v, some (.int W), some (.ref c), some (.ref r), some (.int seen), some (.ref D), some (.ref a), some (.int (i1 : Int)), some (.str lead), some (.str tail), some (.int cell), some (.str (Ly.pad i1 ++ lead)), some (.str (Ly.pad i1 ++ lead ++ Th.flat (.bundle hd' ps) ++ tail)), z13, y14, y15])
      ⟨s7, hr7, ⟨[], by rw [List.append_nil]; exact hD7, ?_, Nat.le_refl _⟩, _, _, rfl⟩ ?_ ?_
    · rw [Nat.sub_zero, ← Ly.partsI_len ps (i1 + 2), List.drop_length, List.reverse_nil, List.append_nil, List.append_nil]
      exact hus7
    · intro j σ H8 hj hz_4
      refine hideG fun G_18 back_18 => ?_
      obtain ⟨s8, hr8, ⟨pvs, hD8, hus8, hpv⟩, y14, y15, rfl⟩ := hz_4
      refine back_18 ?_
      clear back_18 G_18
      have hjn : ps.length - 1 - j < ws.length := by omega
      have hxj : ws[ps.length - 1 - j]? = some ws[ps.length - 1 - j] := List.getElem?_eq_getElem hjn
      refine hideG fun G_19 back_19 => ?_
      obtain ⟨tj, htj, hrj⟩ := h3.get hxj
      refine back_19 ?_
      clear back_19 G_19
      generalize ws[ps.length - 1 - j] = xj at hxj hrj
      have ek : (((ws.length : Nat) : Int) - 1 - (j : Int)) = ((ps.length - 1 - j : Nat) : Int) := by omega
      have hat : atI ws (((ws.length : Nat) : Int) - 1 - (j : Int)) = some xj := by rw [ek]; exact atI_nat hxj
      have hit' := Ly.partsI_get ps (i1 + 2) (ps.length - 1 - j) tj htj
      refine ⟨(by show 2 ≤ sizeLine; decide), fun b hb => ?_⟩
      have sb := same_new hb (.lst [.str ",", .str ""])
      have s9 := s8.trans sb
      refine ⟨_, rfl, _, _, rfl, rfl, _, rfl, a, _, _, _, rfl, rfl, SqT.of (s9 _ _ h1), rfl, l, _, rfl, .inl (SqL.of (s9 _ _ h2)), rfl, .inr ⟨_, rfl, b, _, _, .str (if ps.length - 1 - j + 1 = ps.length then "" else ","), rfl, rfl, .inl (.inl upd_same), ?_, ?_⟩⟩
      · by_cases cc : ps.length - 1 - j + 1 = ps.length
        · rw [if_pos cc, if_pos (decide_eq_true (show V.int (((ws.length : Nat) : Int) - 1 - (j : Int) + 1) = V.int ((ws.length : Nat) : Int) from congrArg V.int (by omega)))]
          rfl
        · rw [if_neg cc, if_neg (fun z => cc (by
            have z' : (((ws.length : Nat) : Int) - 1 - (j : Int) + 1) = ((ws.length : Nat) : Int) := V.int.inj (of_decide_eq_true z)
            omega))]
          rfl
      have hr9 := sb _ _ hr8
      have hD9 := sb _ _ hD8
      have hus9 := hus8.mono (TK.of sb)
      generalize upd H8 b (.lst [.str ",", .str ""]) = H9 at sb s9 hr9 hD9 hus9
      refine ⟨_, rfl, .inl ⟨rfl, _, SqL.of hD9⟩, _, rfl, a, _, _, _, rfl, rfl, SqT.of (s9 _ _ h1), rfl, _, rfl, l, _, _, xj, rfl, rfl, SqL.of (s9 _ _ h2), hat, _, rfl, _, _, rfl, rfl, _, rfl, (by show 4 ≤ sizeLine; decide), fun pj hpj => ?_⟩
      have sj := same_new hpj (.tup [xj, .int ((i1 : Int) + 2), .str "", .str (if ps.length - 1 - j + 1 = ps.length then "" else ",")])
      have hDj := sj _ _ hD9
      have hpjD : pj ≠ D := fun z => by rw [z, hD9] at hpj; cases hpj
      refine ⟨D, _, _, rfl, rfl, hDj, lt_size (by simp; omega), ?_⟩
      refine ⟨same_upd (s9.trans sj) hHD _, by rw [upd_ne hrD]; exact sj _ _ hr9, ⟨pvs ++ [.ref pj], by rw [upd_same, List.append_assoc], ?_, by simp; omega⟩, _, _, rfl⟩
      have ed : ((Ly.partsI ps (i1 + 2)).drop (ps.length - (j + 1))).reverse = ((Ly.partsI ps (i1 + 2)).drop (ps.length - j)).reverse ++ [⟨tj, i1 + 2, "", if ps.length - 1 - j + 1 = ps.length then "" else ","⟩] := by
        have hlt : ps.length - 1 - j < (Ly.partsI ps (i1 + 2)).length := by rw [Ly.partsI_len]; omega
        rw [show ps.length - (j + 1) = ps.length - 1 - j by omega, List.drop_eq_getElem_cons hlt, (List.getElem?_eq_some_iff.mp hit').2, List.reverse_cons, show ps.length - 1 - j + 1 = ps.length - j by omega]
      rw [ed, ← List.append_assoc, ← List.append_assoc]
      exact ItemsAt.snoc ⟨pj, xj, rfl, by rw [upd_ne hpjD, upd_same]; rfl, hrj⟩ (hus9.mono (TK.trans (TK.of sj) (TK.lst hDj _)))
    · intro σ H8 hz_2
      refine hideG fun G_20 back_20 => ?_
      obtain ⟨s8, hr8, ⟨pvs, hD8, hus8, hpv⟩, y14, y15, rfl⟩ := hz_2
      refine back_20 ?_
      clear back_20 G_20
      rw [← hpl, Nat.sub_self, List.drop_zero] at hus8
      refine ⟨_, rfl, _, _, rfl, rfl, fin (done ++ [Ly.pad i1 ++ lead ++ hd' ++ "("]) (rest ++ [Ly.lastI (Ly.pad i1 ++ ")" ++ tail)] ++ (Ly.partsI ps (i1 + 2)).reverse) (us ++ [.ref pl] ++ pvs) H8 _ _ _ _ _ _ _ _ _ _ s8 hr8 hD8 hus8 ?_ ?_ ?_ ?_ ?_ ?_⟩
      · intro more hm'
        rw [List.reverse_append, List.reverse_reverse, List.reverse_append, List.reverse_singleton, List.singleton_append] at hm'
        refine hideG fun G_21 back_21 => ?_
        obtain ⟨rows', more', rfl, q1, q2⟩ := Ly.anyI_parts ps (i1 + 2) hm'
        refine back_21 ?_
        clear back_21 G_21
        cases q2 with
        | @cons _ _ rl more'' b1 b2 =>
          have e := Ly.any_word b1
          dsimp only [Ly.lastI] at e
          rw [Ly.last_row] at e
          have := hany _ (.cons (.bundle (h := hd') (lead := lead) (tail := tail) hne q1) b2)
          rw [e]
          simpa using this
      · intro z
        have q1 := hrule z
        rw [Ly.layI] at q1
        dsimp only at q1
        have ht : isTag (T.bundle hd' ps) = false := rfl
        rw [hc0 z, rule_unb ht] at hub'
        rw [Ly.lay, if_neg (fun y => hub' (by
          rw [Bool.or_eq_true]
          exact y.imp (fun e => List.isEmpty_iff.mpr e) decide_eq_true))] at q1
        rw [List.reverse_append, List.reverse_reverse, List.reverse_append, List.reverse_singleton, List.singleton_append, Ly.layI_app, Ly.layI_parts, Ly.layI]
        dsimp only [Ly.lastI]
        rw [Ly.lay, Ly.last_row]
        simpa using q1
      · exact fun _ => True.intro
      · intro y hy
        rcases List.mem_append.mp hy with hy | hy
        · rcases List.mem_append.mp hy with hy | hy
          · exact hlenr y hy
          · have e : y = Ly.lastI (Ly.pad i1 ++ ")" ++ tail) := by simpa using hy
            subst e
            dsimp only [Ly.lastI]
            have hl1' := hl1'.out
            rw [Th.flat, Th.app_len, Th.app_len, Th.app_len, e1, e2] at hl1'
            rw [Ly.last_row, Th.size, len_app, len_app, Ly.pad_len, e2]
            exact ⟨by omega, by omega⟩
        · have hy' := List.mem_reverse.mp hy
          have p1 := Ly.parts_flat ps (i1 + 2) y hy'
          have p2 := Ly.parts_size ps (i1 + 2) y hy'
          have hs1 := hs1.out
          have hl1' := hl1'.out
          rw [Th.flat, Th.app_len, Th.app_len, Th.app_len, e1, e2] at hl1'
          rw [Th.size] at hs1
          exact ⟨by omega, by omega⟩
      · have ec : Ly.capI (Ly.partsI ps (i1 + 2)).reverse = Ly.caps ps := by
          have rev : ∀ l : List Ly.It, Ly.capI l.reverse = Ly.capI l := by
            intro l
            induction l with
            | nil => rfl
            | cons x l ih => rw [List.reverse_cons, Ly.capI_app, ih, Ly.capI, Ly.capI, Ly.capI]; omega
          rw [rev, Ly.capI_parts]
        have hcapI := hcapI.out
        rw [Ly.cap] at hcapI
        rw [Ly.capI_app, Ly.capI_app, ec, Ly.capI, Ly.capI, List.length_append, List.length_singleton]
        dsimp only [Ly.lastI]
        rw [Ly.cap]
        omega
      · have ec : Ly.wtI (Ly.partsI ps (i1 + 2)).reverse = Ly.wts ps := by
          have rev : ∀ l : List Ly.It, Ly.wtI l.reverse = Ly.wtI l := by
            intro l
            induction l with
            | nil => rfl
            | cons x l ih => rw [List.reverse_cons, Ly.wtI_app, ih, Ly.wtI, Ly.wtI, Ly.wtI]; omega
          rw [rev, Ly.wtI_parts]
        rw [hwr.out, Ly.wtI_app, Ly.wtI_app, ec, Ly.wtI, Ly.wtI, Ly.wt]
        dsimp only [Ly.lastI]
        rw [Ly.wt]
        omega
end
theorem cut_all {xs : List V} (h : xs.length ≤ 500) : cutV xs none (some 500) = xs := by
  unfold cutV
  have e : HT.sIx xs.length xs.length (some 500) = xs.length := by
    have := HT.sIx_nat xs.length xs.length 500
    rw [show ((500 : Nat) : Int) = 500 from rfl] at this
    rw [this]
    omega
  show (xs.drop (HT.sIx xs.length 0 none)).take (HT.sIx xs.length xs.length (some 500) - HT.sIx xs.length 0 none) = xs
  rw [e, HT.sIx_none]
  simp
theorem cut_from (k : Nat) (xs : List V) : cutV xs (some (k : Int)) none = xs.drop k := by
  unfold cutV
  rw [HT.sIx_nat, HT.sIx_none]
  by_cases h : k ≤ xs.length
  · rw [Nat.min_eq_left h, List.take_of_length_le (by simp)]
  · rw [Nat.min_eq_right (by omega), List.drop_length, List.drop_eq_nil_of_le (by omega)]
    simp
section
open Th (T)
noncomputable def WdT (x : Str) : Prop := isWordM x = true ∧ x.length ≤ 1000
theorem isw_all {x : Str} (h : isWordM x = true) : x ≠ ("" : Str) ∧ ∀ c ∈ Sl.sg x, wordy c = true := by
  unfold isWordM at h
  rw [Bool.and_eq_true] at h
  refine ⟨fun z => ?_, fun c hc => ?_⟩
  · subst z
    exact absurd h.1 (by decide)
  · exact List.all_eq_true.mp h.2 c hc
theorem wordy_plain {c : Nat} (h : wordy c = true) : c ≠ 32 ∧ Rd.isM c = false ∧ c < 128 := by
  have hc : c < 128 := by
    unfold wordy at h
    rw [Bool.or_eq_true, decide_eq_true_eq, decide_eq_true_eq] at h
    omega
  have key : ∀ c, c < 128 → wordy c = true → c ≠ 32 ∧ Rd.isM c = false := by decide +kernel
  exact ⟨(key c hc h).1, (key c hc h).2, hc⟩
theorem isw_ok {x : Str} (h : isWordM x = true) : Rd.WordOk x := by
  obtain ⟨h1, h2⟩ := isw_all h
  refine ⟨fun s hs => ⟨(wordy_plain (h2 s hs)).1, (wordy_plain (h2 s hs)).2.1⟩, fun z => h1 (Sl.sg_ext (by rw [z]; rfl))⟩
theorem wf_isw : Rd.Wf isWordM where
  no := fun x h => by
    refine ⟨?_, ?_, ?_, ?_, ?_, ?_⟩ <;> (intro z; rw [z] at h; revert h; decide +kernel)
theorem isw_of_wd {x : Str} (h : Wd x) : isWordM x = true := by
  unfold isWordM
  rw [Bool.and_eq_true]
  refine ⟨?_, List.all_eq_true.mpr fun c hc => h.2 c hc⟩
  have : ¬ V.str x = V.str "" := fun z => by
    injection z with z
    apply h.1
    rw [z]
    rfl
  rw [decide_eq_false this]
  rfl
mutual
theorem al_of {p : Str → Prop} {isW : Str → Bool} (h : ∀ x, p x → isW x = true) : ∀ {t : T}, Th.Al p t → Rd.Al isW t
  | .word x, a => by rw [Th.Al] at a; rw [Rd.Al]; exact h x a
  | .bundle hd ps, a => by rw [Th.Al] at a; rw [Rd.Al]; exact ⟨h hd a.1, als_of' h a.2⟩
  | .run ws, a => by rw [Th.Al] at a; rw [Rd.Al]; exact fun w hw => h w (a w hw)
  | .tag w t, a => by rw [Th.Al] at a; rw [Rd.Al]; exact ⟨h w a.1, al_of h a.2⟩
theorem als_of' {p : Str → Prop} {isW : Str → Bool} (h : ∀ x, p x → isW x = true) : ∀ {ts : List T}, Th.Als p ts → Rd.Als isW ts
  | [], _ => by rw [Rd.Als]; trivial
  | t :: r, a => by rw [Th.Als] at a; rw [Rd.Als]; exact ⟨al_of h a.1, als_of' h a.2⟩
end
mutual
theorem ok_of {p : Str → Prop} (h : ∀ x, p x → Rd.WordOk x) : ∀ {t : T}, Th.Al p t → Rd.Ok t
  | .word x, a => by rw [Th.Al] at a; rw [Rd.Ok]; exact h x a
  | .bundle hd ps, a => by rw [Th.Al] at a; rw [Rd.Ok]; exact ⟨h hd a.1, oks_of h a.2⟩
  | .run ws, a => by rw [Th.Al] at a; rw [Rd.Ok]; exact fun w hw => h w (a w hw)
  | .tag w t, a => by rw [Th.Al] at a; rw [Rd.Ok]; exact ⟨h w a.1, ok_of h a.2⟩
theorem oks_of {p : Str → Prop} (h : ∀ x, p x → Rd.WordOk x) : ∀ {ts : List T}, Th.Als p ts → Rd.Oks ts
  | [], _ => by rw [Rd.Oks]; trivial
  | t :: r, a => by rw [Th.Als] at a; rw [Rd.Oks]; exact ⟨ok_of h a.1, oks_of h a.2⟩
end
mutual
theorem tk_mem {p : Str → Prop} : ∀ {t : T}, Th.Al p t → ∀ y ∈ Rd.tk t, p y ∨ y ∈ MK6
  | .word x, a, y, hy => by
    rw [Th.Al] at a; rw [Rd.tk, List.mem_singleton] at hy
    rw [hy]; exact .inl a
  | .bundle hd ps, a, y, hy => by
    rw [Th.Al] at a; rw [Rd.tk] at hy
    rcases List.mem_cons.mp hy with z | hy
    · rw [z]; exact .inl a.1
    rcases List.mem_cons.mp hy with z | hy
    · rw [z]; exact .inr (by decide)
    rcases List.mem_append.mp hy with z | z
    · exact tks_mem a.2 y z
    · rw [List.mem_singleton.mp z]; exact .inr (by decide)
  | .run ws, a, y, hy => by
    rw [Th.Al] at a; rw [Rd.tk] at hy
    rcases List.mem_cons.mp hy with z | hy
    · rw [z]; exact .inr (by decide)
    rcases List.mem_append.mp hy with z | z
    · exact .inl (a y z)
    · rw [List.mem_singleton.mp z]; exact .inr (by decide)
  | .tag w t, a, y, hy => by
    rw [Th.Al] at a; rw [Rd.tk] at hy
    rcases List.mem_cons.mp hy with z | hy
    · rw [z]; exact .inl a.1
    rcases List.mem_cons.mp hy with z | hy
    · rw [z]; exact .inr (by decide)
    exact tk_mem a.2 y hy
theorem tks_mem {p : Str → Prop} : ∀ {ts : List T}, Th.Als p ts → ∀ y ∈ Rd.tks ts, p y ∨ y ∈ MK6
  | [], _, y, hy => by rw [Rd.tks] at hy; cases hy
  | [t], a, y, hy => by rw [Th.Als] at a; rw [Rd.tks] at hy; exact tk_mem a.1 y hy
  | t :: u :: r, a, y, hy => by
    rw [Th.Als] at a; rw [Rd.tks] at hy
    rcases List.mem_append.mp hy with z | hy
    · exact tk_mem a.1 y z
    rcases List.mem_cons.mp hy with z | hy
    · rw [z]; exact .inr (by decide)
    exact tks_mem a.2 y hy
end
noncomputable def heap1 (l : List Str) : Nat := (l.map Str.length).sum + l.length
theorem heap1_cons (x : Str) (l : List Str) : heap1 (x :: l) = x.length + 1 + heap1 l := by unfold heap1; simp; omega
theorem heap1_app (a b : List Str) : heap1 (a ++ b) = heap1 a + heap1 b := by unfold heap1; simp; omega
theorem heap1_nil : heap1 [] = 0 := rfl
mutual
theorem tk_heap : ∀ t : T, heap1 (Rd.tk t) ≤ 2 * Th.size t
  | .word x => by rw [Rd.tk, Th.size, heap1_cons, heap1_nil]; omega
  | .bundle hd ps => by
    have := tks_heap ps
    have e1 : ("(" : Str).length = 1 := by decide
    have e2 : (")" : Str).length = 1 := by decide
    rw [Rd.tk, Th.size, heap1_cons, heap1_cons, heap1_app, heap1_cons, heap1_nil]
    omega
  | .run ws => by
    have e1 : ("[" : Str).length = 1 := by decide
    have e2 : ("]" : Str).length = 1 := by decide
    have : heap1 ws = (ws.map fun x => x.length + 1).sum := by
      induction ws with
      | nil => rfl
      | cons x l ih => rw [heap1_cons, ih]; simp
    rw [Rd.tk, Th.size, heap1_cons, heap1_app, heap1_cons, heap1_nil]
    omega
  | .tag w t => by
    have := tk_heap t
    have e1 : (":" : Str).length = 1 := by decide
    rw [Rd.tk, Th.size, heap1_cons, heap1_cons]
    omega
theorem tks_heap : ∀ ts : List T, heap1 (Rd.tks ts) ≤ 2 * Th.sizes ts
  | [] => by rw [Rd.tks, heap1_nil]; omega
  | [t] => by
    have := tk_heap t
    rw [Rd.tks, Th.sizes]; omega
  | t :: u :: r => by
    have h1 := tk_heap t
    have h2 := tks_heap (u :: r)
    have e1 : ("," : Str).length = 1 := by decide
    rw [Rd.tks, Th.sizes, heap1_app, heap1_cons]
    omega
end
theorem map_sg_inj : ∀ {a b : List Str}, a.map Sl.sg = b.map Sl.sg → a = b
  | [], [], _ => rfl
  | [], _ :: _, h => by cases h
  | _ :: _, [], h => by cases h
  | x :: a, y :: b, h => by
    rw [List.map_cons, List.map_cons] at h
    injection h with h1 h2
    rw [Sl.sg_ext h1, map_sg_inj h2]
theorem tok_bound {p : Str → Prop} (hp : ∀ x, p x → x ≠ ("" : Str) ∧ x.length ≤ 1000 ∧ ∀ c ∈ x.cps.toList, c < 16 ^ 8) {l : List Str} (hl : l.length ≤ 5000000) (h : ∀ y ∈ l, p y ∨ y ∈ MK6) : TkOk l := by
  refine ⟨hl, fun y hy => ?_⟩
  rcases h y hy with z | z
  · exact hp y z
  · exact (by decide +kernel : ∀ m ∈ MK6, m ≠ ("" : Str) ∧ m.length ≤ 1000 ∧ ∀ c ∈ m.cps.toList, c < 16 ^ 8) y z
theorem wdt_tok {x : Str} (h : WdT x) : x ≠ ("" : Str) ∧ x.length ≤ 1000 ∧ ∀ c ∈ x.cps.toList, c < 16 ^ 8 :=
  ⟨(isw_all h.1).1, h.2, fun c hc => Nat.lt_trans (wordy_plain ((isw_all h.1).2 c hc)).2.2 (by decide)⟩
theorem tk_len {t : T} (hz : Th.size t ≤ 30000) : (Rd.tk t).length ≤ 60000 := by
  have := tk_heap t
  unfold heap1 at this
  omega
theorem tk_ok {t : T} (h : Th.Al WdT t) (hz : Th.size t ≤ 30000) : TkOk (Rd.tk t) :=
  tok_bound (fun _ => wdt_tok) (by have := tk_len hz; omega) (tk_mem h)
theorem good_of {t : T} (h : Th.Al WdT t) : ∀ y ∈ Rd.tk t, GoodP y := fun y hy => by
  rcases tk_mem h y hy with z | z
  · exact .inr (isw_ok z.1)
  · exact .inl (mk6 z)
theorem tk_tl {t : T} (hz : Th.size t ≤ 30000) : tl (Rd.tk t) (Rd.tk t).length ≤ 300000 := by
  have := tk_heap t
  unfold heap1 at this
  unfold tl
  rw [List.take_length]
  omega
theorem read_back {cs : List (Nat × Nat)} (hm : cs.map (·.1) = Rd.marks) {t : T} {rows : List Str} (h : Th.Al WdT t) (hz : Th.size t ≤ 30000) (e : Rd.tokR rows = (Rd.tk t).map Sl.sg) : TkOk (toksOf cs rows) ∧ Rd.parse isWordM (toksOf cs rows) = some t := by
  have e1 : toksOf cs rows = Rd.tk t := map_sg_inj (by rw [toksOf_sg hm]; exact e)
  rw [e1]
  exact ⟨tk_ok h hz, Rd.parse_tk wf_isw (al_of (fun x (z : WdT x) => z.1) h)⟩
theorem any_toks {t : T} {rows : List Str} (h : Th.Al WdT t) (a : Ly.Any t 0 "" "" rows) : Rd.tokR rows = (Rd.tk t).map Sl.sg := by
  have := Rd.tok_any a (ok_of (fun x (z : WdT x) => isw_ok z.1) h) Rd.cut_nil Rd.tail_nil
  rw [this]
  show Rd.tokL [] ++ _ ++ Rd.tokL [] = _
  rw [Rd.tok_nil]
  simp
theorem flat_toks {t : T} (h : Th.Al WdT t) : Rd.tokL (Sl.sg (Th.flat t)) = (Rd.tk t).map Sl.sg := Rd.tok_flat (ok_of (fun x (z : WdT x) => isw_ok z.1) h)
theorem grown_wdt (cells : List Int) : Th.Al WdT (Th.grown wordBy cells) :=
  Th.al_grown2 (p := WdT) (fun n => ⟨isw_of_wd (wordBy_wd n), by have := wordBy_len n; omega⟩) wordBy_len ⟨isw_of_wd top_wd, by decide⟩ cells
end
section
open Rp
open Th (T)
variable {P : Program} {w : World} {K : PySem.W.Frag} {mg : Str → Option Value} {base : Heap}
inductive SpLaidAI (K : PySem.W.Frag) (cs : List (Nat × Nat)) (d : Nat) (vs : List V) (H : Hp) (Q : VK) (E : XK) : Prop
  | mk (r : Addr) (rows : List Str) (W : Int) (h_0 : vs = [.ref r, .int W]) (h_1 : SqL K H r (rows.map V.str)) (h_2 : rows.length ≤ 1000000) (h_3 : (∀ x ∈ rows, x.length ≤ 300000)) (h_4 : TkOk (toksOf cs rows)) (h_5 : (∀ t, Rd.parse isWordM (toksOf cs rows) = some t → Th.deep t < d ∧ Th.size t ≤ 30000 ∧ ∀ (D : Addr) (H' : Hp), Same H H' → H' D = some (.lst ((Ly.lay W t 0 "" "").map V.str)) → Q (.ref D) H')) (h_6 : (Rd.parse isWordM (toksOf cs rows) = none → ∀ (e : Addr) (H' : Hp), Same H H' → E (.ref e) none H')) : SpLaidAI K cs d vs H Q E
noncomputable def spLaidA (K : PySem.W.Frag) (cs : List (Nat × Nat)) (d : Nat) : Sp := fun vs H Q E => SpLaidAI K cs d vs H Q E
theorem ok_laid_anew {nt m d : Nat} {cs : List (Nat × Nat)} {f fr fl c_NoThing : Addr} {fd dr dl : FuncData} (TA : At K mg "laid_anew" s_laid_anew ["rows", "width"] f fd) (TD : At K mg "read" s_read ["rows"] fr dr) (TL : At K mg "laid" s_laid ["thing", "width"] fl dl)
    (G_read : FnOkT nt P w K mg base (CXN P w (.ref c_NoThing)) m fr dr ["rows"] (spRead K cs)) (G_laid : FnOk P w K mg base CX0 m fl dl ["thing", "width"] (spLaid d)) : FnOkT nt P w K mg base (CXN P w (.ref c_NoThing)) (m + 1) f fd ["rows", "width"] (spLaidA K cs d) := by
  have sc := sc_laid_anew
  obtain ⟨oc, od, kV, doc, pmv, an, cdv, ct, osl, rfl, lk, hcd⟩ := TA.F.ex
  refine fn_ofT lk hcd sc (fun vs H Q E h => ?_) (fun A outer s H vs Q E hr h => ?_)
  · obtain ⟨r, rows, W, rfl, _⟩ := h; rfl
  obtain ⟨r, rows, W, rfl, hS, hlen, hx, ok, qT, qE⟩ := h
  have m_read := TD.m
  have k_read := TD.F.kp
  have b_read := TD.b
  have m_laid := TL.m
  have k_laid := TL.F.kp
  have b_laid := TL.b
  refine ⟨_, ((pss_oneT (ps_retT (pe_callT (FnOk.tt G_laid) hr rfl m_laid k_laid b_laid .nil pass0 (pa_consT (pe_callT G_read hr rfl m_read k_read b_read .nil passN (PA.tt (pa_cons (pv 0) pa_nil))) (PA.tt (pa_cons (pv 1) pa_nil))))))), ?_⟩
  refine ⟨_, rfl, r, rows, rfl, hS, hlen, hx, ok, fun t ht v H1 s1 r1 => ?_, qE⟩
  obtain ⟨h1, h2, q⟩ := qT t ht
  exact ⟨_, rfl, t, v, W, rfl, r1, h1, h2, fun D H2 _ s2 hD => q D H2 (s1.trans s2) hD⟩
inductive SpRefAI (K : PySem.W.Frag) (cs : List (Nat × Nat)) (vs : List V) (H : Hp) (Q : VK) (a_3 : XK) : Prop
  | mk (r : Addr) (rows : List Str) (W : Int) (h_0 : vs = [.ref r, .int W]) (h_1 : SqL K H r (rows.map V.str)) (h_2 : rows.length ≤ 1000000) (h_3 : (∀ x ∈ rows, x.length ≤ 300000)) (h_4 : TkOk (toksOf cs rows)) (h_5 : Rd.parse isWordM (toksOf cs rows) = none) (h_6 : ∀ (H' : Hp), Same H H' → Q (.bl true) H') : SpRefAI K cs vs H Q a_3
noncomputable def spRefA (K : PySem.W.Frag) (cs : List (Nat × Nat)) : Sp := fun vs H Q a_3 => SpRefAI K cs vs H Q a_3
theorem ok_refA {nt m d : Nat} {cs : List (Nat × Nat)} {f g c_NoThing : Addr} {fd gd : FuncData} (TR : At K mg "_law_refuses" s__law_refuses ["_law_rows", "_law_width"] f fd) (TA : At K mg "laid_anew" s_laid_anew ["rows", "width"] g gd) (g_NoThing : mg "NoThing" = some (.ref c_NoThing)) (XF : ExKn K c_NoThing)
    (G_laid_anew : FnOkT nt P w K mg base (CXN P w (.ref c_NoThing)) m g gd ["rows", "width"] (spLaidA K cs d)) : FnOkT nt P w K mg base CX0 (m + 1) f fd ["_law_rows", "_law_width"] (spRefA K cs) := by
  have sc := sc__law_refuses
  refine TR.F.okT sc (fun vs H Q E h => ?_) (fun cdv A outer s H vs Q E hr h => ?_)
  · obtain ⟨r, rows, W, rfl, _⟩ := h; rfl
  obtain ⟨r, rows, W, rfl, hS, hlen, hx, ok, hno, q⟩ := h
  have m_laid_anew := TA.m
  have k_laid_anew := TA.F.kp
  have b_laid_anew := TA.b
  have xk_NoThing := XF.self
  have xb_NoThing := XF.x.sb
  refine ⟨_, ((pss_consT (ps_tryET G_laid_anew hr rfl m_laid_anew k_laid_anew b_laid_anew (pa_cons (pv 0) (pa_cons (pv 1) pa_nil))
      (lands rfl rfl rfl g_NoThing xk_NoThing xb_NoThing (fun _ _ _ => (pss_one (ps_ret pe_bl)))))
    (PSs.tt (pss_one (ps_ret pe_bl))))), ?_⟩
  exact ⟨_, rfl, _, rfl, r, rows, W, rfl, hS, hlen, hx, ok, fun t ht => absurd (hno.symm.trans ht) (by simp), fun _ e H1 s1 => q H1 s1⟩
end
section
open Rp
open Th (T)
variable {P : Program} {w : World} {K : PySem.W.Frag} {mg : Str → Option Value} {base : Heap}
inductive SpLawI (K : PySem.W.Frag) (vs : List V) (H : Hp) (Q : VK) (a_3 : XK) : Prop
  | mk (a : Addr) (ns : List Int) (h_0 : vs = [.ref a]) (h_1 : SqL K H a (ns.map V.int)) (h_2 : ns.length ≤ 63) (h_3 : ∀ H', Q (.bl true) H') : SpLawI K vs H Q a_3
noncomputable def spLaw (K : PySem.W.Frag) : Sp := fun vs H Q a_3 => SpLawI K vs H Q a_3
theorem row_bound {t : T} {rows : List Str} (h : Ly.Any t 0 "" "" rows) (hz : Th.size t ≤ 30000) : ∀ x ∈ rows, x.length ≤ 200000 := fun x hx => by
  have h1 := any_le h x hx
  rw [Ly.flatRow_len] at h1
  have h2 := Th.flat_le t
  have e0 : ("" : Str).length = 0 := by decide
  omega
noncomputable def spoils : List Str := [")", "a", "A", "( b"]
theorem spoilt_none {cs : List (Nat × Nat)} (hm : cs.map (·.1) = Rd.marks) {t : T} {rows : List Str} {x : Str} (h : Th.Al WdT t) (hz : Th.size t ≤ 30000) (e : Rd.tokR rows = (Rd.tk t).map Sl.sg) (hx : x ∈ spoils) :
    TkOk (toksOf cs (rows ++ [x])) ∧ Rd.parse isWordM (toksOf cs (rows ++ [x])) = none := by
  have hal := al_of (isW := isWordM) (fun x (z : WdT x) => z.1) h
  have key : ∀ ys : List Str, Rd.tokL (Sl.sg x) = ys.map Sl.sg → toksOf cs (rows ++ [x]) = Rd.tk t ++ ys := fun ys hy => map_sg_inj (by
    rw [toksOf_sg hm, Rd.tokR_app, Rd.tokR_one, e, hy, List.map_append])
  have hok := tk_ok h hz
  have hln := tk_len hz
  have tok : ∀ ys : List Str, ys.length ≤ 2 → (∀ y ∈ ys, y ≠ ("" : Str) ∧ y.length ≤ 1000 ∧ ∀ c ∈ y.cps.toList, c < 16 ^ 8) → TkOk (Rd.tk t ++ ys) := fun ys hl hy => by
    refine ⟨by rw [List.length_append]; omega, fun y hm => ?_⟩
    rcases List.mem_append.mp hm with z | z
    · exact hok.2 y z
    · exact hy y z
  simp only [spoils, List.mem_cons, List.not_mem_nil, or_false] at hx
  rcases hx with rfl | rfl | rfl | rfl
  · rw [key [(")" : Str)] (by decide +kernel)]
    exact ⟨tok _ (by decide) (by decide +kernel), Rd.parse_more wf_isw hal (by decide)⟩
  · rw [key [("a" : Str)] (by decide +kernel)]
    exact ⟨tok _ (by decide) (by decide +kernel), Rd.parse_more wf_isw hal (by decide)⟩
  · rw [key [("A" : Str)] (by decide +kernel)]
    exact ⟨tok _ (by decide) (by decide +kernel), Rd.parse_more wf_isw hal (by decide)⟩
  · rw [key [("(" : Str), ("b" : Str)] (by decide +kernel)]
    exact ⟨tok _ (by decide) (by decide +kernel), Rd.parse_open wf_isw hal (by decide)⟩
theorem law_core {f1 f2 f3 f4 f5 f6 f7 f8 f9 f10 f11 f12 f13 f14 f15 f16 f17 f18 f19 f20 f21 f22 f23 f24 f25 f26 f27 f28 f29 f30 f31 f32 f33 f34 : Addr} {d1 d2 d3 d4 d5 d6 d7 d8 d9 d10 d11 d12 d13 d14 d15 d16 d17 d18 d19 d20 d21 d22 d23 d24 d25 d26 d27 d28 d29 d30 d31 d32 d33 d34 : FuncData} (B : Bn mg) (m_all : mg "all" = none) (m_enumerate : mg "enumerate" = none) {tk_STEP : Tok} (g_STEP : mg "STEP" = some (.int 2 tk_STEP)) {tk_SIGNS_OF_WORDS : Tok} (g_SIGNS_OF_WORDS : mg "SIGNS_OF_WORDS" = some (.str "abcdefghijklmnopqrstuvwxyz0123456789" tk_SIGNS_OF_WORDS)) {tk_END : Tok} (g_END : mg "END" = some (.str "" tk_END)) {c_NoThing : Addr} (g_NoThing : mg "NoThing" = some (.ref c_NoThing)) (XF : ExKn K c_NoThing){c_Tokens : Addr} (g_Tokens : mg "Tokens" = some (.ref c_Tokens)) (TC : TkCls K c_Tokens) (MKT : Mk K c_Tokens f31) {pm : Addr} {om : Obj} {nz : Nat} {cs : List (Nat × Nat)} (MKS : Marks K mg 311 cs pm om nz)
    (T1 : At K mg "filled" s_filled ["words", "room"] f1 d1) (T2 : At K mg "flat" s_flat ["thing"] f2 d2) (T3 : At K mg "laid" s_laid ["thing", "width"] f3 d3) (T4 : At K mg "rows_of_thing" s_rows_of_thing ["thing", "width", "indent", "lead", "tail"] f4 d4) (T5 : At K mg "can_be_broken" s_can_be_broken ["thing"] f5 d5) (T6 : At K mg "rows_of_parts" s_rows_of_parts ["parts", "width", "indent"] f6 d6) (T7 : At K mg "rows_of_words" s_rows_of_words ["words", "width", "indent"] f7 d7) (T8 : At K mg "is_word" s_is_word ["text"] f8 d8) (T9 : At K mg "read" s_read ["rows"] f9 d9) (T10 : At K mg "laid_anew" s_laid_anew ["rows", "width"] f10 d10) (T11 : At K mg "tokens_of_rows" s_tokens_of_rows ["rows"] f11 d11) (T12 : At K mg "tokens_of_row" s_tokens_of_row ["row"] f12 d12) (T13 : At K mg "begin" s_begin ["tokens", "begun"] f13 d13) (T14 : At K mg "hand_over" s_hand_over ["thing", "tokens", "begun"] f14 d14) (T15 : At K mg "words_of_run" s_words_of_run ["tokens"] f15 d15) (T16 : At K mg "_law_at" s__law_at ["_law_script", "_law_k"] f16 d16) (T17 : At K mg "_law_texts" s__law_texts ["_law_found"] f17 d17) (T18 : At K mg "_law_word_by" s__law_word_by ["_law_salt"] f18 d18) (T19 : At K mg "_law_tags" s__law_tags ["_law_thing"] f19 d19) (T20 : At K mg "_law_step" s__law_step ["_law_frames", "_law_way", "_law_salt"] f20 d20) (T21 : At K mg "_law_grown" s__law_grown ["_law_cells"] f21 d21) (T22 : At K mg "_law_flat_line" s__law_flat_line ["_law_thing"] f22 d22) (T23 : At K mg "_law_pieces_of" s__law_pieces_of ["_law_line"] f23 d23) (T24 : At K mg "_law_wordy" s__law_wordy ["_law_piece"] f24 d24) (T25 : At K mg "_law_strewn_rows" s__law_strewn_rows ["_law_pieces", "_law_cells"] f25 d25) (T26 : At K mg "_law_refuses" s__law_refuses ["_law_rows", "_law_width"] f26 d26) (T27 : At K mg "_law_unbroken" s__law_unbroken ["_law_one", "_law_wide", "_law_width", "_law_cell"] f27 d27) (T28 : At K mg "_law_word_rows" s__law_word_rows ["_law_words", "_law_room", "_law_cell"] f28 d28) (T29 : At K mg "_law_other_rows" s__law_other_rows ["_law_thing", "_law_width", "_law_cells"] f29 d29) (T30 : At K mg "_law_mixed" s__law_mixed ["_law_script"] f30 d30) (T31 : AtM K c_Tokens "__init__" "Tokens.__init__" s_Tokens___init__ ["self", "tokens"] f31 d31) (T32 : AtM K c_Tokens "takes" "Tokens.takes" s_Tokens_takes ["self", "token"] f32 d32) (T33 : AtM K c_Tokens "take_word" "Tokens.take_word" s_Tokens_take_word ["self"] f33 d33) (T34 : At K mg "law" s_law ["_law_script"] f34 d34) (GA : FnOkT 311 P w K mg base (CXN P w (.ref c_NoThing)) 199 f10 d10 ["rows", "width"] (spLaidA K cs 80)) : FnOkT 311 P w K mg base CX0 201 f34 d34 ["_law_script"] (spLaw K) := by
  have sc := sc_law
  refine T34.F.okT sc (fun vs H Q E h => ?_) (fun cdv A outer s H vs Q E hr h => ?_)
  · obtain ⟨a, ns, rfl, _⟩ := h; rfl
  obtain ⟨a, ns, rfl, hS, h63, q⟩ := h
  have hu : HuP _ := Nat.lt_of_succ_lt (hu_of hr)
  have m_list := B.list
  have G_laid_anew := GA.mono (show 199 ≤ 200 by decide)
  have G__law_refuses : FnOkT 311 P w K mg base CX0 200 f26 d26 _ _ := ok_refA T26 T10 g_NoThing XF GA
  have G__law_texts : FnOk P w K mg base CX0 200 f17 d17 _ _ := ok_texts T17 B
  have G__law_at : FnOk P w K mg base CX0 200 f16 d16 _ _ := ok_at T16 B
  have G__law_grown : FnOk P w K mg base CX0 200 f21 d21 _ _ := ok_grown (n := 197) T21 T20 T18 T19 B
  have G__law_flat_line : FnOk P w K mg base CX0 200 f22 d22 _ _ := ok_line T22 B
  have G__law_pieces_of : FnOk P w K mg base CX0 200 f23 d23 _ _ := ok_pieces T23
  have G__law_strewn_rows : FnOk P w K mg base CX0 200 f25 d25 _ _ := ok_strewn (n := 198) T25 T24 B
  have G__law_other_rows : FnOk P w K mg base CX0 200 f29 d29 _ _ := ok_other (n := 198) T29 T22 T27 T28 B
  have G__law_mixed : FnOk P w K mg base CX0 200 f30 d30 _ _ := ok_mixed T30 B
  have m_laid_anew := T10.m
  have k_laid_anew := T10.F.kp
  have b_laid_anew := T10.b
  have m__law_refuses := T26.m
  have k__law_refuses := T26.F.kp
  have b__law_refuses := T26.b
  have m__law_texts := T17.m
  have k__law_texts := T17.F.kp
  have b__law_texts := T17.b
  have m__law_at := T16.m
  have k__law_at := T16.F.kp
  have b__law_at := T16.b
  have m__law_grown := T21.m
  have k__law_grown := T21.F.kp
  have b__law_grown := T21.b
  have m__law_flat_line := T22.m
  have k__law_flat_line := T22.F.kp
  have b__law_flat_line := T22.b
  have m__law_pieces_of := T23.m
  have k__law_pieces_of := T23.F.kp
  have b__law_pieces_of := T23.b
  have m__law_strewn_rows := T25.m
  have k__law_strewn_rows := T25.F.kp
  have b__law_strewn_rows := T25.b
  have m__law_other_rows := T29.m
  have k__law_other_rows := T29.F.kp
  have b__law_other_rows := T29.b
  have m__law_mixed := T30.m
  have k__law_mixed := T30.F.kp
  have b__law_mixed := T30.b
  have rest10 : ∃ tr, PSst 311 (cxOf CX0 P w K mg base ["_law_script", "_law_width", "_law_wider", "_law_thing", "_law_due", "_law_rows", "_law_strewn", "_law_handed", "_law_found", "_law_spoilt"] "law" (defScope s_law) f34 cdv A outer s H E).nox (List.drop 10 (defBody s_law)) tr ∧ ∀ (W W2 : Int) (p rd rr rs : Addr) (ms : List Int) (t : T) (v : V) (rows srows : List Str) (H1 : Hp), H1 p = some (.lst (ms.map V.int)) → ms.length ≤ 63 → Th.Al WdT t → Th.size t ≤ 30000 → Th.deep t < 80 →
      H1 rd = some (.lst ((Ly.lay W t 0 "" "").map V.str)) → H1 rr = some (.lst (rows.map V.str)) → H1 rs = some (.lst (srows.map V.str)) → Rd.tokR rows = (Rd.tk t).map Sl.sg → Rd.tokR srows = (Rd.tk t).map Sl.sg → rows.length ≤ 300000 → srows.length ≤ 300000 → (∀ x ∈ rows, x.length ≤ 300000) → (∀ x ∈ srows, x.length ≤ 300000) →
      tr { nx := fun _ H' => Q .non H', rt := Q } [some (.ref p), some (.int W), some (.int W2), some v, some (.ref rd), some (.ref rr), some (.ref rs), none, none, none] H1 := by
    refine ⟨_, ((pss_consT (ps_forT PassesOwn.never rfl (pi_list (pe_lst (pa_cons (pv 5) (pa_cons (pv 6) (pa_cons (pv 4) pa_nil))))) (pg_nameL (i := 7) sc.nd rfl rfl)
      (pss_consT (ps_setT (i := 8) sc.nd rfl rfl (pe_callT G_laid_anew hr rfl m_laid_anew k_laid_anew b_laid_anew .nil pass0N (PA.tt (pa_cons (pe_callTy call_list_of rfl m_list boot_list' (pa_cons (pv 7) pa_nil)) (pa_cons (pv 1) pa_nil)))))
      (PSs.tt (pss_one (ps_if (PW.pt (pw_or (pt_not (pt_val (pe_call G__law_texts hr rfl m__law_texts k__law_texts b__law_texts .nil pass0 (pa_cons (pv 8) pa_nil)))) (pw_or1 (pt_cmpR (op_neL hu) (pv 8) (pv 4) (nomark _)))))
        (pss_one (ps_ret pe_bl))
        pss_nil)))))
    (pss_consT (PS.tt (ps_setL (i := 9) sc.nd rfl rfl (pe_op op_cat (pv 4) (pe_lst (pa_cons (pe_ix ix_list (pe_lst (pa_cons pe_str (pa_cons pe_str (pa_cons pe_str (pa_cons pe_str pa_nil))))) (pe_op op_mod (pe_op op_fdiv (pe_call G__law_at hr rfl m__law_at k__law_at b__law_at .nil pass0 (pa_cons (pv 0) (pa_cons pe_int pa_nil))) pe_int) pe_int) (fun _ _ => rfl)) pa_nil)))))
    (pss_oneT (ps_retT (pe_andT (pe_callT G__law_refuses hr rfl m__law_refuses k__law_refuses b__law_refuses .nil pass0 (PA.tt (pa_cons (pv 9) (pa_cons (pv 1) pa_nil)))) (pe_oneT (pe_callT G__law_refuses hr rfl m__law_refuses k__law_refuses b__law_refuses .nil pass0 (PA.tt (pa_cons (pe_lst pa_nil) (pa_cons (pv 1) pa_nil))))))))))), fun W W2 p rd rr rs ms t v rows srows H1 e1 hml hwd hz hdp hd1 hr1 hs1 tk1 tk2 l1 l2 x1 x2 => ?_⟩
    have ad := Ly.lay_any W t 0 "" ""
    have tkd := any_toks hwd ad
    have xd := row_bound ad hz
    have ld : (Ly.lay W t 0 "" "").length ≤ 300000 := by
      have h1 := any_count ad
      have h2 := Ly.cap_le t
      omega
    refine ⟨_, rfl, _, rfl, _, rfl, (by show 3 ≤ sizeLine; decide), fun c hc => ?_⟩
    have sc2 := same_new hc (.lst [V.ref rr, .ref rs, .ref rd])
    have e2 := sc2 _ _ e1
    have hd2 := sc2 _ _ hd1
    have hr2 := sc2 _ _ hr1
    have hs2 := sc2 _ _ hs1
    have hc2 : (upd H1 c (.lst [V.ref rr, .ref rs, .ref rd])) c = some (.lst [V.ref rr, .ref rs, .ref rd]) := upd_same
    generalize upd H1 c (.lst [V.ref rr, .ref rs, .ref rd]) = H2 at e2 hd2 hr2 hs2 hc2
    refine ⟨c, rfl, ⟨_, SqL.of hc2⟩, for_list (K := K) (a := c) (xs := [V.ref rr, .ref rs, .ref rd]) (fun i σ H' => Same H2 H' ∧ ∃ z1 z2 : Option V, σ = [some (.ref p), some (.int W), some (.int W2), some v, some (.ref rd), some (.ref rr), some (.ref rs), z1, z2, none]) ⟨Same.refl _, none, none, rfl⟩ (fun i σ H' _ ⟨s, _⟩ => SqL.of (s _ _ hc2)) ?_ ?_⟩
    · rintro i x σ H3 hx ⟨s3, z1, z2, rfl⟩
      obtain ⟨xa, xr, rfl, hxa, htk, hln, hxl⟩ : ∃ (xa : Addr) (xr : List Str), x = .ref xa ∧ H2 xa = some (.lst (xr.map V.str)) ∧ Rd.tokR xr = (Rd.tk t).map Sl.sg ∧ xr.length ≤ 300000 ∧ ∀ x ∈ xr, x.length ≤ 300000 := by
        have hmem := List.mem_of_getElem? hx
        simp only [List.mem_cons, List.not_mem_nil, or_false] at hmem
        rcases hmem with rfl | rfl | rfl
        · exact ⟨rr, rows, rfl, hr2, tk1, l1, x1⟩
        · exact ⟨rs, srows, rfl, hs2, tk2, l2, x2⟩
        · exact ⟨rd, _, rfl, hd2, tkd, ld, fun x hx => Nat.le_trans (xd x hx) (by decide)⟩
      obtain ⟨tok, hps⟩ := read_back MKS.m hwd hz htk
      refine ⟨_, rfl, xa, _, rfl, .inl (SqL.of (s3 _ _ hxa)), fun l hl => ?_⟩
      have s4 := s3.trans (same_new hl (.lst (xr.map V.str)))
      refine ⟨_, rfl, l, xr, W, rfl, SqL.of upd_same, by omega, hxl, tok, fun t' ht' => ?_, fun hn => absurd (hn.symm.trans hps) (by simp)⟩
      obtain rfl : t = t' := Option.some.inj (hps.symm.trans ht')
      refine ⟨hdp, hz, fun D H5 s5 hD => ?_⟩
      have s25 := s4.trans s5
      refine ⟨_, rfl, D, _, rfl, hD, _, rfl, ?_⟩
      refine iteF ?_
      refine ⟨_, rfl, _, rfl, D, rd, _, _, rfl, rfl, SqL.of hD, SqL.of (s25 _ _ hd2), strs_flat _, strs_flat _, _, rfl, ?_⟩
      refine ite2 (fun x => ?_) (fun _ => ?_)
      · exfalso
        have x' : (!eqVs ((Ly.lay W t 0 "" "").map V.str) ((Ly.lay W t 0 "" "").map V.str)) = true := x
        rw [eqVs_strs, decide_eq_true rfl] at x'
        cases x'
      · exact ⟨s25, _, _, rfl⟩
    · rintro σ H3 ⟨s3, z1, z2, rfl⟩
      have e3 := s3 _ _ e2
      have hd3 := s3 _ _ hd2
      refine ⟨_, rfl, (by show 4 ≤ sizeLine; decide), fun c4 hc4 => ?_⟩
      have s4 := same_new hc4 (.lst (spoils.map V.str))
      have e4 := s4 _ _ e3
      have hd4 := s4 _ _ hd3
      have hm0 : 0 ≤ ms.getD 0 0 / 45 % 4 := Int.emod_nonneg _ (by decide)
      have hm1 : ms.getD 0 0 / 45 % 4 < 4 := Int.emod_lt_of_pos _ (by decide)
      obtain ⟨k, hk, hk4⟩ : ∃ k : Nat, ms.getD 0 0 / 45 % 4 = (k : Int) ∧ k < 4 := ⟨(ms.getD 0 0 / 45 % 4).toNat, by omega, by omega⟩
      have hat : atI (spoils.map V.str) (ms.getD 0 0 / 45 % 4) = some (.str (spoils.getD k "")) := by
        rw [hk]
        refine atI_nat ?_
        rw [List.getElem?_map, List.getD_eq_getElem?_getD, List.getElem?_eq_getElem (show k < spoils.length from hk4)]
        rfl
      have hmem : spoils.getD k "" ∈ spoils := by
        rw [List.getD_eq_getElem?_getD, List.getElem?_eq_getElem (show k < spoils.length from hk4)]
        exact List.getElem_mem _
      generalize spoils.getD k "" = spx at hat hmem
      refine ⟨_, rfl, p, ms, 0, rfl, SqL.of e4, _, _, rfl, rfl, ⟨by decide, by decide⟩, _, _, rfl, rfl, (by show (0 : Int) < 4; decide), c4, _, _, _, rfl, rfl, SqL.of upd_same, hat, (by show 1 ≤ sizeLine; decide), fun c5 hc5 => ?_⟩
      have s5 := same_new hc5 (.lst [V.str spx])
      have hd5 := s5 _ _ hd4
      refine ⟨rd, c5, _, _, rfl, rfl, hd5, upd_same, le_size (by rw [List.length_map]; show (Ly.lay W t 0 "" "").length + 1 ≤ _; omega), fun c6 hc6 => ?_⟩
      obtain ⟨tok, hps⟩ := spoilt_none MKS.m hwd hz tkd hmem
      have hspl : spx.length ≤ 300000 := (by decide +kernel : ∀ m ∈ spoils, m.length ≤ 300000) spx hmem
      refine ⟨_, rfl, _, rfl, c6, Ly.lay W t 0 "" "" ++ [spx], W, rfl, SqL.of (by rw [upd_same, List.map_append]; rfl), by rw [List.length_append]; simp; omega, (fun x hx => ?_), tok, hps, fun H7 s7 => ⟨true, rfl, iteT ?_⟩⟩
      · rcases List.mem_append.mp hx with z | z
        · exact Nat.le_trans (xd x z) (by decide)
        · rw [List.mem_singleton.mp z]; exact hspl
      refine ⟨(by show 0 ≤ sizeLine; exact Nat.zero_le _), fun c8 hc8 => ?_⟩
      refine ⟨_, rfl, c8, [], W, rfl, SqL.of upd_same, by simp, (fun x hx => by cases hx), ⟨by simp [toksOf], fun t ht => by cases ht⟩, rfl, fun H9 s9 => q H9⟩
  obtain ⟨tr10, t10T, hq10⟩ := rest10
  have rest6 : ∃ tr, PSst 311 (cxOf CX0 P w K mg base ["_law_script", "_law_width", "_law_wider", "_law_thing", "_law_due", "_law_rows", "_law_strewn", "_law_handed", "_law_found", "_law_spoilt"] "law" (defScope s_law) f34 cdv A outer s H E).nox (List.drop 6 (defBody s_law)) tr ∧ ∀ (W W2 : Int) (p : Addr) (ms : List Int) (H1 : Hp), H1 p = some (.lst (ms.map V.int)) → ms.length ≤ 63 →
      tr { nx := fun _ H' => Q .non H', rt := Q } [some (.ref p), some (.int W), some (.int W2), none, none, none, none, none, none, none] H1 := by
    refine ⟨_, ((pss_consT (PS.tt (ps_setL (i := 3) sc.nd rfl rfl (pe_call G__law_grown hr rfl m__law_grown k__law_grown b__law_grown .nil pass0 (pa_cons (pe_slice sl_list (pv 0) (po_some pe_int) po_none) pa_nil))))
    (pss_consT (PS.tt (ps_setL (i := 4) sc.nd rfl rfl (pe_call G__law_other_rows hr rfl m__law_other_rows k__law_other_rows b__law_other_rows .nil pass0 (pa_cons (pv 3) (pa_cons (pv 1) (pa_cons (pe_lst (pa_cons pe_int pa_nil)) pa_nil))))))
    (pss_consT (PS.tt (ps_setL (i := 5) sc.nd rfl rfl (pe_call G__law_other_rows hr rfl m__law_other_rows k__law_other_rows b__law_other_rows .nil pass0 (pa_cons (pv 3) (pa_cons (pv 2) (pa_cons (pe_op op_cat (pe_lst (pa_cons (pe_op op_fdiv (pe_call G__law_at hr rfl m__law_at k__law_at b__law_at .nil pass0 (pa_cons (pv 0) (pa_cons pe_int pa_nil))) pe_int) pa_nil)) (pv 0)) pa_nil))))))
    (pss_consT (PS.tt (ps_setL (i := 6) sc.nd rfl rfl (pe_call G__law_strewn_rows hr rfl m__law_strewn_rows k__law_strewn_rows b__law_strewn_rows .nil pass0 (pa_cons (pe_call G__law_pieces_of hr rfl m__law_pieces_of k__law_pieces_of b__law_pieces_of .nil pass0 (pa_cons (pe_call G__law_flat_line hr rfl m__law_flat_line k__law_flat_line b__law_flat_line .nil pass0 (pa_cons (pv 3) pa_nil)) pa_nil)) (pa_cons (pe_op op_cat (pe_lst (pa_cons pe_int pa_nil)) (pv 0)) pa_nil)))))
    t10T))))), fun W W2 p ms H1 e1 hml => ?_⟩
    have ec : cutV (ms.map V.int) (some 2) none = (ms.drop 2).map V.int := by
      rw [List.map_drop]
      exact cut_from 2 _
    have h62 : (ms.drop 2).length ≤ 63 := by rw [List.length_drop]; omega
    obtain ⟨hsz, hdp⟩ := Th.grown_ok wordBy wordBy_len (ms.drop 2) h62
    have hwd := grown_wdt (ms.drop 2)
    refine ⟨_, rfl, _, rfl, p, _, rfl, SqL.of e1, fun c1 hc1 => ⟨c1, ms.drop 2, rfl, SqL.of (by rw [upd_same, ec]), h62, fun v H2 t2 r2 => ?_⟩⟩
    generalize Th.grown wordBy (ms.drop 2) = t at hsz hdp hwd r2
    have hz : Th.size t ≤ 30000 := by omega
    have e2 := ((same_new hc1 _).trans t2) _ _ e1
    refine ⟨_, rfl, _, rfl, (by show 1 ≤ sizeLine; decide), fun c3 hc3 => ⟨t, v, W, c3, [0], rfl, Rep.mono (same_new hc3 _) _ _ r2, SqL.of upd_same, by simp, by omega, fun rd H4 due _ s4 hd4 _ hlay _ _ => ?_⟩⟩
    have hdue := hlay rfl
    subst hdue
    have s24 := (same_new hc3 (.lst [V.int 0])).trans s4
    have e4 := s24 _ _ e2
    have r4 := Rep.mono s24 _ _ r2
    refine ⟨_, rfl, _, rfl, _, rfl, p, ms, 0, rfl, SqL.of e4, _, _, rfl, rfl, ⟨by decide, by decide⟩, (by show 1 ≤ sizeLine; decide), fun c5 hc5 => ?_⟩
    have s5 := same_new hc5 (.lst [V.int (ms.getD 0 0 / 45)])
    have e5 := s5 _ _ e4
    have r5 := Rep.mono s5 _ _ r4
    have hd5 := s5 _ _ hd4
    have ec5 : (upd H4 c5 (.lst [V.int (ms.getD 0 0 / 45)])) c5 = some (.lst [V.int (ms.getD 0 0 / 45)]) := upd_same
    generalize upd H4 c5 (.lst [V.int (ms.getD 0 0 / 45)]) = H5 at e5 r5 hd5 ec5
    refine ⟨_, rfl, c5, p, _, _, rfl, rfl, ec5, e5, le_size (by rw [List.length_map]; show 1 + ms.length ≤ _; omega), fun c6 hc6 => ?_⟩
    have s6 := same_new hc6 (.lst ([V.int (ms.getD 0 0 / 45)] ++ ms.map V.int))
    refine ⟨t, v, W2, c6, ms.getD 0 0 / 45 :: ms, rfl, Rep.mono s6 _ _ r5, SqL.of upd_same, by simp, by omega, fun rr H7 rows _ s7 hr7 a7 _ _ hrl => ?_⟩
    have s57 := s6.trans s7
    have e7 := s57 _ _ e5
    have r7 := Rep.mono s57 _ _ r5
    have hd7 := s57 _ _ hd5
    have hfl := Th.flat_le t
    refine ⟨_, rfl, t, v, rfl, r7, by omega, fun H8 s8 => ⟨Th.flat t, rfl, by omega, fun pp H9 pcs s9 hp9 htk9 => ?_⟩⟩
    obtain rfl : pcs = Rd.tk t := map_sg_inj (by rw [htk9]; exact flat_toks hwd)
    have s79 := s8.trans s9
    have e9 := s79 _ _ e7
    refine ⟨(by show 1 ≤ sizeLine; decide), fun c10 hc10 => ?_⟩
    have s10 := same_new hc10 (.lst [V.int 2])
    have e10 := s10 _ _ e9
    refine ⟨_, rfl, c10, p, _, _, rfl, rfl, upd_same, e10, le_size (by rw [List.length_map]; show 1 + ms.length ≤ _; omega), fun c11 hc11 => ?_⟩
    have s11 := same_new hc11 (.lst ([V.int 2] ++ ms.map V.int))
    have htl := tk_len hz
    refine ⟨pp, c11, Rd.tk t, 2 :: ms, rfl, SqL.of ((s10.trans s11) _ _ hp9), SqL.of upd_same, by simp, by omega, tk_tl hz, good_of hwd, fun r12 H12 rows12 s12 hr12 hl12 hx12 htk12 => ?_⟩
    have s712 := s79.trans (s10.trans (s11.trans s12))
    exact hq10 W W2 p rd rr r12 ms t v rows rows12 H12 (s712 _ _ e7) hml hwd hz (by omega) (s712 _ _ hd7) (s712 _ _ hr7) hr12 (any_toks hwd a7) htk12 (by omega) (by omega) (fun x hx => Nat.le_trans (row_bound a7 hz x hx) (by decide)) hx12
  obtain ⟨tr6, t6T, hq6⟩ := rest6
  have rest4 : ∃ tr, PSst 311 (cxOf CX0 P w K mg base ["_law_script", "_law_width", "_law_wider", "_law_thing", "_law_due", "_law_rows", "_law_strewn", "_law_handed", "_law_found", "_law_spoilt"] "law" (defScope s_law) f34 cdv A outer s H E).nox (List.drop 4 (defBody s_law)) tr ∧ ∀ (W : Int) (p : Addr) (ms : List Int) (H1 : Hp), H1 p = some (.lst (ms.map V.int)) → ms.length ≤ 63 →
      tr { nx := fun _ H' => Q .non H', rt := Q } [some (.ref p), some (.int W), none, none, none, none, none, none, none, none] H1 := by
    refine ⟨_, ((pss_consT (PS.tt (ps_setL (i := 2) sc.nd rfl rfl (pe_op op_mod (pe_call G__law_at hr rfl m__law_at k__law_at b__law_at .nil pass0 (pa_cons (pv 0) (pa_cons pe_int pa_nil))) pe_int)))
    (pss_consT (PS.tt (ps_if (pt_cmpR op_eq (pe_op op_mod (pe_op op_fdiv (pe_call G__law_at hr rfl m__law_at k__law_at b__law_at .nil pass0 (pa_cons (pv 0) (pa_cons pe_int pa_nil))) pe_int) pe_int) pe_int (nomark _))
      (pss_one (ps_setL (i := 2) sc.nd rfl rfl (pe_op op_add pe_int (pe_op op_mod (pe_op op_fdiv (pe_call G__law_at hr rfl m__law_at k__law_at b__law_at .nil pass0 (pa_cons (pv 0) (pa_cons pe_int pa_nil))) pe_int) pe_int))))
      pss_nil))
    t6T))), fun W p ms H1 e1 hml => ?_⟩
    refine ⟨_, rfl, p, ms, 1, rfl, SqL.of e1, _, _, rfl, rfl, (by show (0 : Int) < 45; decide), ?_⟩
    refine ⟨_, rfl, p, ms, 1, rfl, SqL.of e1, _, _, rfl, rfl, ⟨by decide, by decide⟩, _, _, rfl, rfl, (by show (0 : Int) < 7; decide), rfl, _, rfl, ?_⟩
    refine ite2 (fun _ => ?_) (fun _ => ?_)
    · refine ⟨_, rfl, p, ms, 1, rfl, SqL.of e1, _, _, rfl, rfl, ⟨by decide, by decide⟩, _, _, rfl, rfl, (by show (0 : Int) < 256; decide), _, _, rfl, rfl, ?_⟩
      exact hq6 W _ p ms H1 e1 hml
    · exact hq6 W _ p ms H1 e1 hml
  obtain ⟨tr4, t4T, hq4⟩ := rest4
  refine ⟨_, ((pss_consT (PS.tt (ps_setL (i := 0) sc.nd rfl rfl (pe_slice sl_list (pv 0) po_none (po_some pe_int))))
    (pss_consT (PS.tt (ps_setL (i := 0) sc.nd rfl rfl (pe_call G__law_mixed hr rfl m__law_mixed k__law_mixed b__law_mixed .nil pass0 (pa_cons (pv 0) pa_nil))))
    (pss_consT (PS.tt (ps_setL (i := 1) sc.nd rfl rfl (pe_op op_mod (pe_call G__law_at hr rfl m__law_at k__law_at b__law_at .nil pass0 (pa_cons (pv 0) (pa_cons pe_int pa_nil))) pe_int)))
    (pss_consT (PS.tt (ps_if (pt_cmpR op_eq (pe_op op_mod (pe_op op_fdiv (pe_call G__law_at hr rfl m__law_at k__law_at b__law_at .nil pass0 (pa_cons (pv 0) (pa_cons pe_int pa_nil))) pe_int) pe_int) pe_int (nomark _))
      (pss_one (ps_setL (i := 1) sc.nd rfl rfl (pe_op op_add pe_int (pe_op op_mod (pe_op op_fdiv (pe_call G__law_at hr rfl m__law_at k__law_at b__law_at .nil pass0 (pa_cons (pv 0) (pa_cons pe_int pa_nil))) pe_int) pe_int))))
      pss_nil))
    t4T))))), ?_⟩
  refine ⟨_, rfl, _, rfl, a, _, rfl, hS, fun p hp => ?_⟩
  have e1 : (upd H p (.lst (cutV (ns.map V.int) none (some 500)))) p = some (.lst (ns.map V.int)) := by rw [upd_same, cut_all (by rw [List.length_map]; omega)]
  generalize upd H p (.lst (cutV (ns.map V.int) none (some 500))) = H1 at e1
  refine ⟨_, rfl, p, ns, rfl, SqL.of e1, by omega, fun p2 H2 s2 e2 => ?_⟩
  have hml : (mixM ns).length ≤ 63 := by unfold mixM; rw [List.length_map, List.length_range]; exact h63
  generalize mixM ns = ms at e2 hml
  refine ⟨_, rfl, p2, ms, 0, rfl, SqL.of e2, _, _, rfl, rfl, (by show (0 : Int) < 45; decide), ?_⟩
  refine ⟨_, rfl, p2, ms, 0, rfl, SqL.of e2, _, _, rfl, rfl, ⟨by decide, by decide⟩, _, _, rfl, rfl, (by show (0 : Int) < 7; decide), rfl, _, rfl, ?_⟩
  refine ite2 (fun _ => ?_) (fun _ => ?_)
  · refine ⟨_, rfl, p2, ms, 0, rfl, SqL.of e2, _, _, rfl, rfl, ⟨by decide, by decide⟩, _, _, rfl, rfl, (by show (0 : Int) < 256; decide), _, _, rfl, rfl, ?_⟩
    exact hq4 _ p2 ms H2 e2 hml
  · exact hq4 _ p2 ms H2 e2 hml
end
section
variable {P : Program} {w : World} {K : PySem.W.Frag} {mg : Str → Option Value} {base : Heap}
theorem ok_read_all {f1 f2 f3 f4 f5 f6 f7 f8 f9 f10 f11 f12 f13 f14 f15 f16 f17 f18 f19 f20 f21 f22 f23 f24 f25 f26 f27 f28 f29 f30 f31 f32 f33 f34 : Addr} {d1 d2 d3 d4 d5 d6 d7 d8 d9 d10 d11 d12 d13 d14 d15 d16 d17 d18 d19 d20 d21 d22 d23 d24 d25 d26 d27 d28 d29 d30 d31 d32 d33 d34 : FuncData} (B : Bn mg) (m_all : mg "all" = none) (m_enumerate : mg "enumerate" = none) {tk_STEP : Tok} (g_STEP : mg "STEP" = some (.int 2 tk_STEP)) {tk_SIGNS_OF_WORDS : Tok} (g_SIGNS_OF_WORDS : mg "SIGNS_OF_WORDS" = some (.str "abcdefghijklmnopqrstuvwxyz0123456789" tk_SIGNS_OF_WORDS)) {tk_END : Tok} (g_END : mg "END" = some (.str "" tk_END)) {c_NoThing : Addr} (g_NoThing : mg "NoThing" = some (.ref c_NoThing)) (XF : ExKn K c_NoThing){c_Tokens : Addr} (g_Tokens : mg "Tokens" = some (.ref c_Tokens)) (TC : TkCls K c_Tokens) (MKT : Mk K c_Tokens f31) {pm : Addr} {om : Obj} {nz : Nat} {cs : List (Nat × Nat)} (MKS : Marks K mg 311 cs pm om nz)
    (T1 : At K mg "filled" s_filled ["words", "room"] f1 d1) (T2 : At K mg "flat" s_flat ["thing"] f2 d2) (T3 : At K mg "laid" s_laid ["thing", "width"] f3 d3) (T4 : At K mg "rows_of_thing" s_rows_of_thing ["thing", "width", "indent", "lead", "tail"] f4 d4) (T5 : At K mg "can_be_broken" s_can_be_broken ["thing"] f5 d5) (T6 : At K mg "rows_of_parts" s_rows_of_parts ["parts", "width", "indent"] f6 d6) (T7 : At K mg "rows_of_words" s_rows_of_words ["words", "width", "indent"] f7 d7) (T8 : At K mg "is_word" s_is_word ["text"] f8 d8) (T9 : At K mg "read" s_read ["rows"] f9 d9) (T10 : At K mg "laid_anew" s_laid_anew ["rows", "width"] f10 d10) (T11 : At K mg "tokens_of_rows" s_tokens_of_rows ["rows"] f11 d11) (T12 : At K mg "tokens_of_row" s_tokens_of_row ["row"] f12 d12) (T13 : At K mg "begin" s_begin ["tokens", "begun"] f13 d13) (T14 : At K mg "hand_over" s_hand_over ["thing", "tokens", "begun"] f14 d14) (T15 : At K mg "words_of_run" s_words_of_run ["tokens"] f15 d15) (T16 : At K mg "_law_at" s__law_at ["_law_script", "_law_k"] f16 d16) (T17 : At K mg "_law_texts" s__law_texts ["_law_found"] f17 d17) (T18 : At K mg "_law_word_by" s__law_word_by ["_law_salt"] f18 d18) (T19 : At K mg "_law_tags" s__law_tags ["_law_thing"] f19 d19) (T20 : At K mg "_law_step" s__law_step ["_law_frames", "_law_way", "_law_salt"] f20 d20) (T21 : At K mg "_law_grown" s__law_grown ["_law_cells"] f21 d21) (T22 : At K mg "_law_flat_line" s__law_flat_line ["_law_thing"] f22 d22) (T23 : At K mg "_law_pieces_of" s__law_pieces_of ["_law_line"] f23 d23) (T24 : At K mg "_law_wordy" s__law_wordy ["_law_piece"] f24 d24) (T25 : At K mg "_law_strewn_rows" s__law_strewn_rows ["_law_pieces", "_law_cells"] f25 d25) (T26 : At K mg "_law_refuses" s__law_refuses ["_law_rows", "_law_width"] f26 d26) (T27 : At K mg "_law_unbroken" s__law_unbroken ["_law_one", "_law_wide", "_law_width", "_law_cell"] f27 d27) (T28 : At K mg "_law_word_rows" s__law_word_rows ["_law_words", "_law_room", "_law_cell"] f28 d28) (T29 : At K mg "_law_other_rows" s__law_other_rows ["_law_thing", "_law_width", "_law_cells"] f29 d29) (T30 : At K mg "_law_mixed" s__law_mixed ["_law_script"] f30 d30) (T31 : AtM K c_Tokens "__init__" "Tokens.__init__" s_Tokens___init__ ["self", "tokens"] f31 d31) (T32 : AtM K c_Tokens "takes" "Tokens.takes" s_Tokens_takes ["self", "token"] f32 d32) (T33 : AtM K c_Tokens "take_word" "Tokens.take_word" s_Tokens_take_word ["self"] f33 d33) (T34 : At K mg "law" s_law ["_law_script"] f34 d34) (xf : ExFacts K c_NoThing) : FnOkT 311 P w K mg base (CXN P w (.ref c_NoThing)) 194 f9 d9 ["rows"] (spRead K cs) := by
  have GI : FnOk P w K mg base CX0 190 f8 d8 ["text"] spIsWord := ok_is_word T8 B m_all g_SIGNS_OF_WORDS
  have GT : FnOk P w K mg base CX0 191 f32 d32 _ (spTakes c_Tokens) := ok_takes TC T32
  have GW : FnOk P w K mg base (CXN P w (.ref c_NoThing)) 191 f33 d33 _ (spTakeWord c_Tokens) := ok_take_word TC T33 T8 GI g_NoThing xf
  have GU : FnOk P w K mg base (CXN P w (.ref c_NoThing)) 192 f15 d15 _ (spRunW c_Tokens) := ok_runw TC T15 T32 T33 GT GW
  have GB : FnOk P w K mg base (CXN P w (.ref c_NoThing)) 193 f13 d13 _ (spBegin c_Tokens) := ok_begin TC T13 T15 T32 T33 (GT.mono (by decide)) (GW.mono (by decide)) GU
  have GH : FnOk P w K mg base (CXN P w (.ref c_NoThing)) 193 f14 d14 _ (spHand c_Tokens) := (ok_hand TC T14 T32 GT g_NoThing xf).mono (by decide)
  have G0 : FnOk P w K mg base CX0 192 f31 d31 _ (spInit c_Tokens) := ok_init TC T31.F g_END
  have GO : FnOkT 311 P w K mg base CX0 193 f11 d11 _ (spTokRows K cs) := ok_tokrows MKS T11 T12
  exact ok_read MKS TC MKT g_Tokens T9 T11 T13 T14 T32 T31.b g_END g_NoThing xf G0 GO (GT.mono (by decide)) GB GH
end
section
variable {P : Program} {w : World} {K : PySem.W.Frag} {mg : Str → Option Value} {base : Heap}
theorem law_all {f1 f2 f3 f4 f5 f6 f7 f8 f9 f10 f11 f12 f13 f14 f15 f16 f17 f18 f19 f20 f21 f22 f23 f24 f25 f26 f27 f28 f29 f30 f31 f32 f33 f34 : Addr} {d1 d2 d3 d4 d5 d6 d7 d8 d9 d10 d11 d12 d13 d14 d15 d16 d17 d18 d19 d20 d21 d22 d23 d24 d25 d26 d27 d28 d29 d30 d31 d32 d33 d34 : FuncData} (B : Bn mg) (m_all : mg "all" = none) (m_enumerate : mg "enumerate" = none) {tk_STEP : Tok} (g_STEP : mg "STEP" = some (.int 2 tk_STEP)) {tk_SIGNS_OF_WORDS : Tok} (g_SIGNS_OF_WORDS : mg "SIGNS_OF_WORDS" = some (.str "abcdefghijklmnopqrstuvwxyz0123456789" tk_SIGNS_OF_WORDS)) {tk_END : Tok} (g_END : mg "END" = some (.str "" tk_END)) {c_NoThing : Addr} (g_NoThing : mg "NoThing" = some (.ref c_NoThing)) (XF : ExKn K c_NoThing){c_Tokens : Addr} (g_Tokens : mg "Tokens" = some (.ref c_Tokens)) (TC : TkCls K c_Tokens) (MKT : Mk K c_Tokens f31) {pm : Addr} {om : Obj} {nz : Nat} {cs : List (Nat × Nat)} (MKS : Marks K mg 311 cs pm om nz)
    (T1 : At K mg "filled" s_filled ["words", "room"] f1 d1) (T2 : At K mg "flat" s_flat ["thing"] f2 d2) (T3 : At K mg "laid" s_laid ["thing", "width"] f3 d3) (T4 : At K mg "rows_of_thing" s_rows_of_thing ["thing", "width", "indent", "lead", "tail"] f4 d4) (T5 : At K mg "can_be_broken" s_can_be_broken ["thing"] f5 d5) (T6 : At K mg "rows_of_parts" s_rows_of_parts ["parts", "width", "indent"] f6 d6) (T7 : At K mg "rows_of_words" s_rows_of_words ["words", "width", "indent"] f7 d7) (T8 : At K mg "is_word" s_is_word ["text"] f8 d8) (T9 : At K mg "read" s_read ["rows"] f9 d9) (T10 : At K mg "laid_anew" s_laid_anew ["rows", "width"] f10 d10) (T11 : At K mg "tokens_of_rows" s_tokens_of_rows ["rows"] f11 d11) (T12 : At K mg "tokens_of_row" s_tokens_of_row ["row"] f12 d12) (T13 : At K mg "begin" s_begin ["tokens", "begun"] f13 d13) (T14 : At K mg "hand_over" s_hand_over ["thing", "tokens", "begun"] f14 d14) (T15 : At K mg "words_of_run" s_words_of_run ["tokens"] f15 d15) (T16 : At K mg "_law_at" s__law_at ["_law_script", "_law_k"] f16 d16) (T17 : At K mg "_law_texts" s__law_texts ["_law_found"] f17 d17) (T18 : At K mg "_law_word_by" s__law_word_by ["_law_salt"] f18 d18) (T19 : At K mg "_law_tags" s__law_tags ["_law_thing"] f19 d19) (T20 : At K mg "_law_step" s__law_step ["_law_frames", "_law_way", "_law_salt"] f20 d20) (T21 : At K mg "_law_grown" s__law_grown ["_law_cells"] f21 d21) (T22 : At K mg "_law_flat_line" s__law_flat_line ["_law_thing"] f22 d22) (T23 : At K mg "_law_pieces_of" s__law_pieces_of ["_law_line"] f23 d23) (T24 : At K mg "_law_wordy" s__law_wordy ["_law_piece"] f24 d24) (T25 : At K mg "_law_strewn_rows" s__law_strewn_rows ["_law_pieces", "_law_cells"] f25 d25) (T26 : At K mg "_law_refuses" s__law_refuses ["_law_rows", "_law_width"] f26 d26) (T27 : At K mg "_law_unbroken" s__law_unbroken ["_law_one", "_law_wide", "_law_width", "_law_cell"] f27 d27) (T28 : At K mg "_law_word_rows" s__law_word_rows ["_law_words", "_law_room", "_law_cell"] f28 d28) (T29 : At K mg "_law_other_rows" s__law_other_rows ["_law_thing", "_law_width", "_law_cells"] f29 d29) (T30 : At K mg "_law_mixed" s__law_mixed ["_law_script"] f30 d30) (T31 : AtM K c_Tokens "__init__" "Tokens.__init__" s_Tokens___init__ ["self", "tokens"] f31 d31) (T32 : AtM K c_Tokens "takes" "Tokens.takes" s_Tokens_takes ["self", "token"] f32 d32) (T33 : AtM K c_Tokens "take_word" "Tokens.take_word" s_Tokens_take_word ["self"] f33 d33) (T34 : At K mg "law" s_law ["_law_script"] f34 d34) : FnOkT 311 P w K mg base CX0 201 f34 d34 ["_law_script"] (spLaw K) := by
  have GL := (ok_laid (P := P) (w := w) (base := base) T3 T4 T2 T5 T6 T7 T1 B m_enumerate g_STEP 80).mono (show _ ≤ 198 by decide)
  exact law_core B m_all m_enumerate g_STEP g_SIGNS_OF_WORDS g_END g_NoThing XF g_Tokens TC MKT MKS T1 T2 T3 T4 T5 T6 T7 T8 T9 T10 T11 T12 T13 T14 T15 T16 T17 T18 T19 T20 T21 T22 T23 T24 T25 T26 T27 T28 T29 T30 T31 T32 T33 T34 (ok_laid_anew T10 T9 T3 ((ok_read_all B m_all m_enumerate g_STEP g_SIGNS_OF_WORDS g_END g_NoThing XF g_Tokens TC MKT MKS T1 T2 T3 T4 T5 T6 T7 T8 T9 T10 T11 T12 T13 T14 T15 T16 T17 T18 T19 T20 T21 T22 T23 T24 T25 T26 T27 T28 T29 T30 T31 T32 T33 T34 XF.x).mono (by decide)) GL)
end
theorem all_mk {l : PySem.W.OpenLaw} {w : World} {K : PySem.W.Frag} {h : Heap} {mg : Str → Option Value} {fa : Addr} (X : K.In h) (G : h.Ns mainGlobals mg) (hfa : mg "law" = some (.ref fa))
    {c_Tokens pm : Addr} {odm : Option Addr} {nzm : Nat} {slm : Array (Option Value)} {od1 an1 : Option Addr} {sl1 : Array (Option Value)} {oc1 kV1 dc1 pm1 cd1 ct1 : Value} {f1 : Addr} {od2 an2 : Option Addr} {sl2 : Array (Option Value)} {oc2 kV2 dc2 pm2 cd2 ct2 : Value} {f2 : Addr} {od3 an3 : Option Addr} {sl3 : Array (Option Value)} {oc3 kV3 dc3 pm3 cd3 ct3 : Value} {f3 : Addr} {od4 an4 : Option Addr} {sl4 : Array (Option Value)} {oc4 kV4 dc4 pm4 cd4 ct4 : Value} {f4 : Addr} {od5 an5 : Option Addr} {sl5 : Array (Option Value)} {oc5 kV5 dc5 pm5 cd5 ct5 : Value} {f5 : Addr} {od6 an6 : Option Addr} {sl6 : Array (Option Value)} {oc6 kV6 dc6 pm6 cd6 ct6 : Value} {f6 : Addr} {od7 an7 : Option Addr} {sl7 : Array (Option Value)} {oc7 kV7 dc7 pm7 cd7 ct7 : Value} {f7 : Addr} {od8 an8 : Option Addr} {sl8 : Array (Option Value)} {oc8 kV8 dc8 pm8 cd8 ct8 : Value} {f8 : Addr} {od9 an9 : Option Addr} {sl9 : Array (Option Value)} {oc9 kV9 dc9 pm9 cd9 ct9 : Value} {f9 : Addr} {od10 an10 : Option Addr} {sl10 : Array (Option Value)} {oc10 kV10 dc10 pm10 cd10 ct10 : Value} {f10 : Addr} {od11 an11 : Option Addr} {sl11 : Array (Option Value)} {oc11 kV11 dc11 pm11 cd11 ct11 : Value} {f11 : Addr} {od12 an12 : Option Addr} {sl12 : Array (Option Value)} {oc12 kV12 dc12 pm12 cd12 ct12 : Value} {f12 : Addr} {od13 an13 : Option Addr} {sl13 : Array (Option Value)} {oc13 kV13 dc13 pm13 cd13 ct13 : Value} {f13 : Addr} {od14 an14 : Option Addr} {sl14 : Array (Option Value)} {oc14 kV14 dc14 pm14 cd14 ct14 : Value} {f14 : Addr} {od15 an15 : Option Addr} {sl15 : Array (Option Value)} {oc15 kV15 dc15 pm15 cd15 ct15 : Value} {f15 : Addr} {od16 an16 : Option Addr} {sl16 : Array (Option Value)} {oc16 kV16 dc16 pm16 cd16 ct16 : Value} {f16 : Addr} {od17 an17 : Option Addr} {sl17 : Array (Option Value)} {oc17 kV17 dc17 pm17 cd17 ct17 : Value} {f17 : Addr} {od18 an18 : Option Addr} {sl18 : Array (Option Value)} {oc18 kV18 dc18 pm18 cd18 ct18 : Value} {f18 : Addr} {od19 an19 : Option Addr} {sl19 : Array (Option Value)} {oc19 kV19 dc19 pm19 cd19 ct19 : Value} {f19 : Addr} {od20 an20 : Option Addr} {sl20 : Array (Option Value)} {oc20 kV20 dc20 pm20 cd20 ct20 : Value} {f20 : Addr} {od21 an21 : Option Addr} {sl21 : Array (Option Value)} {oc21 kV21 dc21 pm21 cd21 ct21 : Value} {f21 : Addr} {od22 an22 : Option Addr} {sl22 : Array (Option Value)} {oc22 kV22 dc22 pm22 cd22 ct22 : Value} {f22 : Addr} {od23 an23 : Option Addr} {sl23 : Array (Option Value)} {oc23 kV23 dc23 pm23 cd23 ct23 : Value} {f23 : Addr} {od24 an24 : Option Addr} {sl24 : Array (Option Value)} {oc24 kV24 dc24 pm24 cd24 ct24 : Value} {f24 : Addr} {od25 an25 : Option Addr} {sl25 : Array (Option Value)} {oc25 kV25 dc25 pm25 cd25 ct25 : Value} {f25 : Addr} {od26 an26 : Option Addr} {sl26 : Array (Option Value)} {oc26 kV26 dc26 pm26 cd26 ct26 : Value} {f26 : Addr} {od27 an27 : Option Addr} {sl27 : Array (Option Value)} {oc27 kV27 dc27 pm27 cd27 ct27 : Value} {f27 : Addr} {od28 an28 : Option Addr} {sl28 : Array (Option Value)} {oc28 kV28 dc28 pm28 cd28 ct28 : Value} {f28 : Addr} {od29 an29 : Option Addr} {sl29 : Array (Option Value)} {oc29 kV29 dc29 pm29 cd29 ct29 : Value} {f29 : Addr} {od30 an30 : Option Addr} {sl30 : Array (Option Value)} {oc30 kV30 dc30 pm30 cd30 ct30 : Value} {f30 : Addr} {od31 an31 : Option Addr} {sl31 : Array (Option Value)} {oc31 kV31 dc31 pm31 cd31 ct31 : Value} {f31 : Addr} {od32 an32 : Option Addr} {sl32 : Array (Option Value)} {oc32 kV32 dc32 pm32 cd32 ct32 : Value} {f32 : Addr} {od33 an33 : Option Addr} {sl33 : Array (Option Value)} {oc33 kV33 dc33 pm33 cd33 ct33 : Value} {f33 : Addr} {od34 an34 : Option Addr} {sl34 : Array (Option Value)} {oc34 kV34 dc34 pm34 cd34 ct34 : Value} {f34 : Addr}
    (zk_Tokens : PySem.W.nsIn K mainGlobals "Tokens" = some (some (.ref c_Tokens))) (zm : PySem.W.nsIn K mainGlobals "MARKS" = some (some (.ref pm)))
    (lm : K.lookup pm = some ⟨.type "tuple", odm, .seq #[.str "(" 301, .str ")" 302, .str "[" 303, .str "]" 304, .str "," 305, .str ":" 306] nzm, slm⟩)
    (t1 : PySem.W.plainGet K c_Tokens Str.empty = true)
    (t2 : PySem.W.hasDictIn K c_Tokens = true)
    (t3 : PySem.W.plainOver K c_Tokens = true)
    (t4 : PySem.W.findIn K (.ref c_Tokens) "__setattr__" = some (some (.builtin "object.__setattr__")))
    (t5 : PySem.W.findIn K (.ref c_Tokens) "tokens" = some none)
    (t6 : PySem.W.findIn K (.ref c_Tokens) "place" = some none)
    (t7 : PySem.W.makesIn K c_Tokens = true)
    (t8 : PySem.W.keepIn K (.ref c_Tokens) = true)
    (a1 : PySem.W.nsIn K mainGlobals "filled" = some (some (.ref f1))) (l1 : K.lookup f1 = some ⟨oc1, od1, .func (PySem.W.fnOf "filled" "filled" (defArgs s_filled) (defBody s_filled) (defScope s_filled) .none kV1 dc1 pm1 an1 cd1 ct1), sl1⟩) (c1 : PySem.W.codeIn K cd1 "filled" = true) (k1 : PySem.W.keepIn K (.ref f1) = true)
    (a2 : PySem.W.nsIn K mainGlobals "flat" = some (some (.ref f2))) (l2 : K.lookup f2 = some ⟨oc2, od2, .func (PySem.W.fnOf "flat" "flat" (defArgs s_flat) (defBody s_flat) (defScope s_flat) .none kV2 dc2 pm2 an2 cd2 ct2), sl2⟩) (c2 : PySem.W.codeIn K cd2 "flat" = true) (k2 : PySem.W.keepIn K (.ref f2) = true)
    (a3 : PySem.W.nsIn K mainGlobals "laid" = some (some (.ref f3))) (l3 : K.lookup f3 = some ⟨oc3, od3, .func (PySem.W.fnOf "laid" "laid" (defArgs s_laid) (defBody s_laid) (defScope s_laid) .none kV3 dc3 pm3 an3 cd3 ct3), sl3⟩) (c3 : PySem.W.codeIn K cd3 "laid" = true) (k3 : PySem.W.keepIn K (.ref f3) = true)
    (a4 : PySem.W.nsIn K mainGlobals "rows_of_thing" = some (some (.ref f4))) (l4 : K.lookup f4 = some ⟨oc4, od4, .func (PySem.W.fnOf "rows_of_thing" "rows_of_thing" (defArgs s_rows_of_thing) (defBody s_rows_of_thing) (defScope s_rows_of_thing) .none kV4 dc4 pm4 an4 cd4 ct4), sl4⟩) (c4 : PySem.W.codeIn K cd4 "rows_of_thing" = true) (k4 : PySem.W.keepIn K (.ref f4) = true)
    (a5 : PySem.W.nsIn K mainGlobals "can_be_broken" = some (some (.ref f5))) (l5 : K.lookup f5 = some ⟨oc5, od5, .func (PySem.W.fnOf "can_be_broken" "can_be_broken" (defArgs s_can_be_broken) (defBody s_can_be_broken) (defScope s_can_be_broken) .none kV5 dc5 pm5 an5 cd5 ct5), sl5⟩) (c5 : PySem.W.codeIn K cd5 "can_be_broken" = true) (k5 : PySem.W.keepIn K (.ref f5) = true)
    (a6 : PySem.W.nsIn K mainGlobals "rows_of_parts" = some (some (.ref f6))) (l6 : K.lookup f6 = some ⟨oc6, od6, .func (PySem.W.fnOf "rows_of_parts" "rows_of_parts" (defArgs s_rows_of_parts) (defBody s_rows_of_parts) (defScope s_rows_of_parts) .none kV6 dc6 pm6 an6 cd6 ct6), sl6⟩) (c6 : PySem.W.codeIn K cd6 "rows_of_parts" = true) (k6 : PySem.W.keepIn K (.ref f6) = true)
    (a7 : PySem.W.nsIn K mainGlobals "rows_of_words" = some (some (.ref f7))) (l7 : K.lookup f7 = some ⟨oc7, od7, .func (PySem.W.fnOf "rows_of_words" "rows_of_words" (defArgs s_rows_of_words) (defBody s_rows_of_words) (defScope s_rows_of_words) .none kV7 dc7 pm7 an7 cd7 ct7), sl7⟩) (c7 : PySem.W.codeIn K cd7 "rows_of_words" = true) (k7 : PySem.W.keepIn K (.ref f7) = true)
    (a8 : PySem.W.nsIn K mainGlobals "is_word" = some (some (.ref f8))) (l8 : K.lookup f8 = some ⟨oc8, od8, .func (PySem.W.fnOf "is_word" "is_word" (defArgs s_is_word) (defBody s_is_word) (defScope s_is_word) .none kV8 dc8 pm8 an8 cd8 ct8), sl8⟩) (c8 : PySem.W.codeIn K cd8 "is_word" = true) (k8 : PySem.W.keepIn K (.ref f8) = true)
    (a9 : PySem.W.nsIn K mainGlobals "read" = some (some (.ref f9))) (l9 : K.lookup f9 = some ⟨oc9, od9, .func (PySem.W.fnOf "read" "read" (defArgs s_read) (defBody s_read) (defScope s_read) .none kV9 dc9 pm9 an9 cd9 ct9), sl9⟩) (c9 : PySem.W.codeIn K cd9 "read" = true) (k9 : PySem.W.keepIn K (.ref f9) = true)
    (a10 : PySem.W.nsIn K mainGlobals "laid_anew" = some (some (.ref f10))) (l10 : K.lookup f10 = some ⟨oc10, od10, .func (PySem.W.fnOf "laid_anew" "laid_anew" (defArgs s_laid_anew) (defBody s_laid_anew) (defScope s_laid_anew) .none kV10 dc10 pm10 an10 cd10 ct10), sl10⟩) (c10 : PySem.W.codeIn K cd10 "laid_anew" = true) (k10 : PySem.W.keepIn K (.ref f10) = true)
    (a11 : PySem.W.nsIn K mainGlobals "tokens_of_rows" = some (some (.ref f11))) (l11 : K.lookup f11 = some ⟨oc11, od11, .func (PySem.W.fnOf "tokens_of_rows" "tokens_of_rows" (defArgs s_tokens_of_rows) (defBody s_tokens_of_rows) (defScope s_tokens_of_rows) .none kV11 dc11 pm11 an11 cd11 ct11), sl11⟩) (c11 : PySem.W.codeIn K cd11 "tokens_of_rows" = true) (k11 : PySem.W.keepIn K (.ref f11) = true)
    (a12 : PySem.W.nsIn K mainGlobals "tokens_of_row" = some (some (.ref f12))) (l12 : K.lookup f12 = some ⟨oc12, od12, .func (PySem.W.fnOf "tokens_of_row" "tokens_of_row" (defArgs s_tokens_of_row) (defBody s_tokens_of_row) (defScope s_tokens_of_row) .none kV12 dc12 pm12 an12 cd12 ct12), sl12⟩) (c12 : PySem.W.codeIn K cd12 "tokens_of_row" = true) (k12 : PySem.W.keepIn K (.ref f12) = true)
    (a13 : PySem.W.nsIn K mainGlobals "begin" = some (some (.ref f13))) (l13 : K.lookup f13 = some ⟨oc13, od13, .func (PySem.W.fnOf "begin" "begin" (defArgs s_begin) (defBody s_begin) (defScope s_begin) .none kV13 dc13 pm13 an13 cd13 ct13), sl13⟩) (c13 : PySem.W.codeIn K cd13 "begin" = true) (k13 : PySem.W.keepIn K (.ref f13) = true)
    (a14 : PySem.W.nsIn K mainGlobals "hand_over" = some (some (.ref f14))) (l14 : K.lookup f14 = some ⟨oc14, od14, .func (PySem.W.fnOf "hand_over" "hand_over" (defArgs s_hand_over) (defBody s_hand_over) (defScope s_hand_over) .none kV14 dc14 pm14 an14 cd14 ct14), sl14⟩) (c14 : PySem.W.codeIn K cd14 "hand_over" = true) (k14 : PySem.W.keepIn K (.ref f14) = true)
    (a15 : PySem.W.nsIn K mainGlobals "words_of_run" = some (some (.ref f15))) (l15 : K.lookup f15 = some ⟨oc15, od15, .func (PySem.W.fnOf "words_of_run" "words_of_run" (defArgs s_words_of_run) (defBody s_words_of_run) (defScope s_words_of_run) .none kV15 dc15 pm15 an15 cd15 ct15), sl15⟩) (c15 : PySem.W.codeIn K cd15 "words_of_run" = true) (k15 : PySem.W.keepIn K (.ref f15) = true)
    (a16 : PySem.W.nsIn K mainGlobals "_law_at" = some (some (.ref f16))) (l16 : K.lookup f16 = some ⟨oc16, od16, .func (PySem.W.fnOf "_law_at" "_law_at" (defArgs s__law_at) (defBody s__law_at) (defScope s__law_at) .none kV16 dc16 pm16 an16 cd16 ct16), sl16⟩) (c16 : PySem.W.codeIn K cd16 "_law_at" = true) (k16 : PySem.W.keepIn K (.ref f16) = true)
    (a17 : PySem.W.nsIn K mainGlobals "_law_texts" = some (some (.ref f17))) (l17 : K.lookup f17 = some ⟨oc17, od17, .func (PySem.W.fnOf "_law_texts" "_law_texts" (defArgs s__law_texts) (defBody s__law_texts) (defScope s__law_texts) .none kV17 dc17 pm17 an17 cd17 ct17), sl17⟩) (c17 : PySem.W.codeIn K cd17 "_law_texts" = true) (k17 : PySem.W.keepIn K (.ref f17) = true)
    (a18 : PySem.W.nsIn K mainGlobals "_law_word_by" = some (some (.ref f18))) (l18 : K.lookup f18 = some ⟨oc18, od18, .func (PySem.W.fnOf "_law_word_by" "_law_word_by" (defArgs s__law_word_by) (defBody s__law_word_by) (defScope s__law_word_by) .none kV18 dc18 pm18 an18 cd18 ct18), sl18⟩) (c18 : PySem.W.codeIn K cd18 "_law_word_by" = true) (k18 : PySem.W.keepIn K (.ref f18) = true)
    (a19 : PySem.W.nsIn K mainGlobals "_law_tags" = some (some (.ref f19))) (l19 : K.lookup f19 = some ⟨oc19, od19, .func (PySem.W.fnOf "_law_tags" "_law_tags" (defArgs s__law_tags) (defBody s__law_tags) (defScope s__law_tags) .none kV19 dc19 pm19 an19 cd19 ct19), sl19⟩) (c19 : PySem.W.codeIn K cd19 "_law_tags" = true) (k19 : PySem.W.keepIn K (.ref f19) = true)
    (a20 : PySem.W.nsIn K mainGlobals "_law_step" = some (some (.ref f20))) (l20 : K.lookup f20 = some ⟨oc20, od20, .func (PySem.W.fnOf "_law_step" "_law_step" (defArgs s__law_step) (defBody s__law_step) (defScope s__law_step) .none kV20 dc20 pm20 an20 cd20 ct20), sl20⟩) (c20 : PySem.W.codeIn K cd20 "_law_step" = true) (k20 : PySem.W.keepIn K (.ref f20) = true)
    (a21 : PySem.W.nsIn K mainGlobals "_law_grown" = some (some (.ref f21))) (l21 : K.lookup f21 = some ⟨oc21, od21, .func (PySem.W.fnOf "_law_grown" "_law_grown" (defArgs s__law_grown) (defBody s__law_grown) (defScope s__law_grown) .none kV21 dc21 pm21 an21 cd21 ct21), sl21⟩) (c21 : PySem.W.codeIn K cd21 "_law_grown" = true) (k21 : PySem.W.keepIn K (.ref f21) = true)
    (a22 : PySem.W.nsIn K mainGlobals "_law_flat_line" = some (some (.ref f22))) (l22 : K.lookup f22 = some ⟨oc22, od22, .func (PySem.W.fnOf "_law_flat_line" "_law_flat_line" (defArgs s__law_flat_line) (defBody s__law_flat_line) (defScope s__law_flat_line) .none kV22 dc22 pm22 an22 cd22 ct22), sl22⟩) (c22 : PySem.W.codeIn K cd22 "_law_flat_line" = true) (k22 : PySem.W.keepIn K (.ref f22) = true)
    (a23 : PySem.W.nsIn K mainGlobals "_law_pieces_of" = some (some (.ref f23))) (l23 : K.lookup f23 = some ⟨oc23, od23, .func (PySem.W.fnOf "_law_pieces_of" "_law_pieces_of" (defArgs s__law_pieces_of) (defBody s__law_pieces_of) (defScope s__law_pieces_of) .none kV23 dc23 pm23 an23 cd23 ct23), sl23⟩) (c23 : PySem.W.codeIn K cd23 "_law_pieces_of" = true) (k23 : PySem.W.keepIn K (.ref f23) = true)
    (a24 : PySem.W.nsIn K mainGlobals "_law_wordy" = some (some (.ref f24))) (l24 : K.lookup f24 = some ⟨oc24, od24, .func (PySem.W.fnOf "_law_wordy" "_law_wordy" (defArgs s__law_wordy) (defBody s__law_wordy) (defScope s__law_wordy) .none kV24 dc24 pm24 an24 cd24 ct24), sl24⟩) (c24 : PySem.W.codeIn K cd24 "_law_wordy" = true) (k24 : PySem.W.keepIn K (.ref f24) = true)
    (a25 : PySem.W.nsIn K mainGlobals "_law_strewn_rows" = some (some (.ref f25))) (l25 : K.lookup f25 = some ⟨oc25, od25, .func (PySem.W.fnOf "_law_strewn_rows" "_law_strewn_rows" (defArgs s__law_strewn_rows) (defBody s__law_strewn_rows) (defScope s__law_strewn_rows) .none kV25 dc25 pm25 an25 cd25 ct25), sl25⟩) (c25 : PySem.W.codeIn K cd25 "_law_strewn_rows" = true) (k25 : PySem.W.keepIn K (.ref f25) = true)
    (a26 : PySem.W.nsIn K mainGlobals "_law_refuses" = some (some (.ref f26))) (l26 : K.lookup f26 = some ⟨oc26, od26, .func (PySem.W.fnOf "_law_refuses" "_law_refuses" (defArgs s__law_refuses) (defBody s__law_refuses) (defScope s__law_refuses) .none kV26 dc26 pm26 an26 cd26 ct26), sl26⟩) (c26 : PySem.W.codeIn K cd26 "_law_refuses" = true) (k26 : PySem.W.keepIn K (.ref f26) = true)
    (a27 : PySem.W.nsIn K mainGlobals "_law_unbroken" = some (some (.ref f27))) (l27 : K.lookup f27 = some ⟨oc27, od27, .func (PySem.W.fnOf "_law_unbroken" "_law_unbroken" (defArgs s__law_unbroken) (defBody s__law_unbroken) (defScope s__law_unbroken) .none kV27 dc27 pm27 an27 cd27 ct27), sl27⟩) (c27 : PySem.W.codeIn K cd27 "_law_unbroken" = true) (k27 : PySem.W.keepIn K (.ref f27) = true)
    (a28 : PySem.W.nsIn K mainGlobals "_law_word_rows" = some (some (.ref f28))) (l28 : K.lookup f28 = some ⟨oc28, od28, .func (PySem.W.fnOf "_law_word_rows" "_law_word_rows" (defArgs s__law_word_rows) (defBody s__law_word_rows) (defScope s__law_word_rows) .none kV28 dc28 pm28 an28 cd28 ct28), sl28⟩) (c28 : PySem.W.codeIn K cd28 "_law_word_rows" = true) (k28 : PySem.W.keepIn K (.ref f28) = true)
    (a29 : PySem.W.nsIn K mainGlobals "_law_other_rows" = some (some (.ref f29))) (l29 : K.lookup f29 = some ⟨oc29, od29, .func (PySem.W.fnOf "_law_other_rows" "_law_other_rows" (defArgs s__law_other_rows) (defBody s__law_other_rows) (defScope s__law_other_rows) .none kV29 dc29 pm29 an29 cd29 ct29), sl29⟩) (c29 : PySem.W.codeIn K cd29 "_law_other_rows" = true) (k29 : PySem.W.keepIn K (.ref f29) = true)
    (a30 : PySem.W.nsIn K mainGlobals "_law_mixed" = some (some (.ref f30))) (l30 : K.lookup f30 = some ⟨oc30, od30, .func (PySem.W.fnOf "_law_mixed" "_law_mixed" (defArgs s__law_mixed) (defBody s__law_mixed) (defScope s__law_mixed) .none kV30 dc30 pm30 an30 cd30 ct30), sl30⟩) (c30 : PySem.W.codeIn K cd30 "_law_mixed" = true) (k30 : PySem.W.keepIn K (.ref f30) = true)
    (a31 : PySem.W.findIn K (.ref c_Tokens) "__init__" = some (some (.ref f31))) (i31 : PySem.W.isFn K (.ref f31) = true) (l31 : K.lookup f31 = some ⟨oc31, od31, .func (PySem.W.fnOf "__init__" "Tokens.__init__" (defArgs s_Tokens___init__) (defBody s_Tokens___init__) (defScope s_Tokens___init__) .none kV31 dc31 pm31 an31 cd31 ct31), sl31⟩) (c31 : PySem.W.codeIn K cd31 "Tokens.__init__" = true) (k31 : PySem.W.keepIn K (.ref f31) = true)
    (a32 : PySem.W.findIn K (.ref c_Tokens) "takes" = some (some (.ref f32))) (i32 : PySem.W.isFn K (.ref f32) = true) (l32 : K.lookup f32 = some ⟨oc32, od32, .func (PySem.W.fnOf "takes" "Tokens.takes" (defArgs s_Tokens_takes) (defBody s_Tokens_takes) (defScope s_Tokens_takes) .none kV32 dc32 pm32 an32 cd32 ct32), sl32⟩) (c32 : PySem.W.codeIn K cd32 "Tokens.takes" = true) (k32 : PySem.W.keepIn K (.ref f32) = true)
    (a33 : PySem.W.findIn K (.ref c_Tokens) "take_word" = some (some (.ref f33))) (i33 : PySem.W.isFn K (.ref f33) = true) (l33 : K.lookup f33 = some ⟨oc33, od33, .func (PySem.W.fnOf "take_word" "Tokens.take_word" (defArgs s_Tokens_take_word) (defBody s_Tokens_take_word) (defScope s_Tokens_take_word) .none kV33 dc33 pm33 an33 cd33 ct33), sl33⟩) (c33 : PySem.W.codeIn K cd33 "Tokens.take_word" = true) (k33 : PySem.W.keepIn K (.ref f33) = true)
    (a34 : PySem.W.nsIn K mainGlobals "law" = some (some (.ref f34))) (l34 : K.lookup f34 = some ⟨oc34, od34, .func (PySem.W.fnOf "law" "law" (defArgs s_law) (defBody s_law) (defScope s_law) .none kV34 dc34 pm34 an34 cd34 ct34), sl34⟩) (c34 : PySem.W.codeIn K cd34 "law" = true) (k34 : PySem.W.keepIn K (.ref f34) = true)
    (z1 : PySem.W.nsIn K mainGlobals "len" = some none)
    (z2 : PySem.W.nsIn K mainGlobals "isinstance" = some none)
    (z3 : PySem.W.nsIn K mainGlobals "list" = some none)
    (z4 : PySem.W.nsIn K mainGlobals "str" = some none)
    (z5 : PySem.W.nsIn K mainGlobals "int" = some none)
    (z6 : PySem.W.nsIn K mainGlobals "range" = some none)
    (z7 : PySem.W.nsIn K mainGlobals "tuple" = some none)
    (z8 : PySem.W.nsIn K mainGlobals "bool" = some none)
    (z9 : PySem.W.nsIn K mainGlobals "max" = some none)
    (zx_all : PySem.W.nsIn K mainGlobals "all" = some none)
    (zx_enumerate : PySem.W.nsIn K mainGlobals "enumerate" = some none)
    {tk_STEP : Tok} (zc_STEP : PySem.W.nsIn K mainGlobals "STEP" = some (some (.int 2 tk_STEP)))
    {tk_SIGNS_OF_WORDS : Tok} (zc_SIGNS_OF_WORDS : PySem.W.nsIn K mainGlobals "SIGNS_OF_WORDS" = some (some (.str "abcdefghijklmnopqrstuvwxyz0123456789" tk_SIGNS_OF_WORDS)))
    {tk_END : Tok} (zc_END : PySem.W.nsIn K mainGlobals "END" = some (some (.str "" tk_END)))
    {c_NoThing : Addr} (zk_NoThing : PySem.W.nsIn K mainGlobals "NoThing" = some (some (.ref c_NoThing)))
    (y1 : PySem.W.excIn K c_NoThing bmV "ValueError.__new__" = true)
    (y2 : PySem.W.findIn K (.ref c_NoThing) "__getattribute__" = some (some (.builtin "BaseException.__getattribute__")))
    (y3 : PySem.W.findIn K (.ref c_NoThing) "__getattr__" = some none)
    (y4 : PySem.W.findIn K (.ref c_NoThing) "__class__" = some (some (.builtin "object.__class__")))
    (y5 : PySem.W.subIn K (.ref c_NoThing) (.type "BaseException") = some true)
    (y6 : PySem.W.subIn K (.ref c_NoThing) (.type "object") = some true)
    (y7 : PySem.W.kitCls K (.ref c_NoThing) (.ref c_NoThing) = some true) :
    ∃ fd : FuncData, (∀ (s : Shared) (v : Value), BindsTo s fd ⟨[v], []⟩ [("_law_script", v)]) ∧ ∀ base : Heap, K.In base → base.Ns mainGlobals mg → FnOkT 311 l.prog w K mg base CX0 201 fa fd ["_law_script"] (spLaw K) := by
  have e := hfa.symm.trans (PySem.W.mg_of X G a34)
  cases e
  have F1 := fun_mk (st := s_filled) l1 c1 k1
  have T1 : At K mg "filled" s_filled ["words", "room"] _ _ := ⟨F1, PySem.W.mg_of X G a1, F1.binds fun _ _ _ _ _ _ => lenE2 fun _ _ => rfl⟩
  have F2 := fun_mk (st := s_flat) l2 c2 k2
  have T2 : At K mg "flat" s_flat ["thing"] _ _ := ⟨F2, PySem.W.mg_of X G a2, F2.binds fun _ _ _ _ _ _ => lenE1 fun _ => rfl⟩
  have F3 := fun_mk (st := s_laid) l3 c3 k3
  have T3 : At K mg "laid" s_laid ["thing", "width"] _ _ := ⟨F3, PySem.W.mg_of X G a3, F3.binds fun _ _ _ _ _ _ => lenE2 fun _ _ => rfl⟩
  have F4 := fun_mk (st := s_rows_of_thing) l4 c4 k4
  have T4 : At K mg "rows_of_thing" s_rows_of_thing ["thing", "width", "indent", "lead", "tail"] _ _ := ⟨F4, PySem.W.mg_of X G a4, F4.binds fun _ _ _ _ _ _ => lenE5 fun _ _ _ _ _ => rfl⟩
  have F5 := fun_mk (st := s_can_be_broken) l5 c5 k5
  have T5 : At K mg "can_be_broken" s_can_be_broken ["thing"] _ _ := ⟨F5, PySem.W.mg_of X G a5, F5.binds fun _ _ _ _ _ _ => lenE1 fun _ => rfl⟩
  have F6 := fun_mk (st := s_rows_of_parts) l6 c6 k6
  have T6 : At K mg "rows_of_parts" s_rows_of_parts ["parts", "width", "indent"] _ _ := ⟨F6, PySem.W.mg_of X G a6, F6.binds fun _ _ _ _ _ _ => lenE3 fun _ _ _ => rfl⟩
  have F7 := fun_mk (st := s_rows_of_words) l7 c7 k7
  have T7 : At K mg "rows_of_words" s_rows_of_words ["words", "width", "indent"] _ _ := ⟨F7, PySem.W.mg_of X G a7, F7.binds fun _ _ _ _ _ _ => lenE3 fun _ _ _ => rfl⟩
  have F8 := fun_mk (st := s_is_word) l8 c8 k8
  have T8 : At K mg "is_word" s_is_word ["text"] _ _ := ⟨F8, PySem.W.mg_of X G a8, F8.binds fun _ _ _ _ _ _ => lenE1 fun _ => rfl⟩
  have F9 := fun_mk (st := s_read) l9 c9 k9
  have T9 : At K mg "read" s_read ["rows"] _ _ := ⟨F9, PySem.W.mg_of X G a9, F9.binds fun _ _ _ _ _ _ => lenE1 fun _ => rfl⟩
  have F10 := fun_mk (st := s_laid_anew) l10 c10 k10
  have T10 : At K mg "laid_anew" s_laid_anew ["rows", "width"] _ _ := ⟨F10, PySem.W.mg_of X G a10, F10.binds fun _ _ _ _ _ _ => lenE2 fun _ _ => rfl⟩
  have F11 := fun_mk (st := s_tokens_of_rows) l11 c11 k11
  have T11 : At K mg "tokens_of_rows" s_tokens_of_rows ["rows"] _ _ := ⟨F11, PySem.W.mg_of X G a11, F11.binds fun _ _ _ _ _ _ => lenE1 fun _ => rfl⟩
  have F12 := fun_mk (st := s_tokens_of_row) l12 c12 k12
  have T12 : At K mg "tokens_of_row" s_tokens_of_row ["row"] _ _ := ⟨F12, PySem.W.mg_of X G a12, F12.binds fun _ _ _ _ _ _ => lenE1 fun _ => rfl⟩
  have F13 := fun_mk (st := s_begin) l13 c13 k13
  have T13 : At K mg "begin" s_begin ["tokens", "begun"] _ _ := ⟨F13, PySem.W.mg_of X G a13, F13.binds fun _ _ _ _ _ _ => lenE2 fun _ _ => rfl⟩
  have F14 := fun_mk (st := s_hand_over) l14 c14 k14
  have T14 : At K mg "hand_over" s_hand_over ["thing", "tokens", "begun"] _ _ := ⟨F14, PySem.W.mg_of X G a14, F14.binds fun _ _ _ _ _ _ => lenE3 fun _ _ _ => rfl⟩
  have F15 := fun_mk (st := s_words_of_run) l15 c15 k15
  have T15 : At K mg "words_of_run" s_words_of_run ["tokens"] _ _ := ⟨F15, PySem.W.mg_of X G a15, F15.binds fun _ _ _ _ _ _ => lenE1 fun _ => rfl⟩
  have F16 := fun_mk (st := s__law_at) l16 c16 k16
  have T16 : At K mg "_law_at" s__law_at ["_law_script", "_law_k"] _ _ := ⟨F16, PySem.W.mg_of X G a16, F16.binds fun _ _ _ _ _ _ => lenE2 fun _ _ => rfl⟩
  have F17 := fun_mk (st := s__law_texts) l17 c17 k17
  have T17 : At K mg "_law_texts" s__law_texts ["_law_found"] _ _ := ⟨F17, PySem.W.mg_of X G a17, F17.binds fun _ _ _ _ _ _ => lenE1 fun _ => rfl⟩
  have F18 := fun_mk (st := s__law_word_by) l18 c18 k18
  have T18 : At K mg "_law_word_by" s__law_word_by ["_law_salt"] _ _ := ⟨F18, PySem.W.mg_of X G a18, F18.binds fun _ _ _ _ _ _ => lenE1 fun _ => rfl⟩
  have F19 := fun_mk (st := s__law_tags) l19 c19 k19
  have T19 : At K mg "_law_tags" s__law_tags ["_law_thing"] _ _ := ⟨F19, PySem.W.mg_of X G a19, F19.binds fun _ _ _ _ _ _ => lenE1 fun _ => rfl⟩
  have F20 := fun_mk (st := s__law_step) l20 c20 k20
  have T20 : At K mg "_law_step" s__law_step ["_law_frames", "_law_way", "_law_salt"] _ _ := ⟨F20, PySem.W.mg_of X G a20, F20.binds fun _ _ _ _ _ _ => lenE3 fun _ _ _ => rfl⟩
  have F21 := fun_mk (st := s__law_grown) l21 c21 k21
  have T21 : At K mg "_law_grown" s__law_grown ["_law_cells"] _ _ := ⟨F21, PySem.W.mg_of X G a21, F21.binds fun _ _ _ _ _ _ => lenE1 fun _ => rfl⟩
  have F22 := fun_mk (st := s__law_flat_line) l22 c22 k22
  have T22 : At K mg "_law_flat_line" s__law_flat_line ["_law_thing"] _ _ := ⟨F22, PySem.W.mg_of X G a22, F22.binds fun _ _ _ _ _ _ => lenE1 fun _ => rfl⟩
  have F23 := fun_mk (st := s__law_pieces_of) l23 c23 k23
  have T23 : At K mg "_law_pieces_of" s__law_pieces_of ["_law_line"] _ _ := ⟨F23, PySem.W.mg_of X G a23, F23.binds fun _ _ _ _ _ _ => lenE1 fun _ => rfl⟩
  have F24 := fun_mk (st := s__law_wordy) l24 c24 k24
  have T24 : At K mg "_law_wordy" s__law_wordy ["_law_piece"] _ _ := ⟨F24, PySem.W.mg_of X G a24, F24.binds fun _ _ _ _ _ _ => lenE1 fun _ => rfl⟩
  have F25 := fun_mk (st := s__law_strewn_rows) l25 c25 k25
  have T25 : At K mg "_law_strewn_rows" s__law_strewn_rows ["_law_pieces", "_law_cells"] _ _ := ⟨F25, PySem.W.mg_of X G a25, F25.binds fun _ _ _ _ _ _ => lenE2 fun _ _ => rfl⟩
  have F26 := fun_mk (st := s__law_refuses) l26 c26 k26
  have T26 : At K mg "_law_refuses" s__law_refuses ["_law_rows", "_law_width"] _ _ := ⟨F26, PySem.W.mg_of X G a26, F26.binds fun _ _ _ _ _ _ => lenE2 fun _ _ => rfl⟩
  have F27 := fun_mk (st := s__law_unbroken) l27 c27 k27
  have T27 : At K mg "_law_unbroken" s__law_unbroken ["_law_one", "_law_wide", "_law_width", "_law_cell"] _ _ := ⟨F27, PySem.W.mg_of X G a27, F27.binds fun _ _ _ _ _ _ => lenE4 fun _ _ _ _ => rfl⟩
  have F28 := fun_mk (st := s__law_word_rows) l28 c28 k28
  have T28 : At K mg "_law_word_rows" s__law_word_rows ["_law_words", "_law_room", "_law_cell"] _ _ := ⟨F28, PySem.W.mg_of X G a28, F28.binds fun _ _ _ _ _ _ => lenE3 fun _ _ _ => rfl⟩
  have F29 := fun_mk (st := s__law_other_rows) l29 c29 k29
  have T29 : At K mg "_law_other_rows" s__law_other_rows ["_law_thing", "_law_width", "_law_cells"] _ _ := ⟨F29, PySem.W.mg_of X G a29, F29.binds fun _ _ _ _ _ _ => lenE3 fun _ _ _ => rfl⟩
  have F30 := fun_mk (st := s__law_mixed) l30 c30 k30
  have T30 : At K mg "_law_mixed" s__law_mixed ["_law_script"] _ _ := ⟨F30, PySem.W.mg_of X G a30, F30.binds fun _ _ _ _ _ _ => lenE1 fun _ => rfl⟩
  have F31 := fun_mk (st := s_Tokens___init__) l31 c31 k31
  have T31 : AtM K c_Tokens "__init__" "Tokens.__init__" s_Tokens___init__ ["self", "tokens"] _ _ := ⟨F31, ⟨a31, i31, k31⟩, F31.binds fun _ _ _ _ _ _ => lenE2 fun _ _ => rfl⟩
  have F32 := fun_mk (st := s_Tokens_takes) l32 c32 k32
  have T32 : AtM K c_Tokens "takes" "Tokens.takes" s_Tokens_takes ["self", "token"] _ _ := ⟨F32, ⟨a32, i32, k32⟩, F32.binds fun _ _ _ _ _ _ => lenE2 fun _ _ => rfl⟩
  have F33 := fun_mk (st := s_Tokens_take_word) l33 c33 k33
  have T33 : AtM K c_Tokens "take_word" "Tokens.take_word" s_Tokens_take_word ["self"] _ _ := ⟨F33, ⟨a33, i33, k33⟩, F33.binds fun _ _ _ _ _ _ => lenE1 fun _ => rfl⟩
  have F34 := fun_mk (st := s_law) l34 c34 k34
  have T34 : At K mg "law" s_law ["_law_script"] _ _ := ⟨F34, PySem.W.mg_of X G a34, F34.binds fun _ _ _ _ _ _ => lenE1 fun _ => rfl⟩
  have TC : TkCls K c_Tokens := ⟨⟨t1, t2, t3, t4⟩, t5, t6⟩
  have MKT : Mk K c_Tokens f31 := ⟨t7, a31, i31, t8⟩
  have MKS : Marks K mg 311 [(40, 301), (41, 302), (91, 303), (93, 304), (44, 305), (58, 306)] pm _ nzm := ⟨PySem.W.mg_of X G zm, lm, rfl, rfl, by decide, by decide⟩
  have B : Bn mg := ⟨PySem.W.mg_none_of X G z1, PySem.W.mg_none_of X G z2, PySem.W.mg_none_of X G z3, PySem.W.mg_none_of X G z4, PySem.W.mg_none_of X G z5, PySem.W.mg_none_of X G z6, PySem.W.mg_none_of X G z7, PySem.W.mg_none_of X G z8, PySem.W.mg_none_of X G z9⟩
  exact ⟨PySem.W.fnOf "law" "law" (defArgs s_law) (defBody s_law) (defScope s_law) .none kV34 dc34 pm34 an34 cd34 ct34, fun s v => .of_eq rfl, fun base _ _ => law_all B (PySem.W.mg_none_of X G zx_all) (PySem.W.mg_none_of X G zx_enumerate) (PySem.W.mg_of X G zc_STEP) (PySem.W.mg_of X G zc_SIGNS_OF_WORDS) (PySem.W.mg_of X G zc_END) (PySem.W.mg_of X G zk_NoThing) (⟨⟨y1, y2, y3, y4, y5, y6⟩, y7⟩) (PySem.W.mg_of X G zk_Tokens) TC MKT MKS T1 T2 T3 T4 T5 T6 T7 T8 T9 T10 T11 T12 T13 T14 T15 T16 T17 T18 T19 T20 T21 T22 T23 T24 T25 T26 T27 T28 T29 T30 T31 T32 T33 T34⟩
end C
open PySem PySem.W PyProof.Rows
set_option tactic.hygienic true in
set_option maxRecDepth 100000 in
set_option maxHeartbeats 0 in
theorem PySem.Challenge.cw_foldrows_k13_whole_laid_anew_holds : PySem.Challenge.rw_foldrows_k13_whole_laid_anew.Holds := by
  w_on; o_law; z_head; (case hw => w_witness2)
  refine L2.walk_ofT (l := PySem.Challenge.rw_foldrows_k13_whole_laid_anew) (n := 63) (k := 201) (nt := 311) (x := "_law_script") (sp := C.spLaw) (fun _ => by kernel_rfl) rfl (by decide) rfl ⟨rfl, by decide, by decide⟩ (by decide) ?F (fun K H a ns hl _ hS => ⟨a, ns, rfl, hS, hl, fun _ => rfl⟩)
  case F =>
    intro w mg fa h KX G hmg
    refine' C.all_mk KX G hmg ?zk_Tokens ?zm ?lm ?t1 ?t2 ?t3 ?t4 ?t5 ?t6 ?t7 ?t8 ?a1 ?l1 ?c1 ?k1 ?a2 ?l2 ?c2 ?k2 ?a3 ?l3 ?c3 ?k3 ?a4 ?l4 ?c4 ?k4 ?a5 ?l5 ?c5 ?k5 ?a6 ?l6 ?c6 ?k6 ?a7 ?l7 ?c7 ?k7 ?a8 ?l8 ?c8 ?k8 ?a9 ?l9 ?c9 ?k9 ?a10 ?l10 ?c10 ?k10 ?a11 ?l11 ?c11 ?k11 ?a12 ?l12 ?c12 ?k12 ?a13 ?l13 ?c13 ?k13 ?a14 ?l14 ?c14 ?k14 ?a15 ?l15 ?c15 ?k15 ?a16 ?l16 ?c16 ?k16 ?a17 ?l17 ?c17 ?k17 ?a18 ?l18 ?c18 ?k18 ?a19 ?l19 ?c19 ?k19 ?a20 ?l20 ?c20 ?k20 ?a21 ?l21 ?c21 ?k21 ?a22 ?l22 ?c22 ?k22 ?a23 ?l23 ?c23 ?k23 ?a24 ?l24 ?c24 ?k24 ?a25 ?l25 ?c25 ?k25 ?a26 ?l26 ?c26 ?k26 ?a27 ?l27 ?c27 ?k27 ?a28 ?l28 ?c28 ?k28 ?a29 ?l29 ?c29 ?k29 ?a30 ?l30 ?c30 ?k30 ?a31 ?i31 ?l31 ?c31 ?k31 ?a32 ?i32 ?l32 ?c32 ?k32 ?a33 ?i33 ?l33 ?c33 ?k33 ?a34 ?l34 ?c34 ?k34 ?z1 ?z2 ?z3 ?z4 ?z5 ?z6 ?z7 ?z8 ?z9 ?zx_all ?zx_enumerate ?zc_STEP ?zc_SIGNS_OF_WORDS ?zc_END ?zk_NoThing ?y1 ?y2 ?y3 ?y4 ?y5 ?y6 ?y7
    (case zk_Tokens => k_is)
    (case zm => k_is)
    (case lm => k_is)
    (case t1 => first | k_is | kernel_rfl)
    (case t2 => first | k_is | kernel_rfl)
    (case t3 => first | k_is | kernel_rfl)
    (case t4 => first | k_is | kernel_rfl)
    (case t5 => first | k_is | kernel_rfl)
    (case t6 => first | k_is | kernel_rfl)
    (case t7 => first | k_is | kernel_rfl)
    (case t8 => first | k_is | kernel_rfl)
    (case a1 => k_is)
    (case l1 => k_is)
    (case c1 => k_is)
    (case k1 => k_is)
    (case a2 => k_is)
    (case l2 => k_is)
    (case c2 => k_is)
    (case k2 => k_is)
    (case a3 => k_is)
    (case l3 => k_is)
    (case c3 => k_is)
    (case k3 => k_is)
    (case a4 => k_is)
    (case l4 => k_is)
    (case c4 => k_is)
    (case k4 => k_is)
    (case a5 => k_is)
    (case l5 => k_is)
    (case c5 => k_is)
    (case k5 => k_is)
    (case a6 => k_is)
    (case l6 => k_is)
    (case c6 => k_is)
    (case k6 => k_is)
    (case a7 => k_is)
    (case l7 => k_is)
    (case c7 => k_is)
    (case k7 => k_is)
    (case a8 => k_is)
    (case l8 => k_is)
    (case c8 => k_is)
    (case k8 => k_is)
    (case a9 => k_is)
    (case l9 => k_is)
    (case c9 => k_is)
    (case k9 => k_is)
    (case a10 => k_is)
    (case l10 => k_is)
    (case c10 => k_is)
    (case k10 => k_is)
    (case a11 => k_is)
    (case l11 => k_is)
    (case c11 => k_is)
    (case k11 => k_is)
    (case a12 => k_is)
    (case l12 => k_is)
    (case c12 => k_is)
    (case k12 => k_is)
    (case a13 => k_is)
    (case l13 => k_is)
    (case c13 => k_is)
    (case k13 => k_is)
    (case a14 => k_is)
    (case l14 => k_is)
    (case c14 => k_is)
    (case k14 => k_is)
    (case a15 => k_is)
    (case l15 => k_is)
    (case c15 => k_is)
    (case k15 => k_is)
    (case a16 => k_is)
    (case l16 => k_is)
    (case c16 => k_is)
    (case k16 => k_is)
    (case a17 => k_is)
    (case l17 => k_is)
    (case c17 => k_is)
    (case k17 => k_is)
    (case a18 => k_is)
    (case l18 => k_is)
    (case c18 => k_is)
    (case k18 => k_is)
    (case a19 => k_is)
    (case l19 => k_is)
    (case c19 => k_is)
    (case k19 => k_is)
    (case a20 => k_is)
    (case l20 => k_is)
    (case c20 => k_is)
    (case k20 => k_is)
    (case a21 => k_is)
    (case l21 => k_is)
    (case c21 => k_is)
    (case k21 => k_is)
    (case a22 => k_is)
    (case l22 => k_is)
    (case c22 => k_is)
    (case k22 => k_is)
    (case a23 => k_is)
    (case l23 => k_is)
    (case c23 => k_is)
    (case k23 => k_is)
    (case a24 => k_is)
    (case l24 => k_is)
    (case c24 => k_is)
    (case k24 => k_is)
    (case a25 => k_is)
    (case l25 => k_is)
    (case c25 => k_is)
    (case k25 => k_is)
    (case a26 => k_is)
    (case l26 => k_is)
    (case c26 => k_is)
    (case k26 => k_is)
    (case a27 => k_is)
    (case l27 => k_is)
    (case c27 => k_is)
    (case k27 => k_is)
    (case a28 => k_is)
    (case l28 => k_is)
    (case c28 => k_is)
    (case k28 => k_is)
    (case a29 => k_is)
    (case l29 => k_is)
    (case c29 => k_is)
    (case k29 => k_is)
    (case a30 => k_is)
    (case l30 => k_is)
    (case c30 => k_is)
    (case k30 => k_is)
    (case a31 => k_is)
    (case i31 => k_is)
    (case l31 => k_is)
    (case c31 => k_is)
    (case k31 => k_is)
    (case a32 => k_is)
    (case i32 => k_is)
    (case l32 => k_is)
    (case c32 => k_is)
    (case k32 => k_is)
    (case a33 => k_is)
    (case i33 => k_is)
    (case l33 => k_is)
    (case c33 => k_is)
    (case k33 => k_is)
    (case a34 => k_is)
    (case l34 => k_is)
    (case c34 => k_is)
    (case k34 => k_is)
    (case z1 => k_is)
    (case z2 => k_is)
    (case z3 => k_is)
    (case z4 => k_is)
    (case z5 => k_is)
    (case z6 => k_is)
    (case z7 => k_is)
    (case z8 => k_is)
    (case z9 => k_is)
    (case zx_all => k_is)
    (case zx_enumerate => k_is)
    (case zc_STEP => k_is)
    (case zc_SIGNS_OF_WORDS => k_is)
    (case zc_END => k_is)
    (case zk_NoThing => k_is)
    (case y1 => first | k_exc | k_is | kernel_rfl)
    (case y2 => first | k_exc | k_is | kernel_rfl)
    (case y3 => first | k_exc | k_is | kernel_rfl)
    (case y4 => first | k_exc | k_is | kernel_rfl)
    (case y5 => first | k_exc | k_is | kernel_rfl)
    (case y6 => first | k_exc | k_is | kernel_rfl)
    (case y7 => first | k_exc | k_is | kernel_rfl)
#print axioms PySem.Challenge.cw_foldrows_k13_whole_laid_anew_holds
