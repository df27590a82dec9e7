import PyProof.Rows.All
import Wide.All
import OpenK.AllK
import Wide.FinOn
import PyProof.EqAt
import PyProof.EqKinds
import PyProof.TupleCall
import KE.BitLaws
import Open.SpecLaws
import KE.OsHead
import KE.OsGo
import KE.KSortTupG
import KE.KSortKeySt
import KE.KLam
import PyFlatLaws
import PySem.Challenge.RW_leaning_s01_answers
set_option bootstrap.genMatcherCode false
section
set_option Elab.async false
set_option linter.all false
set_option maxRecDepth 100000
namespace L2
open PySem PySem.Spec PyProof.Rows

noncomputable abbrev Key := Sum Int Str
noncomputable def keyIs : Key → Value → Bool
  | .inl k, v => Value.isInt k v
  | .inr x, v => Value.isStrOf x v
noncomputable def keyH (w : World) : Key → Int
  | .inl k => hashInt k
  | .inr x => hashStr w x
theorem keyIs_shape : ∀ {k : Key} {v : Value}, keyIs k v = true → (∃ i t, k = Sum.inl i ∧ v = Value.int i t) ∨ (∃ x t, k = Sum.inr x ∧ v = Value.str x t)
  | .inl i, v, h => by
    obtain ⟨t, e⟩ := Value.isInt_shape (k := i) (v := v) h
    exact .inl ⟨i, t, rfl, e⟩
  | .inr x, v, h => by
    obtain ⟨t, e⟩ := Value.isStrOf_shape (x := x) (v := v) h
    exact .inr ⟨x, t, rfl, e⟩
theorem keyIs_int (i : Int) (t : Tok) : keyIs (.inl i) (.int i t) = true := by simp [keyIs, Value.isInt]
theorem keyIs_str (x : Str) (t : Tok) : keyIs (.inr x) (.str x t) = true := by simp [keyIs, Value.isStrOf]
theorem key_ll (a b : Int) : decide ((Sum.inl a : Key) = Sum.inl b) = (a == b) := by
  by_cases e : a = b
  · subst e; simp
  · have h : ¬ (Sum.inl a : Key) = Sum.inl b := fun q => e (Sum.inl.inj q)
    rw [decide_eq_false h]
    exact (beq_eq_false_iff_ne.mpr e).symm
theorem key_rr (a b : Str) : decide ((Sum.inr a : Key) = Sum.inr b) = decide (a = b) := by
  by_cases e : a = b
  · subst e; simp
  · have h : ¬ (Sum.inr a : Key) = Sum.inr b := fun q => e (Sum.inr.inj q)
    rw [decide_eq_false h, decide_eq_false e]
theorem key_lr (a : Int) (b : Str) : decide ((Sum.inl a : Key) = Sum.inr b) = false := decide_eq_false (fun q => nomatch q)
theorem key_rl (a : Str) (b : Int) : decide ((Sum.inr a : Key) = Sum.inl b) = false := decide_eq_false (fun q => nomatch q)

noncomputable def mixKind (prog : Program) (w : World) : PySem.KeyKind prog w Key where
  is := keyIs
  hash := keyH w
  inj := fun v a b ha hb => by
    rcases keyIs_shape ha with ⟨i, t, rfl, rfl⟩ | ⟨x, t, rfl, rfl⟩
    · rcases keyIs_shape hb with ⟨j, u, rfl, e⟩ | ⟨y, u, rfl, e⟩
      · injection e with e1 _; rw [e1]
      · exact nomatch e
    · rcases keyIs_shape hb with ⟨j, u, rfl, e⟩ | ⟨y, u, rfl, e⟩
      · exact nomatch e
      · injection e with e1 _; rw [e1]
  byValue := fun k v h => by
    rcases keyIs_shape h with ⟨i, t, rfl, rfl⟩ | ⟨x, t, rfl, rfl⟩ <;> rfl
  pyHash := fun hv h => by
    rcases keyIs_shape hv with ⟨i, t, rfl, rfl⟩ | ⟨x, t, rfl, rfl⟩
    · exact wpAny_pyHash_int h
    · exact wpAny_pyHash_str h
  eqBool := fun hu hv h => by
    rcases keyIs_shape hu with ⟨i, t, rfl, rfl⟩ | ⟨x, t, rfl, rfl⟩
    · rcases keyIs_shape hv with ⟨j, u, rfl, rfl⟩ | ⟨y, u, rfl, rfl⟩
      · rw [key_ll] at h; exact wpAny_eqBool_int h
      · rw [key_lr] at h; exact SeqAt.EqAt.int_str i t y u _ _ _ _ h
    · rcases keyIs_shape hv with ⟨j, u, rfl, rfl⟩ | ⟨y, u, rfl, rfl⟩
      · rw [key_rl] at h; exact SeqAt.EqAt.str_int x t j u _ _ _ _ h
      · rw [key_rr] at h; exact wpAny_eqBool_str h
  «strs» := fun k x t v h => by
    rcases keyIs_shape h with ⟨i, u, rfl, e⟩ | ⟨y, u, rfl, e⟩
    · exact nomatch e
    · injection e with e1 _
      subst e1
      cases v <;> rfl

theorem mixKind_int (prog : Program) (w : World) (i : Int) (t : Tok) : (mixKind prog w).is (.inl i) (.int i t) = true := keyIs_int i t
theorem mixKind_str (prog : Program) (w : World) (x : Str) (t : Tok) : (mixKind prog w).is (.inr x) (.str x t) = true := keyIs_str x t
end L2

namespace L2
open PySem PySem.Spec PyProof.Rows

inductive V where
  | non | bl (b : Bool) | int (i : Int) | str (x : Str) | byt (b : Array UInt8) | flt (b : UInt64) | ref (a : Addr) | ty (n : String)
  deriving DecidableEq

noncomputable def RelV : V → Value → Prop
  | .non, u => u = Value.none
  | .bl b, u => u = Value.bool b
  | .int i, u => ∃ t, u = Value.int i t
  | .str x, u => ∃ t, u = Value.str x t
  | .byt b, u => ∃ t, u = Value.bytes b t
  | .flt b, u => ∃ t, u = Value.float b t
  | .ref a, u => u = Value.ref a
  | .ty n, u => u = Value.type n

noncomputable abbrev Vals : List V → List Value → Prop := Paired RelV
theorem Vals.length {xs : List V} {us : List Value} (r : Vals xs us) : xs.length = us.length := Paired.length r
theorem Vals.get : ∀ {xs : List V} {us : List Value} {i : Nat} {x : V}, Vals xs us → xs[i]? = some x → ∃ u, us[i]? = some u ∧ RelV x u
  | _, _, _, _, .nil, e => by simp at e
  | _, _, 0, _, .cons r _, e => by simp at e; subst e; exact ⟨_, rfl, r⟩
  | _, _, i + 1, x, .cons _ t, e => by
    obtain ⟨u, h1, h2⟩ := Vals.get (i := i) (x := x) t (by simpa using e)
    exact ⟨u, by simpa using h1, h2⟩
theorem Vals.set {x : V} {u : Value} (r : RelV x u) : ∀ {xs : List V} {us : List Value} (i : Nat), Vals xs us → Vals (xs.set i x) (us.set i u)
  | _, _, _, .nil => .nil
  | _, _, 0, .cons _ t => .cons r t
  | _, _, i + 1, .cons q t => .cons q (Vals.set r i t)
theorem Vals.append : ∀ {xs ys : List V} {us ws : List Value}, Vals xs us → Vals ys ws → Vals (xs ++ ys) (us ++ ws)
  | _, _, _, _, .nil, s => s
  | _, _, _, _, .cons r t, s => .cons r (Vals.append t s)
theorem Vals.take : ∀ {xs : List V} {us : List Value} (n : Nat), Vals xs us → Vals (xs.take n) (us.take n)
  | _, _, 0, _ => .nil
  | _, _, _ + 1, .nil => .nil
  | _, _, n + 1, .cons r t => .cons r (Vals.take n t)
theorem Vals.drop : ∀ {xs : List V} {us : List Value} (n : Nat), Vals xs us → Vals (xs.drop n) (us.drop n)
  | _, _, 0, r => r
  | _, _, _ + 1, .nil => .nil
  | _, _, n + 1, .cons _ t => Vals.drop n t
noncomputable def RelO : Option V → Option Value → Prop
  | some v, some u => RelV v u
  | none, none => True
  | _, _ => False
noncomputable def KV {κ : Type} : List (κ × V) → List (κ × Value) → Prop := Paired fun (p : κ × V) (q : κ × Value) => p.1 = q.1 ∧ RelV p.2 q.2

noncomputable def kV : Key → V
  | .inl i => .int i
  | .inr x => .str x

inductive HO where
  /-- a list -/
  | lst (xs : List V)
  /-- a tuple (never changes) -/
  | tup (xs : List V)
  /-- a dict whose keys are ints and texts; one whose keys are tuples of ints and texts (the empty one is both) -/
  | dK (kvs : List (Key × V)) | dT (kvs : List (List Key × V))
  /-- a set of ints: its members, its size -/
  | set (S : Int → Bool) (n : Nat)
  /-- an instance of the class at C, its dict at dx, its attributes -/
  | ins (C dx : Addr) (fs : List (Str × V))
  /-- the dict of the instance at x -/
  | own (x : Addr)
  /-- the dict of an exception -/
  | xd (fs : List (Str × V))
  /-- a bound method, f of x -/
  | met (f x : Addr)
  /-- a range object lo, lo + 1, .. below hi -/
  | rng (lo hi : Int)
  /-- a thing that is known to the object (the script; a dict while a loop walks it): read, never written while it is so -/
  | frz (o : Obj) (u : HO)
  /-- a code object's table -/
  | tbl (ps : Array Value)
  /-- any other thing, by what is true of its one object (a def of one's own: SetO a S n := HO.ext fun h => ..) -/
  | ext (φ : Heap → Prop)

noncomputable abbrev Hp := Addr → Option HO
noncomputable def upd (H : Hp) (a : Addr) (o : HO) : Hp := fun b => if b = a then some o else H b
theorem upd_same {H : Hp} {a : Addr} {o : HO} : upd H a o a = some o := by unfold upd; rw [if_pos rfl]
theorem upd_ne {H : Hp} {a b : Addr} {o : HO} (h : b ≠ a) : upd H a o b = H b := by unfold upd; rw [if_neg h]
theorem upd_upd {H : Hp} {a : Addr} {o u : HO} : upd (upd H a o) a u = upd H a u := by
  funext b; unfold upd; split <;> rfl
theorem ne_of {H : Hp} {a b : Addr} {o u : HO} (h : H a = some o) (h' : H b = some u) (d : o ≠ u) : a ≠ b := by
  intro e; subst e; rw [h] at h'; exact d (Option.some.inj h')
theorem ne_of_none {H : Hp} {a b : Addr} {o : HO} (h : H a = some o) (h' : H b = none) : a ≠ b := by
  intro e; subst e; rw [h] at h'; cases h'

section
variable (P : Program) (w : World)
noncomputable def ObjOk (H : Hp) (h : Heap) (a : Addr) : HO → Prop
  | .lst xs => xs.length ≤ sizeLine ∧ ∃ (its : List Value) (n : Nat), Vals xs its ∧ h.get? a = some { cls := .type "list", data := .seq its.toArray n }
  | .tup xs => xs.length ≤ sizeLine ∧ ∃ its : List Value, Vals xs its ∧ IsTup h a its.toArray
  | .dK kvs => kvs.length ≤ sizeLine ∧ (a == sysModules) = false ∧ ∃ vs, KV kvs vs ∧ h.DictOf (mixKind P w) a vs
  | .dT kvs => kvs.length ≤ sizeLine ∧ (a == sysModules) = false ∧ ∃ xs : List (List Key × Addr × Value),
      Paired (fun (p : List Key × V) (q : List Key × Addr × Value) => p.1 = q.1 ∧ H q.2.1 = some (.tup (p.1.map kV)) ∧ RelV p.2 q.2.2) kvs xs ∧
      ∃ o es ep, h.get? a = some o ∧ o.ExactDict ∧ o.data = .dict es ep ∧ es.toList = xs.map (entryOfKey (tupleKind (mixKind P w))) ∧ (xs.map (·.1)).Nodup
  | .set S n => h.SetOf (intKind P w) a S n
  | .ins C dx fs => H dx = some (.own a) ∧ fs.length ≤ 1000 ∧ dx ≠ a ∧ h.get? a = some (PySem.W.instObj C dx) ∧
      ∃ mA, h.Ns1 dx mA ∧ (∀ f, RelO (fs.lookup f) (mA f)) ∧ PySem.Within mA (fs.map (·.1))
  | .own _ => ∃ o, h.get? a = some o
  | .xd fs => ∃ mA, h.Ns1 a mA ∧ ∀ f, RelO (fs.lookup f) (mA f)
  | .rng lo hi => ∃ t u v, h.get? a = some { cls := .type "range", data := .fields #[.int lo t, .int hi u, .int 1 v] }
  | .frz o u => h.get? a = some o ∧ ObjOk H h a u
  | .tbl ps => h.get? a = some { cls := .none, data := .fields ps }
  | .met f x => h.get? a = some (PySem.W.methodObj (.ref f) (.ref x))
  | .ext φ => φ h ∧ (∃ o, h.get? a = some o) ∧ ∀ h1 h2 : Heap, φ h1 → (∀ o, h1.get? a = some o → h2.get? a = some o) → φ h2
noncomputable def HOk (H : Hp) (h : Heap) : Prop := ∀ a o, H a = some o → ObjOk P w H h a o
end

section
variable {P : Program} {w : World} {H H' : Hp} {h h' : Heap} {a : Addr} {o : HO}
theorem ObjOk.lt (x : ObjOk P w H h a o) : a < h.objs.size := by
  cases o with
  | lst xs => obtain ⟨_, _, _, _, e⟩ := x; exact Heap.lt_size e
  | tup xs => obtain ⟨_, _, _, p⟩ := x; exact p.lt
  | dK kvs => obtain ⟨_, _, _, _, o, _, _, e, _⟩ := x; exact Heap.lt_size e
  | dT kvs => obtain ⟨_, _, _, _, o, _, _, e, _⟩ := x; exact Heap.lt_size e
  | set S n => obtain ⟨o, _, _, _, e, _⟩ := x; exact Heap.lt_size e
  | ins C dx fs => obtain ⟨_, _, _, e, _⟩ := x; exact Heap.lt_size e
  | own y => obtain ⟨_, e⟩ := x; exact Heap.lt_size e
  | xd fs => obtain ⟨_, ⟨_, _, _, e, _⟩, _⟩ := x; exact Heap.lt_size e
  | rng lo hi => obtain ⟨_, _, _, e⟩ := x; exact Heap.lt_size e
  | frz ob u => obtain ⟨e, _⟩ := x; exact Heap.lt_size e
  | tbl ps => exact Heap.lt_size (show h.get? a = some _ from x)
  | met f y => exact Heap.lt_size (show h.get? a = some _ from x)
  | ext φ => obtain ⟨_, ⟨_, e⟩, _⟩ := x; exact Heap.lt_size e
theorem Paired.mapP {α β : Type} {F G : α → β → Prop} : ∀ {l₁ : List α} {l₂ : List β}, Paired F l₁ l₂ → (∀ a b, F a b → G a b) → Paired G l₁ l₂
  | _, _, .nil, _ => .nil
  | _, _, .cons r t, f => .cons (f _ _ r) (Paired.mapP t f)
theorem ObjOk.stay (x : ObjOk P w H h a o) (k : ∀ b u, (b = a ∨ H b = some (.own a)) → h.get? b = some u → h'.get? b = some u)
    (ho : ∀ b, H b = some (.own a) → H' b = some (.own a)) (ht : ∀ b xs, H b = some (.tup xs) → H' b = some (.tup xs)) : ObjOk P w H' h' a o := by
  induction o with
  | lst xs => obtain ⟨z, its, n, r, e⟩ := x; exact ⟨z, its, n, r, k _ _ (.inl rfl) e⟩
  | tup xs => obtain ⟨z, its, r, ob, e, c⟩ := x; exact ⟨z, its, r, ob, k _ _ (.inl rfl) e, c⟩
  | dK kvs => obtain ⟨z, y, vs, r, ob, es, ep, e, c⟩ := x; exact ⟨z, y, vs, r, ob, es, ep, k _ _ (.inl rfl) e, c⟩
  | dT kvs =>
    obtain ⟨z, y, xs, r, ob, es, ep, e, c⟩ := x
    exact ⟨z, y, xs, Paired.mapP r fun p q z => ⟨z.1, ht _ _ z.2.1, z.2.2⟩, ob, es, ep, k _ _ (.inl rfl) e, c⟩
  | set S n => obtain ⟨ob, es, ep, t, e, c⟩ := x; exact ⟨ob, es, ep, t, k _ _ (.inl rfl) e, c⟩
  | ins C dx fs =>
    obtain ⟨d, z, ne, e, mA, ⟨od, es, ep, e2, c⟩, r⟩ := x
    exact ⟨ho _ d, z, ne, k _ _ (.inl rfl) e, mA, ⟨od, es, ep, k _ _ (.inr d) e2, c⟩, r⟩
  | own y => obtain ⟨ob, e⟩ := x; exact ⟨ob, k _ _ (.inl rfl) e⟩
  | xd fs => obtain ⟨mA, ⟨od, es, ep, e, c⟩, r⟩ := x; exact ⟨mA, ⟨od, es, ep, k _ _ (.inl rfl) e, c⟩, r⟩
  | rng lo hi => obtain ⟨t, u, v, e⟩ := x; exact ⟨t, u, v, k _ _ (.inl rfl) e⟩
  | frz ob u ih => obtain ⟨e, q⟩ := x; exact ⟨k _ _ (.inl rfl) e, ih q⟩
  | tbl ps =>
    have e : h.get? a = some { cls := .none, data := .fields ps } := x
    show h'.get? a = some { cls := .none, data := .fields ps }
    exact k a _ (.inl rfl) e
  | met f y =>
    have e : h.get? a = some (PySem.W.methodObj (.ref f) (.ref y)) := x
    show h'.get? a = some (PySem.W.methodObj (.ref f) (.ref y))
    exact k a _ (.inl rfl) e
  | ext φ => obtain ⟨p, ⟨o, e⟩, st⟩ := x; exact ⟨st _ _ p fun o q => k _ _ (.inl rfl) q, ⟨o, k _ _ (.inl rfl) e⟩, st⟩
theorem HOk.lt (x : HOk P w H h) (e : H a = some o) : a < h.objs.size := (x a o e).lt
theorem HOk.fresh (x : HOk P w H h) (e : h.objs.size ≤ a) : H a = none := by
  cases q : H a with
  | none => rfl
  | some u => exact absurd (Nat.lt_of_lt_of_le (x.lt q) e) (Nat.lt_irrefl _)
theorem HOk.kept (x : HOk P w H h) (k : ∀ b u, h.get? b = some u → h'.get? b = some u) : HOk P w H h' := fun a o e =>
  (x a o e).stay (fun b u _ q => k b u q) (fun _ q => q) fun _ _ q => q
theorem HOk.laid (x : HOk P w H h) (k : ∀ b u, h.get? b = some u → h'.get? b = some u) (hp : h.objs.size ≤ a) (new : ObjOk P w (upd H a o) h' a o) : HOk P w (upd H a o) h' := fun b u e => by
  have hn := x.fresh hp
  by_cases hb : b = a
  · subst hb; rw [upd_same] at e; cases e; exact new
  · rw [upd_ne hb] at e
    exact (x b u e).stay (fun c v _ q => k c v q) (fun c q => by rw [upd_ne (ne_of_none q hn)]; exact q) fun c xs q => by rw [upd_ne (ne_of_none q hn)]; exact q
end

noncomputable def Rd (H : Hp) (a : Addr) (u : HO) : Prop := H a = some u ∨ ∃ o, H a = some (.frz o u)
theorem Rd.ok {P : Program} {w : World} {H : Hp} {h : Heap} {a : Addr} {u : HO} (r : Rd H a u) (x : HOk P w H h) : ObjOk P w H h a u := by
  rcases r with r | ⟨o, r⟩
  · exact x a u r
  · obtain ⟨_, q⟩ := x a _ r
    exact q
noncomputable def Mut : Option HO → Prop
  | some (.lst _) => True
  | some (.dK _) => True
  | some (.dT _) => True
  | some (.set _ _) => True
  | some (.ins _ _ _) => True
  | some (.ext _) => True
  | _ => False
section
variable {P : Program} {w : World} {H : Hp} {h h' : Heap} {x e : Addr} {o' : HO}
theorem HOk.write (ok : HOk P w H h) (mu : Mut (H x)) (he : e = x ∨ H e = some (.own x)) (k : ∀ b u, b ≠ e → h.get? b = some u → h'.get? b = some u) (heo : ∃ u, h'.get? e = some u)
    (new : ObjOk P w (upd H x o') h' x o') : HOk P w (upd H x o') h' := fun b u q => by
  have nown : ∀ c y, H c = some (.own y) → c ≠ x := fun c y r z => by subst z; rw [r] at mu; exact mu
  have ntup : ∀ c xs, H c = some (.tup xs) → c ≠ x := fun c xs r z => by subst z; rw [r] at mu; exact mu
  by_cases hb : b = x
  · subst hb; rw [upd_same] at q; cases q; exact new
  · rw [upd_ne hb] at q
    by_cases hbe : b = e
    · have q' : H b = some (.own x) := by
        rcases he with z | z
        · exact absurd (hbe.trans z) hb
        · rw [hbe]; exact z
      rw [q] at q'; cases q'
      obtain ⟨v, hv⟩ := heo
      exact ⟨v, by rw [hbe]; exact hv⟩
    · refine (ok b u q).stay (fun c v hc r => k c v ?_ r) (fun c r => by rw [upd_ne (nown c b r)]; exact r) fun c xs r => by rw [upd_ne (ntup c xs r)]; exact r
      rcases hc with rfl | hc
      · exact hbe
      · rintro rfl
        rcases he with z | z
        · exact nown c b hc z
        · rw [hc] at z; cases z; exact hb rfl
end

structure Un (fs ex : List Addr) (H H' : Hp) (h h' : Heap) : Prop where
  keep : ∀ b o, h.get? b = some o → H b = none → b ∉ fs → b ∉ ex → h'.get? b = some o
  slot : ∀ b o, h.get? b = some o → H b = none → b ∈ fs → b ∉ ex → ∃ sl, h'.get? b = some { o with slots := sl }
  free : ∀ b o, h.get? b = some o → H b = none → b ∉ ex → H' b = none
  there : ∀ b o, h.get? b = some o → b ∉ ex → ∃ o', h'.get? b = some o'
  tups : ∀ b xs, H b = some (.tup xs) → H' b = some (.tup xs)
  frzs : ∀ b o u, H b = some (.frz o u) → H' b = some (.frz o u)
  tbls : ∀ b ps, H b = some (.tbl ps) → ∃ more, H' b = some (.tbl (ps ++ more))
section
variable {fs fs' ex ex' : List Addr} {H H1 H2 : Hp} {h h1 h2 h' : Heap} {a x e : Addr} {o : HO}
theorem Un.any (u : Un fs ex H H1 h h1) {b : Addr} {ob : Obj} (q : h.get? b = some ob) (n : H b = none) (hx : b ∉ ex) : ∃ sl, h1.get? b = some { ob with slots := sl } := by
  by_cases hb : b ∈ fs
  · exact u.slot b ob q n hb hx
  · exact ⟨ob.slots, u.keep b ob q n hb hx⟩
theorem Un.kept (k : ∀ b u, h.get? b = some u → h'.get? b = some u) : Un fs ex H H h h' :=
  ⟨fun b ob q _ _ _ => k b ob q, fun b ob q _ _ _ => ⟨ob.slots, k b ob q⟩, fun _ _ _ n _ => n, fun b ob q _ => ⟨ob, k b ob q⟩, fun _ _ q => q, fun _ _ _ q => q, fun _ ps q => ⟨#[], by rw [q]; simp⟩⟩
theorem Un.refl : Un fs ex H H h h := Un.kept fun _ _ q => q
theorem Un.laid (k : ∀ b u, h.get? b = some u → h'.get? b = some u) (hp : h.objs.size ≤ a) (hn : H a = none) : Un fs ex H (upd H a o) h h' where
  keep := fun b u q _ _ _ => k b u q
  slot := fun b u q _ _ _ => ⟨u.slots, k b u q⟩
  free := fun b u q n _ => by rw [upd_ne (Nat.ne_of_lt (Nat.lt_of_lt_of_le (Heap.lt_size q) hp))]; exact n
  there := fun b u q _ => ⟨u, k b u q⟩
  tups := fun b xs q => by rw [upd_ne (ne_of_none q hn)]; exact q
  frzs := fun b u xs q => by rw [upd_ne (ne_of_none q hn)]; exact q
  tbls := fun b ps q => ⟨#[], by rw [upd_ne (ne_of_none q hn), q]; simp⟩
theorem Un.write (mu : Mut (H x)) (he : e = x ∨ H e = some (.own x)) (k : ∀ b u, b ≠ e → h.get? b = some u → h'.get? b = some u) (heo : ∃ u, h'.get? e = some u) : Un fs ex H (upd H x o) h h' := by
  have hx : ∀ b, H b = none → b ≠ x := fun b n z => by subst z; rw [n] at mu; exact mu
  have hb : ∀ b, H b = none → b ≠ e := fun b n z => by
    subst z
    rcases he with r | r
    · exact hx b n r
    · rw [n] at r; cases r
  have hm : ∀ b u, H b = some u → ¬ Mut (some u) → b ≠ x := fun b u q nm z => by subst z; rw [q] at mu; exact nm mu
  refine ⟨fun b u q n _ _ => k b u (hb b n) q, fun b u q n _ _ => ⟨u.slots, k b u (hb b n) q⟩, fun b u q n _ => by rw [upd_ne (hx b n)]; exact n, fun b u q _ => ?_,
    fun b xs q => by rw [upd_ne (hm b _ q fun z => z)]; exact q, fun b u xs q => by rw [upd_ne (hm b _ q fun z => z)]; exact q, fun b ps q => ⟨#[], by rw [upd_ne (hm b _ q fun z => z), q]; simp⟩⟩
  by_cases hbe : b = e
  · subst hbe; exact heo
  · exact ⟨u, k b u hbe q⟩
end

noncomputable def trk (h : Heap) (H : Hp) : List Addr := (List.range h.objs.size).filter fun a => (H a).isSome
noncomputable def hidT (h : Heap) (H : Hp) : Heap := PySem.W.hideAll h (trk h H)
theorem hidT_size (h : Heap) (H : Hp) : (hidT h H).objs.size = h.objs.size := PySem.W.hideAll_size _ _
theorem hidT_get {h : Heap} {H : Hp} {b : Addr} {o : Obj} (e : h.get? b = some o) (n : H b = none) : (hidT h H).get? b = some o :=
  PySem.W.hideAll_get _ e fun hm => by
    have q : (H b).isSome = true := (List.mem_filter.mp hm).2
    rw [n] at q; simp at q
theorem of_hidT {h : Heap} {H : Hp} {b : Addr} {o : Obj} (e : (hidT h H).get? b = some o) : h.get? b = some o ∧ H b = none := by
  have e' : h.get? b = some o := PySem.W.of_hideAll (trk h H) e
  refine ⟨e', ?_⟩
  cases q : H b with
  | none => rfl
  | some x =>
    have hm : b ∈ trk h H := List.mem_filter.mpr ⟨List.mem_range.mpr (Heap.lt_size e'), by simp [q]⟩
    have z : (hidT h H).get? b = none := PySem.W.hideAll_none (trk h H) hm
    rw [z] at e; cases e

noncomputable def allNews (g h : Heap) (L : Addr) : List (Addr × Obj) := (List.range h.objs.size).filterMap fun a => if a = L ∨ (g.get? a).isSome = true then none else (h.get? a).map fun o => (a, o)
noncomputable def rest (g h : Heap) (L d : Addr) : List (Addr × Obj) := (allNews g h L).filter fun p => decide (p.1 ≠ d)
end L2

namespace L2
open PySem PySem.Spec PyProof.Rows

structure Mod (K : PySem.W.Frag) (mg : Str → Option Value) (base : Heap) : Prop where
  kin : K.In base
  glob : base.Ns mainGlobals mg
  blt : ∃ mb, base.Ns builtinsNs mb ∧ ∀ x : Str, x ≠ "__name__" → mb x = bootBuiltins x
  nolimit : base.NoLimit

structure Cx where
  prog : Program
  w : World
  K : PySem.W.Frag
  mg : Str → Option Value
  base : Heap
  A : Around
  N : List Str
  s_0 : Shared
  H_0 : Hp
  env : Env
  outer : List Env
  stack : List Env
  ex : List Addr
  fn : Str → Bool
  calm : Bool
  pn : List (Addr × Obj)
  xe : Value → Shared → Prop
noncomputable def frs (l : List Env) : List Addr := l.filterMap (·.frame)
noncomputable abbrev Cx.fs (X : Cx) : List Addr := frs X.outer

noncomputable def Vis (sc : Scope) (x : Str) : Prop := sc.names.lookup x = some .local ∨ sc.names.lookup x = some .cell ∨ sc.names.lookup x = some .free
noncomputable def Loc (sc : Scope) (x : Str) : Prop := sc.names.lookup x = some .local ∨ sc.names.lookup x = some .cell
noncomputable def Look (env : Env) (h : Heap) (m : Str → Option Value) (x : Str) (u : Value) : Prop :=
  (env.kindOf x = some .local ∧ m x = some u) ∨ ((env.kindOf x = some .cell ∨ env.kindOf x = some .free) ∧ ∃ c, env.cells.lookup x = some c ∧ h.IsCell c (some u))

structure Cx.Ok (X : Cx) : Prop where
  mod : Mod X.K X.mg X.base
  kind : X.env.scope.kind = .function
  glob : X.env.globals = mainGlobals
  blt : X.env.builtins = builtinsNs
  above : X.s_0.heap.objs.size ≤ X.env.locals
  inj : ∀ x y c, X.env.cells.lookup x = some c → X.env.cells.lookup y = some c → x = y
  has : ∀ x, (X.env.kindOf x = some .cell ∨ X.env.kindOf x = some .free) → ∃ c, X.env.cells.lookup x = some c
  cab : ∀ x c, X.fn x = true → X.env.cells.lookup x = some c → X.s_0.heap.objs.size ≤ c
  hd : X.calm = true → X.A.handled = none
  frames : X.A.frames = some X.stack
  stk : X.stack = X.outer ∨ (X.stack = X.env :: X.outer ∧ X.env.frame = some X.env.locals)
  exf : ∀ b ∈ X.ex, b ≠ X.env.locals ∧ ∀ x c, X.env.cells.lookup x = some c → c ≠ b
  bs : ∀ b o, X.base.get? b = some o → X.s_0.heap.get? b = some o ∧ X.H_0 b = none
  bsz : X.base.objs.size ≤ X.s_0.heap.objs.size
  noex : ∀ b o, X.base.get? b = some o → b ∉ X.ex
  exfs : ∀ b ∈ X.ex, b ∉ X.fs
  funs : X.s_0.heap.FunFrames X.base X.outer
  frf : ∀ b ∈ X.fs, X.H_0 b = none

structure Inv (X : Cx) (pins : List (Addr × Obj)) (σ : List (Option V)) (H : Hp) (s : Shared) : Prop where
  ok : X.Ok
  os : s.os = X.s_0.os
  bare : AllBare s.gens
  base : Un X.fs X.ex X.H_0 H X.s_0.heap s.heap
  loc : ∃ m, s.heap.Ns X.env.locals m ∧ ∀ (i : Nat) (x : Str) (v : V), X.N[i]? = some x → σ[i]? = some (some v) → Vis X.env.scope x → ∃ u, RelV v u ∧ Look X.env s.heap m x u
  cell : ∀ x c, X.env.cells.lookup x = some c → ∃ v, s.heap.IsCell c v
  free : H X.env.locals = none
  freeC : ∀ x c, X.env.cells.lookup x = some c → H c = none
  pin : ∀ p ∈ X.pn ++ pins, s.heap.get? p.1 = some p.2 ∧ H p.1 = none ∧ p.1 ≠ X.env.locals ∧ p.1 ∉ X.fs ∧ ∀ v, p.2.data ≠ .cell v
  hok : HOk X.prog X.w H s.heap
  len : σ.length = X.N.length

section
variable {X : Cx} {pins : List (Addr × Obj)} {σ : List (Option V)} {H H' : Hp} {s : Shared} {h' : Heap}

theorem Cx.Ok.nofr (ok : X.Ok) {b : Addr} {o : Obj} (e : X.base.get? b = some o) : b ∉ X.fs := fun hb => by
  have := (ok.funs.mem hb).1
  rw [e] at this; cases this
theorem Inv.bs (I : Inv X pins σ H s) : ∀ b o, X.base.get? b = some o → s.heap.get? b = some o ∧ H b = none := fun b o e =>
  ⟨I.base.keep b o (I.ok.bs b o e).1 (I.ok.bs b o e).2 (I.ok.nofr e) (I.ok.noex b o e), I.base.free b o (I.ok.bs b o e).1 (I.ok.bs b o e).2 (I.ok.noex b o e)⟩
theorem Inv.bk (I : Inv X pins σ H s) : ∀ b o, X.base.get? b = some o → s.heap.get? b = some o := fun b o e => (I.bs b o e).1
theorem Inv.mod (I : Inv X pins σ H s) : Mod X.K X.mg X.base := I.ok.mod
theorem Inv.kIn (I : Inv X pins σ H s) : X.K.In s.heap := I.ok.mod.kin.keeps I.bk
theorem Inv.nolimit (I : Inv X pins σ H s) : s.heap.NoLimit := I.ok.mod.nolimit.keeps I.bk
theorem Inv.fr (I : Inv X pins σ H s) : ∃ m, Fr X.base X.env.locals s.heap m :=
  let ⟨m, hn, _⟩ := I.loc
  ⟨m, hn, I.bk, Nat.le_trans I.ok.bsz I.ok.above⟩
theorem Inv.lt (I : Inv X pins σ H s) : X.env.locals < s.heap.objs.size := let ⟨_, hn, _⟩ := I.loc; hn.lt
theorem Inv.sz (I : Inv X pins σ H s) : X.s_0.heap.objs.size ≤ s.heap.objs.size := Nat.le_trans I.ok.above (Nat.le_of_lt I.lt)
theorem Inv.nofs (I : Inv X pins σ H s) {a : Addr} (h : s.heap.objs.size ≤ a) : a ∉ X.fs := fun hb => by
  obtain ⟨_, o, ho, _⟩ := I.ok.funs.mem hb
  exact absurd (Nat.lt_of_lt_of_le (Heap.lt_size ho) (Nat.le_trans I.sz h)) (Nat.lt_irrefl _)
theorem Inv.cne (I : Inv X pins σ H s) : ∀ x c, X.env.cells.lookup x = some c → c ≠ X.env.locals := fun x c e z => by
  obtain ⟨v, o, ho, hd⟩ := I.cell x c e
  obtain ⟨m, ⟨o', es, ep, ho', hd', _⟩, _⟩ := I.loc
  rw [z, ho'] at ho; cases ho; rw [hd'] at hd; cases hd
theorem Inv.funs (I : Inv X pins σ H s) : s.heap.FunFrames X.base X.outer := by
  have all : ∀ (l : List Env), (∀ b ∈ frs l, b ∈ X.fs) → X.s_0.heap.FunFrames X.base l → s.heap.FunFrames X.base l := by
    intro l
    induction l with
    | nil => intro _ _; trivial
    | cons env r ih =>
      intro hs hl
      obtain ⟨hk, ⟨L, o, hf, hn, ho, hd⟩, hr⟩ := hl
      have hL : L ∈ X.fs := hs L (by unfold frs; rw [List.filterMap_cons, hf]; exact List.mem_cons_self)
      obtain ⟨sl, e⟩ := I.base.slot L o ho (I.ok.frf L hL) hL fun z => I.ok.exfs L z hL
      exact ⟨hk, ⟨L, _, hf, hn, e, hd⟩, ih (fun b hb => hs b (by unfold frs; rw [List.filterMap_cons, hf]; exact List.mem_cons_of_mem _ hb)) hr⟩
  exact all X.outer (fun _ hb => hb) I.ok.funs

theorem Inv.stack (I : Inv X pins σ H s) : s.heap.FunFrames X.base X.stack := by
  rcases I.ok.stk with e | ⟨e, hf⟩
  · rw [e]; exact I.funs
  · rw [e]
    obtain ⟨m, hn, _⟩ := I.loc
    refine .cons (by rw [I.ok.kind]; decide) hf hn ?_ I.funs
    exact Heap.get?_none_of_le (Nat.le_trans I.ok.bsz I.ok.above)
theorem Inv.stkSub (I : Inv X pins σ H s) : ∀ b ∈ frs X.stack, b ∈ X.env.locals :: X.fs := fun b hb => by
  rcases I.ok.stk with e | ⟨e, hf⟩
  · rw [e] at hb; exact List.mem_cons_of_mem _ hb
  · rw [e] at hb
    unfold frs at hb
    rw [List.filterMap_cons, hf] at hb
    exact hb
theorem Inv.stkFree (I : Inv X pins σ H s) : ∀ b ∈ frs X.stack, H b = none := fun b hb => by
  rcases List.mem_cons.mp (I.stkSub b hb) with e | hb
  · rw [e]; exact I.free
  · obtain ⟨_, o, ho, _⟩ := I.ok.funs.mem hb
    exact I.base.free b o ho (I.ok.frf b hb) fun z => I.ok.exfs b z hb

theorem Inv.step {g' : Array GenState} {t' : Nat} {d' : Drawn} {ch : List Addr} (I : Inv X pins σ H s)
    (hch : ∀ b ∈ ch, (b ∈ X.ex ∨ X.s_0.heap.objs.size ≤ b) ∧ b ≠ X.env.locals ∧ (∀ x c, X.env.cells.lookup x = some c → c ≠ b) ∧ ∀ p ∈ X.pn ++ pins, p.1 ≠ b)
    (keep : ∀ b o, b ≠ X.env.locals → b ∉ X.fs → b ∉ ch → s.heap.get? b = some o → H b = none → h'.get? b = some o)
    (slot : ∀ b o, b ≠ X.env.locals → b ∈ X.fs → b ∉ ch → s.heap.get? b = some o → H b = none → ∃ sl, h'.get? b = some { o with slots := sl }) (free : ∀ b o, b ∉ ch → s.heap.get? b = some o → H b = none → H' b = none)
    (there : ∀ b o, b ∉ ch → s.heap.get? b = some o → ∃ o', h'.get? b = some o')
    (tups : ∀ b xs, H b = some (.tup xs) → H' b = some (.tup xs)) (frzs : ∀ b o u, H b = some (.frz o u) → H' b = some (.frz o u)) (tbls : ∀ b ps, H b = some (.tbl ps) → ∃ more, H' b = some (.tbl (ps ++ more)))
    (ns : ∀ m, s.heap.Ns X.env.locals m → h'.Ns X.env.locals m) (hok : HOk X.prog X.w H' h') (hg : AllBare g') :
    Inv X pins σ H' { s with heap := h', gens := g', drawn := d', toks := t' } := by
  have neL : ∀ b o, X.s_0.heap.get? b = some o → b ≠ X.env.locals := fun b o e => Nat.ne_of_lt (Nat.lt_of_lt_of_le (Heap.lt_size e) I.ok.above)
  have neC : ∀ b o, X.s_0.heap.get? b = some o → b ∉ X.ex → b ∉ ch := fun b o e hx hb => by
    rcases (hch b hb).1 with z | z
    · exact hx z
    · exact absurd (Nat.lt_of_lt_of_le (Heap.lt_size e) z) (Nat.lt_irrefl _)
  have cellK : ∀ x c, X.env.cells.lookup x = some c → ∀ v, s.heap.IsCell c v → h'.IsCell c v := fun x c e v ⟨o, ho, hd⟩ => by
    have nch : c ∉ ch := fun z => (hch c z).2.2.1 x c e rfl
    by_cases hc : c ∈ X.fs
    · obtain ⟨sl, q⟩ := slot c o (I.cne x c e) hc nch ho (I.freeC x c e)
      exact ⟨_, q, hd⟩
    · exact ⟨o, keep c o (I.cne x c e) hc nch ho (I.freeC x c e), hd⟩
  refine ⟨I.ok, I.os, hg, ⟨fun b o e n hb hx => ?_, fun b o e n hb hx => ?_, fun b o e n hx => ?_, fun b o e hx => ?_, fun b xs e => tups b xs (I.base.tups b xs e), fun b o xs e => frzs b o xs (I.base.frzs b o xs e), fun b ps e => ?_⟩, ?_, fun x c e => ?_, ?_, fun x c e => ?_, fun p hp => ?_, hok, I.len⟩
  · exact keep b o (neL b o e) hb (neC b o e hx) (I.base.keep b o e n hb hx) (I.base.free b o e n hx)
  · obtain ⟨sl, e1⟩ := I.base.slot b o e n hb hx
    obtain ⟨sl', e2⟩ := slot b _ (neL b o e) hb (neC b o e hx) e1 (I.base.free b o e n hx)
    exact ⟨sl', e2⟩
  · obtain ⟨o', e1⟩ := I.base.there b o e hx
    exact free b o' (neC b o e hx) e1 (I.base.free b o e n hx)
  · obtain ⟨o', e1⟩ := I.base.there b o e hx
    exact there b o' (neC b o e hx) e1
  · obtain ⟨m1, e1⟩ := I.base.tbls b ps e
    obtain ⟨m2, e2⟩ := tbls b _ e1
    exact ⟨m1 ++ m2, by rw [e2, Array.append_assoc]⟩
  · obtain ⟨m, hn, hl⟩ := I.loc
    refine ⟨m, ns m hn, fun i x v e1 e2 e3 => ?_⟩
    obtain ⟨u, r, l⟩ := hl i x v e1 e2 e3
    refine ⟨u, r, ?_⟩
    rcases l with l | ⟨k, c, e, z⟩
    · exact .inl l
    · exact .inr ⟨k, c, e, cellK x c e _ z⟩
  · obtain ⟨v, z⟩ := I.cell x c e
    exact ⟨v, cellK x c e v z⟩
  · obtain ⟨m, ⟨o, _, _, ho, _⟩, _⟩ := I.loc
    exact free _ o (fun z => (hch _ z).2.1 rfl) ho I.free
  · obtain ⟨v, o, ho, hd⟩ := I.cell x c e
    exact free c o (fun z => (hch c z).2.2.1 x c e rfl) ho (I.freeC x c e)
  · obtain ⟨e, n, ne, nf, d⟩ := I.pin p hp
    have nch : p.1 ∉ ch := fun z => (hch p.1 z).2.2.2 p hp rfl
    exact ⟨keep p.1 p.2 ne nf nch e n, free p.1 p.2 nch e n, ne, nf, d⟩
theorem Inv.un {t' : Nat} (I : Inv X pins σ H s) (u : Un X.fs [] H H' s.heap h') (hok : HOk X.prog X.w H' h') : Inv X pins σ H' { s with heap := h', toks := t' } := by
  obtain ⟨m, ⟨o, es, ep, ho, r⟩, _⟩ := id I.loc
  obtain ⟨sl, hL⟩ := u.any ho I.free (by simp)
  exact I.step (g' := s.gens) (d' := s.drawn) (ch := []) (fun _ z => nomatch z) (fun b o _ hb _ e n => u.keep b o e n hb (by simp)) (fun b o _ hb _ e n => u.slot b o e n hb (by simp)) (fun b o _ e n => u.free b o e n (by simp)) (fun b o _ e => u.there b o e (by simp)) u.tups u.frzs u.tbls (fun m' hm => by
    obtain ⟨o', es', ep', ho', r'⟩ := hm
    rw [ho] at ho'; cases ho'
    exact ⟨_, es', ep', hL, r'⟩) hok I.bare
theorem Inv.call {g' : Array GenState} {t' : Nat} {d' : Drawn} {ch : List Addr} (I : Inv X pins σ H s) (u : Un (frs X.stack) ch H H' s.heap h') (hok : HOk X.prog X.w H' h') (hg : AllBare g')
    (hch : ∀ b ∈ ch, (b ∈ X.ex ∨ X.s_0.heap.objs.size ≤ b) ∧ b ≠ X.env.locals ∧ (∀ x c, X.env.cells.lookup x = some c → c ≠ b) ∧ ∀ p ∈ X.pn ++ pins, p.1 ≠ b) :
    Inv X pins σ H' { s with heap := h', gens := g', drawn := d', toks := t' } := by
  obtain ⟨m, ⟨o, es, ep, ho, r⟩, _⟩ := id I.loc
  obtain ⟨sl, hL⟩ := u.any ho I.free fun z => (hch _ z).2.1 rfl
  exact I.step (ch := ch) hch (fun b o hL hb hc e n => u.keep b o e n (fun z => (List.mem_cons.mp (I.stkSub b z)).elim hL hb) hc) (fun b o _ _ hc e n => u.any e n hc) (fun b o hc e n => u.free b o e n hc) (fun b o hc e => u.there b o e hc) u.tups u.frzs u.tbls (fun m' hm => by
    obtain ⟨o', es', ep', ho', r'⟩ := hm
    rw [ho] at ho'; cases ho'
    exact ⟨_, es', ep', hL, r'⟩) hok hg
theorem Inv.turned {t' : Nat} {it : Addr} (I : Inv X pins σ H s) (k : ∀ b o, b ≠ it → s.heap.get? b = some o → h'.get? b = some o) (hn : H it = none) (hL : it ≠ X.env.locals)
    (h1 : it ∈ X.ex ∨ X.s_0.heap.objs.size ≤ it) (h2 : ∀ x c, X.env.cells.lookup x = some c → c ≠ it) (h3 : ∀ p ∈ X.pn ++ pins, p.1 ≠ it) : Inv X pins σ H { s with heap := h', toks := t' } := by
  have nit : ∀ b u, H b = some u → b ≠ it := fun b u e z => by rw [z, hn] at e; cases e
  refine I.step (g' := s.gens) (d' := s.drawn) (ch := [it]) (fun b hb => ?_) (fun b o _ _ hc e _ => k b o (fun z => hc (by simp [z])) e) (fun b o _ _ hc e _ => ⟨o.slots, k b o (fun z => hc (by simp [z])) e⟩) (fun _ _ _ _ n => n)
    (fun b o hc e => ⟨o, k b o (fun z => hc (by simp [z])) e⟩) (fun _ _ e => e) (fun _ _ _ e => e) (fun b ps e => ⟨#[], by rw [e]; simp⟩) (fun m hm => ?_) (fun b u e => ?_) I.bare
  · have e : b = it := by simpa using hb
    subst e
    exact ⟨h1, hL, h2, h3⟩
  · obtain ⟨o, es, ep, ho, r⟩ := hm
    exact ⟨o, es, ep, k _ o (Ne.symm hL) ho, r⟩
  · refine (I.hok b u e).stay (fun c v hc q => k c v ?_ q) (fun _ q => q) fun _ _ q => q
    rcases hc with z | z
    · rw [z]; exact nit b u e
    · exact nit c _ z
theorem Inv.tok (I : Inv X pins σ H s) (t : Nat) : Inv X pins σ H { s with toks := t } := I.un (h' := s.heap) (t' := t) Un.refl I.hok
theorem Inv.kept {t' : Nat} (I : Inv X pins σ H s) (k : ∀ b u, s.heap.get? b = some u → h'.get? b = some u) : Inv X pins σ H { s with heap := h', toks := t' } := I.un (Un.kept k) (I.hok.kept k)
theorem Inv.laid {a : Addr} {o : HO} {t' : Nat} (I : Inv X pins σ H s) (k : ∀ b u, s.heap.get? b = some u → h'.get? b = some u) (hp : s.heap.objs.size ≤ a) (new : ObjOk X.prog X.w (upd H a o) h' a o) :
    Inv X pins σ (upd H a o) { s with heap := h', toks := t' } := I.un (Un.laid k hp (I.hok.fresh hp)) (I.hok.laid k hp new)
theorem Inv.write {x e : Addr} {o : HO} {t' : Nat} (I : Inv X pins σ H s) (mu : Mut (H x)) (he : e = x ∨ H e = some (.own x)) (k : ∀ b u, b ≠ e → s.heap.get? b = some u → h'.get? b = some u) (heo : ∃ u, h'.get? e = some u)
    (new : ObjOk X.prog X.w (upd H x o) h' x o) : Inv X pins σ (upd H x o) { s with heap := h', toks := t' } := I.un (Un.write mu he k heo) (I.hok.write mu he k heo new)
theorem Inv.weak {σ' : List (Option V)} (I : Inv X pins σ H s) (hl : σ'.length = σ.length) (w : ∀ (i : Nat) v, σ'[i]? = some (some v) → σ[i]? = some (some v)) : Inv X pins σ' H s :=
  ⟨I.ok, I.os, I.bare, I.base, let ⟨m, hn, hl'⟩ := I.loc; ⟨m, hn, fun i x v e1 e2 e3 => hl' i x v e1 (w i v e2) e3⟩, I.cell, I.free, I.freeC, I.pin, I.hok, hl.trans I.len⟩
theorem Inv.pins_of {pins' : List (Addr × Obj)} (I : Inv X pins σ H s) (h : ∀ p ∈ pins', s.heap.get? p.1 = some p.2 ∧ H p.1 = none ∧ p.1 ≠ X.env.locals ∧ p.1 ∉ X.fs ∧ ∀ v, p.2.data ≠ .cell v) : Inv X pins' σ H s :=
  ⟨I.ok, I.os, I.bare, I.base, I.loc, I.cell, I.free, I.freeC, fun p hp => (List.mem_append.mp hp).elim (fun z => I.pin p (List.mem_append_left _ z)) (h p), I.hok, I.len⟩

theorem nodup_ix {N : List Str} (hN : N.Nodup) {i j : Nat} {x : Str} (a : N[i]? = some x) (b : N[j]? = some x) : i = j := by
  obtain ⟨h1, e1⟩ := List.getElem?_eq_some_iff.mp a
  obtain ⟨h2, e2⟩ := List.getElem?_eq_some_iff.mp b
  exact (List.getElem_inj hN).mp (e1.trans e2.symm)

theorem store_ok2 {M : Model} {A : Around} {E : Value → Shared → Prop} {i : Nat} {x : Str} {v : V} {u : Value} {Q : Unit → Shared → Prop} (I : Inv X pins σ H s) (hN : X.N.Nodup) (hi : X.N[i]? = some x) (hx : Loc X.env.scope x) (r : RelV v u)
    (h : ∀ s', Inv X pins (σ.set i (some v)) H s' → (∃ a, Heap.SameBut a s.heap s'.heap ∧ (a = X.env.locals ∨ X.env.cells.lookup x = some a)) → Q () s') (hf : X.fn x = true ∨ X.env.scope.names.lookup x = some .local := by first | exact .inl rfl | exact .inr rfl | assumption) : wpAny M A (storeName X.env x u) Q E s := by
  obtain ⟨m, hn, hl⟩ := id I.loc
  have hcls : (X.env.scope.kind == .class || (X.env.scope.kind == .module && X.env.locals != X.env.globals)) = false := by rw [I.ok.kind]; rfl
  have hiσ : i < σ.length := by rw [I.len]; exact (List.getElem?_eq_some_iff.mp hi).1
  have cne := I.cne
  have tracked : ∀ {a : Addr} {h' : Heap}, (∃ o, s.heap.get? a = some o ∧ H a = none) → Heap.SameBut a s.heap h' → HOk X.prog X.w H h' := fun {a h'} ha hs b ob e => by
    obtain ⟨_, _, hfree⟩ := ha
    refine (I.hok b ob e).stay (fun c w' hc q => (hs.2 c ?_).trans q) (fun _ q => q) fun _ _ q => q
    rintro rfl
    rcases hc with rfl | hc
    · rw [hfree] at e; cases e
    · rw [hfree] at hc; cases hc
  rcases hx with hk | hk
  · refine wpAny_storeName_local hk hn (fun h' hn' hs => ?_) hcls
    obtain ⟨oL, _, _, hoL, _⟩ := id hn
    refine h _ ⟨I.ok, I.os, I.bare, ⟨fun b o e n hb hx => ?_, fun b o e n hb hx => ?_, I.base.free, fun b o e hx => ?_, I.base.tups, I.base.frzs, I.base.tbls⟩, ⟨_, hn', fun j y v' e1 e2 e3 => ?_⟩, fun y c e => ?_, I.free, I.freeC, fun p hp => ?_, tracked ⟨oL, hoL, I.free⟩ hs, by simpa using I.len⟩ ⟨_, hs, .inl rfl⟩
    · exact (hs.2 b (Nat.ne_of_lt (Nat.lt_of_lt_of_le (Heap.lt_size e) I.ok.above))).trans (I.base.keep b o e n hb hx)
    · obtain ⟨sl, e1⟩ := I.base.slot b o e n hb hx
      exact ⟨sl, (hs.2 b (Nat.ne_of_lt (Nat.lt_of_lt_of_le (Heap.lt_size e) I.ok.above))).trans e1⟩
    · obtain ⟨o', e1⟩ := I.base.there b o e hx
      exact ⟨o', (hs.2 b (Nat.ne_of_lt (Nat.lt_of_lt_of_le (Heap.lt_size e) I.ok.above))).trans e1⟩
    · by_cases hj : j = i
      · subst hj
        rw [hi] at e1; cases e1
        rw [List.getElem?_set_self hiσ] at e2
        cases e2
        exact ⟨u, r, .inl ⟨hk, by simp⟩⟩
      · rw [List.getElem?_set_ne (Ne.symm hj)] at e2
        obtain ⟨u', r', q⟩ := hl j y v' e1 e2 e3
        refine ⟨u', r', ?_⟩
        rcases q with ⟨k, e⟩ | ⟨k, c, e, z⟩
        · refine .inl ⟨k, ?_⟩
          have : y ≠ x := fun e => hj (nodup_ix hN e1 (e ▸ hi))
          simp [this, e]
        · exact .inr ⟨k, c, e, z.sameBut hs (cne y c e)⟩
    · obtain ⟨w', z⟩ := I.cell y c e
      exact ⟨w', z.sameBut hs (cne y c e)⟩
    · obtain ⟨e, n, ne, nf, d⟩ := I.pin p hp
      exact ⟨(hs.2 p.1 ne).trans e, n, ne, nf, d⟩
  · have hfn : X.fn x = true := by
      rcases hf with z | z
      · exact z
      · rw [z] at hk; cases hk
    obtain ⟨c, hc⟩ := I.ok.has x (.inl hk)
    obtain ⟨w', z⟩ := I.cell x c hc
    refine wpAny_storeName_cell I.ok.kind hk hc z (fun h' hc' hs => ?_)
    obtain ⟨oc, hoc, hocd⟩ := id z
    refine h { s with heap := h' } ⟨I.ok, I.os, I.bare, ⟨fun b o e n hb hx => ?_, fun b o e n hb hx => ?_, I.base.free, fun b o e hx => ?_, I.base.tups, I.base.frzs, I.base.tbls⟩, ⟨m, hn.sameBut hs (Ne.symm (cne x c hc)), fun j y v' e1 e2 e3 => ?_⟩, fun y c' e => ?_, I.free, I.freeC, fun p hp => ?_, tracked ⟨oc, hoc, I.freeC x c hc⟩ hs, by simpa using I.len⟩ ⟨c, hs, .inr hc⟩
    · exact (hs.2 b (Nat.ne_of_lt (Nat.lt_of_lt_of_le (Heap.lt_size e) (I.ok.cab x c hfn hc)))).trans (I.base.keep b o e n hb hx)
    · obtain ⟨sl, e1⟩ := I.base.slot b o e n hb hx
      exact ⟨sl, (hs.2 b (Nat.ne_of_lt (Nat.lt_of_lt_of_le (Heap.lt_size e) (I.ok.cab x c hfn hc)))).trans e1⟩
    · obtain ⟨o', e1⟩ := I.base.there b o e hx
      exact ⟨o', (hs.2 b (Nat.ne_of_lt (Nat.lt_of_lt_of_le (Heap.lt_size e) (I.ok.cab x c hfn hc)))).trans e1⟩
    · by_cases hj : j = i
      · subst hj
        rw [hi] at e1; cases e1
        rw [List.getElem?_set_self hiσ] at e2
        cases e2
        exact ⟨u, r, .inr ⟨.inl hk, c, hc, hc'⟩⟩
      · rw [List.getElem?_set_ne (Ne.symm hj)] at e2
        obtain ⟨u', r', q⟩ := hl j y v' e1 e2 e3
        refine ⟨u', r', ?_⟩
        rcases q with q | ⟨k, c', e, z'⟩
        · exact .inl q
        · refine .inr ⟨k, c', e, z'.sameBut hs ?_⟩
          rintro rfl
          exact hj (nodup_ix hN e1 (I.ok.inj _ _ _ e hc ▸ hi))
    · by_cases hcc : c' = c
      · subst hcc; exact ⟨_, hc'⟩
      · obtain ⟨w2, z2⟩ := I.cell y c' e
        exact ⟨w2, z2.sameBut hs hcc⟩
    · obtain ⟨e, n, ne, nf, d⟩ := I.pin p hp
      refine ⟨(hs.2 p.1 ?_).trans e, n, ne, nf, d⟩
      intro q
      rw [q, hoc] at e
      have q' : oc = p.2 := Option.some.inj e
      exact d w' (by rw [← q']; exact hocd)
theorem store_ok {M : Model} {A : Around} {E : Value → Shared → Prop} {i : Nat} {x : Str} {v : V} {u : Value} {Q : Unit → Shared → Prop} (I : Inv X pins σ H s) (hN : X.N.Nodup) (hi : X.N[i]? = some x) (hx : Loc X.env.scope x) (r : RelV v u)
    (h : ∀ s', Inv X pins (σ.set i (some v)) H s' → Q () s') (hf : X.fn x = true ∨ X.env.scope.names.lookup x = some .local := by first | exact .inl rfl | exact .inr rfl | assumption) : wpAny M A (storeName X.env x u) Q E s :=
  store_ok2 I hN hi hx r (fun s' I' _ => h s' I') hf
theorem Inv.call' {s' : Shared} {ch : List Addr} (I : Inv X pins σ H s) (ho : s'.os = s.os) (u : Un (frs X.stack) ch H H' s.heap s'.heap) (hok : HOk X.prog X.w H' s'.heap) (hg : AllBare s'.gens)
    (hch : ∀ b ∈ ch, (b ∈ X.ex ∨ X.s_0.heap.objs.size ≤ b) ∧ b ≠ X.env.locals ∧ (∀ x c, X.env.cells.lookup x = some c → c ≠ b) ∧ ∀ p ∈ X.pn ++ pins, p.1 ≠ b) : Inv X pins σ H' s' := by
  obtain ⟨h', g', d', t', o'⟩ := s'
  have e : o' = s.os := ho
  subst e
  exact I.call (g' := g') (t' := t') (d' := d') u hok hg hch
end

noncomputable abbrev XK := Value → Option Addr → Hp → Prop
noncomputable abbrev St := List (Option V)
noncomputable abbrev VK := V → Hp → Prop
noncomputable abbrev TE := St → Hp → VK → Prop
noncomputable abbrev TT := St → Hp → (Bool → Hp → Prop) → Prop
noncomputable abbrev TA := St → Hp → (List V → Hp → Prop) → Prop
structure Ends where
  nx : St → Hp → Prop
  rt : VK
  bk : St → Hp → Prop := fun _ _ => False
  ct : St → Hp → Prop := fun _ _ => False
noncomputable abbrev TS := Ends → St → Hp → Prop

noncomputable def EP (X : Cx) (pins : List (Addr × Obj)) (σ : St) (Q : VK) (u : Value) (s' : Shared) : Prop := ∃ v H', Inv X pins σ H' s' ∧ RelV v u ∧ Q v H'
noncomputable def TP (X : Cx) (pins : List (Addr × Obj)) (σ : St) (Q : Bool → Hp → Prop) (b : Bool) (s' : Shared) : Prop := ∃ H', Inv X pins σ H' s' ∧ Q b H'
noncomputable def AP (X : Cx) (pins : List (Addr × Obj)) (σ : St) (Q : List V → Hp → Prop) (us : List Value) (s' : Shared) : Prop := ∃ vs H', Inv X pins σ H' s' ∧ Vals vs us ∧ Q vs H'
noncomputable def SP (X : Cx) (pins : List (Addr × Obj)) (D : Ends) (f : Flow) (s' : Shared) : Prop :=
  match f with
  | .next => ∃ σ' H', Inv X pins σ' H' s' ∧ D.nx σ' H'
  | .brk => ∃ σ' H', Inv X pins σ' H' s' ∧ D.bk σ' H'
  | .cont => ∃ σ' H', Inv X pins σ' H' s' ∧ D.ct σ' H'
  | .ret u => ∃ v σ' H', Inv X pins σ' H' s' ∧ RelV v u ∧ D.rt v H'

noncomputable def PE (X : Cx) (e : Expr) (t : TE) : Prop :=
  ∀ (pins : List (Addr × Obj)) (s : Shared) (σ : St) (H : Hp) (Q : VK), Inv X pins σ H s → t σ H Q → wpAny (model X.prog X.w) X.A (eval e X.env) (EP X pins σ Q) X.xe s
noncomputable def PT (X : Cx) (e : Expr) (t : TT) : Prop :=
  ∀ (pins : List (Addr × Obj)) (s : Shared) (σ : St) (H : Hp) (Q : Bool → Hp → Prop), Inv X pins σ H s → t σ H Q → wpAny (model X.prog X.w) X.A (isTrue e X.env (eval e X.env)) (TP X pins σ Q) X.xe s
noncomputable def PW (X : Cx) (e : Expr) (t : TT) : Prop :=
  ∀ (whole : Sem Value) (pins : List (Addr × Obj)) (s : Shared) (σ : St) (H : Hp) (Q : Bool → Hp → Prop), Inv X pins σ H s → t σ H Q → wpAny (model X.prog X.w) X.A (isTrue e X.env whole) (TP X pins σ Q) X.xe s
theorem PW.pt {X : Cx} {e : Expr} {t : TT} (h : PW X e t) : PT X e t := h _
noncomputable def PA (X : Cx) (es : List Expr) (t : TA) : Prop :=
  ∀ (pos : Pos) (pins : List (Addr × Obj)) (s : Shared) (σ : St) (H : Hp) (Q : List V → Hp → Prop), Inv X pins σ H s → t σ H Q → wpAny (model X.prog X.w) X.A (spliced (backTo pos (starEach es X.env))) (AP X pins σ Q) X.xe s
noncomputable def PS (X : Cx) (st : Stmt) (t : TS) : Prop :=
  ∀ (pins : List (Addr × Obj)) (s : Shared) (σ : St) (H : Hp) (D : Ends), Inv X pins σ H s → t D σ H → wpAny (model X.prog X.w) X.A (exec st X.env) (SP X pins D) X.xe s
noncomputable def PSs (X : Cx) (st : List Stmt) (t : TS) : Prop :=
  ∀ (pins : List (Addr × Obj)) (s : Shared) (σ : St) (H : Hp) (D : Ends), Inv X pins σ H s → t D σ H → wpAny (model X.prog X.w) X.A (execs st X.env) (SP X pins D) X.xe s
theorem thn {α : Type} {t : Sem α} {Q Q' : α → Shared → Prop} {M : Model} {A : Around} {E : Value → Shared → Prop} {s : Shared} (h : wpAny M A t Q E s) (hQ : ∀ a s, Q a s → Q' a s) : wpAny M A t Q' E s := wpAny_mono h hQ fun _ _ x => x
end L2

namespace L2
open PySem PySem.Spec PyProof.Rows
section
variable {X : Cx}

theorem bin {a b : Expr} {ta tb : TE} (ha : PE X a ta) (hb : PE X b tb) {pins : List (Addr × Obj)} {s : Shared} {σ : St} {H : Hp} {R : V → V → Hp → Prop} (I : Inv X pins σ H s) (h : ta σ H fun x H1 => tb σ H1 fun y H2 => R x y H2)
    {α : Type} {Q : α → Shared → Prop} {f : Value → Value → Sem α}
    (hf : ∀ v u s2 x y H2, Inv X pins σ H2 s2 → RelV x v → RelV y u → R x y H2 → wpAny (model X.prog X.w) X.A (f v u) Q X.xe s2) :
    wpAny (model X.prog X.w) X.A (eval a X.env) (fun v s₁ => wpAny (model X.prog X.w) X.A (eval b X.env) (fun u s₂ => wpAny (model X.prog X.w) X.A (f v u) Q X.xe s₂) X.xe s₁) X.xe s := by
  refine thn (ha pins s σ H _ I h) fun v s1 zq => ?_
  obtain ⟨x, H1, I1, r1, q1⟩ := zq
  refine thn (hb pins s1 σ H1 _ I1 q1) fun u s2 zq => ?_
  obtain ⟨y, H2, I2, r2, q2⟩ := zq
  exact hf v u s2 x y H2 I2 r1 r2 q2

noncomputable def tVar (i : Nat) : TE := fun σ H Q => ∃ v, σ[i]? = some (some v) ∧ Q v H
noncomputable def tC (v : V) : TE := fun _ H Q => Q v H
theorem pe_var {i : Nat} {x : Str} {pos : Pos} (hN : X.N[i]? = some x) (hv : Vis X.env.scope x) (hd : (x == ("__debug__" : Str)) = false := by decide) (hcd : (x == ("__classdict__" : Str)) = false := by decide) : PE X (.Name x pos) (tVar i) := by
  intro pins s σ H Q I h
  obtain ⟨v, e, h⟩ := h
  obtain ⟨m, hn, hl⟩ := I.loc
  obtain ⟨u, r, l⟩ := hl i x v hN e hv
  have fin : EP X pins σ Q u s := ⟨v, H, I, r, h⟩
  rcases l with ⟨hk, hm⟩ | ⟨hk, c, hc, hcell⟩
  · exact wpAny_Name (wpAny_loadName_local I.ok.kind hk hn hm fin) hd
  · rcases hk with hk | hk
    · exact wpAny_Name (wpAny_loadName_cell I.ok.kind hk hc hcell fin) hd
    · exact wpAny_Name (wpAny_loadName_free I.ok.kind hk hc hcell fin hcd) hd
theorem pe_int {i j pos} : PE X (.Constant (.int i) j pos) (tC (.int i)) := fun _ _ _ H _ I h => wpAny_Constant_int ⟨.int i, H, I.tok _, ⟨_, rfl⟩, h⟩
theorem pe_bl {b j pos} : PE X (.Constant (.bool b) j pos) (tC (.bl b)) := fun _ _ _ H _ I h => Constant_bool ⟨.bl b, H, I, rfl, h⟩
theorem pe_non {j pos} : PE X (.Constant .none j pos) (tC .non) := fun _ _ _ H _ I h => Constant_none ⟨.non, H, I, rfl, h⟩
noncomputable def Gl (X : Cx) (x : Str) : Prop := X.env.kindOf x = some .globalImplicit
theorem ld_glob {E : Value → Shared → Prop} {pins : List (Addr × Obj)} {s : Shared} {σ : St} {H : Hp} {x : Str} {u : Value} {pos : Pos} {Q : Value → Shared → Prop} (I : Inv X pins σ H s) (hg : Gl X x) (hm : X.mg x = some u) (h : Q u s)
    (hd : (x == ("__debug__" : Str)) = false := by decide) : wpAny (model X.prog X.w) X.A (eval (.Name x pos) X.env) Q E s :=
  Calls.Name_function_global I.ok.kind hg (Calls.loadGlobal_global (by rw [I.ok.glob]; exact I.mod.glob.keeps I.bk) hm h) hd
theorem ld_blt {E : Value → Shared → Prop} {pins : List (Addr × Obj)} {s : Shared} {σ : St} {H : Hp} {x : Str} {u : Value} {pos : Pos} {Q : Value → Shared → Prop} (I : Inv X pins σ H s) (hg : Gl X x) (hm : X.mg x = none) (hv : bootBuiltins x = some u) (h : Q u s)
    (hn : x ≠ "__name__" := by decide) (hd : (x == ("__debug__" : Str)) = false := by decide) : wpAny (model X.prog X.w) X.A (eval (.Name x pos) X.env) Q E s := by
  obtain ⟨mb, h1, h2⟩ := I.mod.blt
  exact Calls.Name_function_global I.ok.kind hg (Calls.loadGlobal_builtin (by rw [I.ok.glob]; exact I.mod.glob.keeps I.bk) hm (by rw [I.ok.blt]; exact h1.keeps I.bk) ((h2 x hn).trans hv) h) hd
theorem pe_glob {x : Str} {v : V} {u : Value} {pos : Pos} (hg : Gl X x) (hm : X.mg x = some u) (r : RelV v u) (hd : (x == ("__debug__" : Str)) = false := by decide) : PE X (.Name x pos) (tC v) :=
  fun _ _ _ H _ I h => ld_glob I hg hm ⟨v, H, I, r, h⟩ hd
variable {a b : Expr} {ta tb : TE} {pos : Pos}
noncomputable def PC (X : Cx) (op : CmpOp) (a b : Expr) (t : TE) : Prop :=
  ∀ (pins : List (Addr × Obj)) (s : Shared) (σ : St) (H : Hp) (Q : VK), Inv X pins σ H s → t σ H Q →
    wpAny (model X.prog X.w) X.A (eval a X.env) (fun v s₁ => wpAny (model X.prog X.w) X.A (eval b X.env) (fun u s₂ => wpAny (model X.prog X.w) X.A (compareOp op v u) (EP X pins σ Q) X.xe s₂) X.xe s₁) X.xe s
theorem nobehind (b : Expr) {op : CmpOp} (h : op ≠ .In) (h2 : op ≠ .NotIn) : behindInMarks op b = false := by
  have e1 : (op == CmpOp.In) = false := by cases op <;> first | rfl | exact absurd rfl h
  have e2 : (op == CmpOp.NotIn) = false := by cases op <;> first | rfl | exact absurd rfl h2
  cases b <;> simp [behindInMarks, e1, e2]
noncomputable def tIsN (ta : TE) : TE := fun σ H Q => ta σ H fun x H1 => Q (.bl (decide (x = .non))) H1
theorem RelV.none_iff {x : V} {v : Value} (r : RelV x v) : (v == Value.none) = decide (x = .non) := by
  cases x with
  | non => cases r; rfl
  | bl _ => cases r; rfl
  | int _ => obtain ⟨t, rfl⟩ := r; rfl
  | str _ => obtain ⟨t, rfl⟩ := r; rfl
  | byt _ => obtain ⟨t, rfl⟩ := r; rfl
  | flt _ => obtain ⟨t, rfl⟩ := r; rfl
  | ref _ => cases r; rfl
  | ty _ => cases r; rfl
theorem pc_isN {j pos'} (ha : PE X a ta) : PC X .Is a (.Constant .none j pos') (tIsN ta) := by
  intro pins s σ H Q I h
  refine thn (ha pins s σ H _ I h) fun v s1 zq => ?_
  obtain ⟨x, H1, I1, r1, q1⟩ := zq
  exact Constant_none (is_none_gen ⟨.bl _, H1, I1, by rw [r1.none_iff]; rfl, q1⟩)
noncomputable def tB (t : TE) : TT := fun σ H Q => t σ H fun x H1 => ∃ c, x = .bl c ∧ Q c H1
theorem pt_cmp {op : CmpOp} {t : TE} (h : PC X op a b t) (h1 : behindInMarks op b = false := by first | exact nobehind _ (by decide) (by decide) | rfl) : PT X (.Compare a [op] [b] pos) (tB t) := by
  intro pins s σ H Q I hw
  refine wpAny_isTrue_Compare1 (thn (h pins s σ H _ I hw) fun v s1 h1 => thn h1 fun u s2 h2 => thn h2 fun c s3 zq => ?_) h1
  obtain ⟨x, H1, I1, r1, q1⟩ := zq
  obtain ⟨d, rfl, q⟩ := q1
  cases r1
  exact wpAny_truthy_bool ⟨H1, I1, q⟩
theorem pt_val {e : Expr} {t : TE} (h : PE X e t) (he : ∀ whole, isTrue e X.env whole = (do let v ← whole; standAt e.pos; holding [v] (truthy v)) := by intro _; rfl) : PT X e (tB t) := by
  intro pins s σ H Q I hw
  refine isTrue_plain (thn (h pins s σ H _ I hw) fun v s1 zq => ?_) (he _)
  obtain ⟨x, H1, I1, r1, q1⟩ := zq
  obtain ⟨d, rfl, q⟩ := q1
  cases r1
  exact wpAny_truthy_bool ⟨H1, I1, q⟩

variable {tA tB' : TT} {rest : List Expr}
noncomputable def tAnd (t u : TT) : TT := fun σ H Q => t σ H fun c H1 => if c = true then u σ H1 Q else Q false H1
noncomputable def tNot (t : TT) : TT := fun σ H Q => t σ H fun c H1 => Q (!c) H1
theorem pw_and1 (ha : PT X a tA) : PW X (.BoolOp .And [a] pos) tA := by
  intro wh pins s σ H Q I h
  refine isTrue_and (thn (ha pins s σ H Q I h) fun c s1 e => ?_)
  cases c with
  | true => exact isTrue_and_nil e
  | false => exact e
theorem pw_and (ha : PT X a tA) (hb : PW X (.BoolOp .And (b :: rest) pos) tB') : PW X (.BoolOp .And (a :: b :: rest) pos) (tAnd tA tB') := by
  intro wh pins s σ H Q I h
  refine isTrue_and (thn (ha pins s σ H _ I h) fun c s1 zq => ?_)
  obtain ⟨H1, I1, q1⟩ := zq
  cases c with
  | true => exact hb wh pins s1 σ H1 Q I1 q1
  | false => exact ⟨H1, I1, q1⟩
theorem pt_not (ha : PT X a tA) : PT X (.UnaryOp .Not a pos) (tNot tA) := by
  intro pins s σ H Q I h
  exact isTrue_not (ha pins s σ H (fun c H1 => Q (!c) H1) I h)
noncomputable def tOrV (ta tb : TE) : TE := fun σ H Q => ta σ H fun x H1 => ∃ c, x = .bl c ∧ if c = true then Q (.bl true) H1 else tb σ H1 Q
theorem pe_one {op} {t : TE} (h : PE X a t) : PE X (.BoolOp op [a] pos) t := fun pins s σ H Q I hw => BoolOp_one (h pins s σ H Q I hw)
theorem pe_or (ha : PE X a ta) (hb : PE X (.BoolOp .Or (b :: rest) pos) tb) : PE X (.BoolOp .Or (a :: b :: rest) pos) (tOrV ta tb) := by
  intro pins s σ H Q I h
  refine BoolOp_or (thn (ha pins s σ H _ I h) fun v s1 zq => ?_)
  obtain ⟨x, H1, I1, r1, q1⟩ := zq
  obtain ⟨c, rfl, q1⟩ := q1
  cases r1
  refine wpAny_truthy_bool ?_
  cases c with
  | false => exact hb pins s1 σ H1 Q I1 q1
  | true => exact ⟨.bl true, H1, I1, rfl, q1⟩
noncomputable def tIf (t : TT) (ta tb : TE) : TE := fun σ H Q => t σ H fun c H1 => if c = true then ta σ H1 Q else tb σ H1 Q
theorem pe_ifExp {c : Expr} (hc : PT X c tA) (ha : PE X a ta) (hb : PE X b tb) : PE X (.IfExp c a b pos) (tIf tA ta tb) := by
  intro pins s σ H Q I h
  refine wpAny_IfExp (thn (hc pins s σ H _ I h) fun d s1 zq => ?_)
  obtain ⟨H1, I1, q1⟩ := zq
  cases d with
  | true => exact ha pins s1 σ H1 Q I1 q1
  | false => exact hb pins s1 σ H1 Q I1 q1
end
end L2

namespace L2
open PySem PySem.Spec PyProof.Rows

noncomputable def SqL (K : PySem.W.Frag) (H : Hp) (a : Addr) (xs : List V) : Prop :=
  Rd H a (.lst xs) ∨
    ∃ (o : Obj) (its : Array Value) (n : Nat), K.lookup a = some o ∧ o.cls = .type "list" ∧ o.dict = none ∧ o.data = .seq its n ∧ its.size ≤ sizeLine ∧ Vals xs its.toList
noncomputable def SqT (K : PySem.W.Frag) (H : Hp) (a : Addr) (xs : List V) : Prop :=
  Rd H a (.tup xs) ∨
    ∃ (o : Obj) (its : Array Value) (n : Nat), K.lookup a = some o ∧ o.cls = .type "tuple" ∧ o.data = .seq its n ∧ its.size ≤ sizeLine ∧ Vals xs its.toList
noncomputable def absV : Value → Option V
  | .none => some .non
  | .bool b => some (.bl b)
  | .int i _ => some (.int i)
  | .str x _ => some (.str x)
  | .bytes b _ => some (.byt b)
  | .float b _ => some (.flt b)
  | .ref a => some (.ref a)
  | .type n => some (.ty n)
  | _ => none
theorem RelV.abs {x : V} {u : Value} (r : RelV x u) : absV u = some x := by
  cases x with
  | non => cases r; rfl
  | bl _ => cases r; rfl
  | int _ => obtain ⟨t, rfl⟩ := r; rfl
  | str _ => obtain ⟨t, rfl⟩ := r; rfl
  | byt _ => obtain ⟨t, rfl⟩ := r; rfl
  | flt _ => obtain ⟨t, rfl⟩ := r; rfl
  | ref _ => cases r; rfl
  | ty _ => cases r; rfl
theorem RelV.inj {x y : V} {u : Value} (r : RelV x u) (q : RelV y u) : x = y := Option.some.inj (r.abs.symm.trans q.abs)
theorem Vals.inj : ∀ {xs ys : List V} {us : List Value}, Vals xs us → Vals ys us → xs = ys
  | _, _, _, .nil, .nil => rfl
  | _, _, _, .cons r t, .cons r' t' => by rw [r.inj r', Vals.inj t t']
section
variable {X : Cx} {pins : List (Addr × Obj)} {σ : St} {H : Hp} {s : Shared} {a : Addr} {xs ys : List V}
theorem SqL.of {K : PySem.W.Frag} (h : H a = some (.lst xs)) : SqL K H a xs := .inl (.inl h)
theorem SqT.of {K : PySem.W.Frag} (h : H a = some (.tup xs)) : SqT K H a xs := .inl (.inl h)
theorem Inv.list (I : Inv X pins σ H s) (h : SqL X.K H a xs) : ∃ its : List Value, Vals xs its ∧ PlainL s.heap a its.toArray ∧ xs.length ≤ sizeLine := by
  rcases h with h | ⟨o, its, n, hk, hc, hd, hs, hz, r⟩
  · obtain ⟨z, its, n, r, e⟩ := h.ok I.hok
    exact ⟨its, r, ⟨_, n, e, rfl, rfl, rfl⟩, z⟩
  · refine ⟨its.toList, r, ⟨o, n, I.kIn a o hk, hc, hd, by simpa using hs⟩, ?_⟩
    have e := r.length
    simp only [Array.length_toList] at e
    omega
theorem Inv.tuple (I : Inv X pins σ H s) (h : SqT X.K H a xs) : ∃ its : List Value, Vals xs its ∧ IsTup s.heap a its.toArray ∧ xs.length ≤ sizeLine := by
  rcases h with h | ⟨o, its, n, hk, hc, hs, hz, r⟩
  · obtain ⟨z, its, r, p⟩ := h.ok I.hok
    exact ⟨its, r, p, z⟩
  · refine ⟨its.toList, r, ⟨o, I.kIn a o hk, hc, n, by simpa using hs⟩, ?_⟩
    have e := r.length
    simp only [Array.length_toList] at e
    omega
theorem Inv.list_inj (I : Inv X pins σ H s) (h : SqL X.K H a xs) (h' : SqL X.K H a ys) : xs = ys := by
  obtain ⟨its, r, ⟨o, n, e, _, _, d⟩, _⟩ := I.list h
  obtain ⟨its', r', ⟨o', n', e', _, _, d'⟩, _⟩ := I.list h'
  rw [e] at e'; cases e'
  rw [d] at d'
  injection d' with d1 _
  have : its = its' := by simpa using congrArg Array.toList d1
  subst this
  exact r.inj r'
end

noncomputable abbrev Cx.wish (X : Cx) (E : Value → Shared → Prop) : Cx := { X with xe := E }
noncomputable abbrev Cx.nox (X : Cx) : Cx := X.wish fun _ _ => False
theorem Cx.Ok.wish {X : Cx} (ok : X.Ok) (E : Value → Shared → Prop) : (X.wish E).Ok :=
  ⟨ok.mod, ok.kind, ok.glob, ok.blt, ok.above, ok.inj, ok.has, ok.cab, ok.hd, ok.frames, ok.stk, ok.exf, ok.bs, ok.bsz, ok.noex, ok.exfs, ok.funs, ok.frf⟩
theorem Cx.Ok.unwish {X : Cx} {E : Value → Shared → Prop} (ok : (X.wish E).Ok) : X.Ok :=
  ⟨ok.mod, ok.kind, ok.glob, ok.blt, ok.above, ok.inj, ok.has, ok.cab, ok.hd, ok.frames, ok.stk, ok.exf, ok.bs, ok.bsz, ok.noex, ok.exfs, ok.funs, ok.frf⟩
section
variable {X : Cx} {pins : List (Addr × Obj)} {σ : St} {H : Hp} {s : Shared} {E : Value → Shared → Prop}
theorem Inv.wish (I : Inv X pins σ H s) (E : Value → Shared → Prop) : Inv (X.wish E) pins σ H s := ⟨I.ok.wish E, I.os, I.bare, I.base, I.loc, I.cell, I.free, I.freeC, I.pin, I.hok, I.len⟩
theorem Inv.unwish (I : Inv (X.wish E) pins σ H s) : Inv X pins σ H s := ⟨I.ok.unwish, I.os, I.bare, I.base, I.loc, I.cell, I.free, I.freeC, I.pin, I.hok, I.len⟩
theorem SP.unwish {D : Ends} {f : Flow} {s' : Shared} (h : SP (X.wish E) pins D f s') : SP X pins D f s' := by
  cases f with
  | next => obtain ⟨σ', H', I, q⟩ := h; exact ⟨σ', H', I.unwish, q⟩
  | brk => obtain ⟨σ', H', I, q⟩ := h; exact ⟨σ', H', I.unwish, q⟩
  | cont => obtain ⟨σ', H', I, q⟩ := h; exact ⟨σ', H', I.unwish, q⟩
  | ret u => obtain ⟨v, σ', H', I, r, q⟩ := h; exact ⟨v, σ', H', I.unwish, r, q⟩
theorem PSs.nox {st : List Stmt} {t : TS} (h : PSs X.nox st t) : PSs X st t := fun pins s σ H D I hw =>
  wpAny_mono (h pins s σ H D (I.wish _) hw) (fun _ _ q => q.unwish) fun _ _ z => False.elim z
end

section
variable {X : Cx} {st : Stmt} {rest : List Stmt} {t u : TS} {e : Expr} {te : TE} {pos : Pos}
noncomputable def tNext : TS := fun D σ H => D.nx σ H
noncomputable def tSeq (t u : TS) : TS := fun D σ H => t { D with nx := u D } σ H
theorem pss_nil : PSs X [] tNext := fun _ _ σ H _ I h => wpAny_execs_nil ⟨σ, H, I, h⟩
theorem pss_cons (h1 : PS X st t) (h2 : PSs X rest u) : PSs X (st :: rest) (tSeq t u) := by
  intro pins s σ H D I h
  refine wpAny_execs_cons (thn (h1 pins s σ H { D with nx := u D } I h) fun f s1 q => ?_)
  cases f with
  | next =>
    obtain ⟨σ', H', I', q⟩ := q
    exact h2 pins s1 σ' H' D I' q
  | ret v => exact q
  | brk => exact q
  | cont => exact q
theorem pss_one (h1 : PS X st t) : PSs X [st] t := by
  intro pins s σ H D I h
  refine wpAny_execs_cons (thn (h1 pins s σ H D I h) fun f s1 q => ?_)
  cases f with
  | next => exact wpAny_execs_nil q
  | ret v => exact q
  | brk => exact q
  | cont => exact q
theorem Inv.quiet {pins : List (Addr × Obj)} {σ : St} {H : Hp} {s : Shared} (I : Inv X pins σ H s) : interactive X.env = false := by simp [interactive, I.ok.kind]
noncomputable def tDrop (te : TE) : TS := fun D σ H => te σ H fun _ H1 => D.nx σ H1
theorem ps_expr (he : PE X e te) (hs : swapsWith e none pos.line X.env = pure false := by rfl) : PS X (.Expr e pos) (tDrop te) := by
  intro pins s σ H D I h
  exact wpAny_Expr_any (thn (he pins s σ H _ I h) fun v s1 ⟨x, H1, I1, r1, q1⟩ => ⟨σ, H1, I1, q1⟩) I.quiet hs
noncomputable def tRet (te : TE) : TS := fun D σ H => te σ H D.rt
theorem ps_ret (he : PE X e te) : PS X (.Return (some e) pos) (tRet te) := by
  intro pins s σ H D I h
  exact wpAny_Return_some (thn (he pins s σ H _ I h) fun v s1 ⟨x, H1, I1, r1, q1⟩ => ⟨x, σ, H1, I1, r1, q1⟩)
noncomputable def tIfS (c : TT) (t u : TS) : TS := fun D σ H => c σ H fun b H1 => if b = true then t D σ H1 else u D σ H1
theorem ps_if {c : Expr} {a b : List Stmt} {tc : TT} (hc : PT X c tc) (ha : PSs X a t) (hb : PSs X b u) : PS X (.If c a b pos) (tIfS tc t u) := by
  intro pins s σ H D I h
  refine wpAny_If (thn (hc pins s σ H _ I h) fun d s1 zq => ?_)
  obtain ⟨H1, I1, q1⟩ := zq
  cases d with
  | true => exact ha pins s1 σ H1 D I1 q1
  | false => exact hb pins s1 σ H1 D I1 q1
end

noncomputable abbrev TG := V → St → Hp → (St → Hp → Prop) → Prop
noncomputable def PG (X : Cx) (target : Expr) (t : TG) : Prop :=
  ∀ (pins : List (Addr × Obj)) (s : Shared) (σ : St) (H : Hp) (v : V) (u : Value) (Q : St → Hp → Prop), Inv X pins σ H s → RelV v u → t v σ H Q →
    wpAny (model X.prog X.w) X.A (assign target X.env u) (fun _ s' => ∃ σ' H', Inv X pins σ' H' s' ∧ Q σ' H') X.xe s
noncomputable abbrev TSet := V → V → V → Hp → (Hp → Prop) → Prop
noncomputable def PSet (X : Cx) (t : TSet) : Prop :=
  ∀ (pins : List (Addr × Obj)) (s : Shared) (σ : St) (H : Hp) (o i v : V) (ov iv u : Value) (Q : Hp → Prop), Inv X pins σ H s → RelV o ov → RelV i iv → RelV v u → t o i v H Q →
    wpAny (model X.prog X.w) X.A (setItem ov iv u) (fun _ s' => ∃ H', Inv X pins σ H' s' ∧ Q H') X.xe s
noncomputable abbrev TIp := V → V → Hp → VK → Prop
noncomputable def PIp (X : Cx) (op : Operator) (t : TIp) : Prop :=
  ∀ (pins : List (Addr × Obj)) (s : Shared) (σ : St) (H : Hp) (x y : V) (v u : Value) (Q : VK), Inv X pins σ H s → RelV x v → RelV y u → t x y H Q →
    wpAny (model X.prog X.w) X.A (inplaceOp op v u) (EP X pins σ Q) X.xe s
section
variable {X : Cx} {pos : Pos}
noncomputable def gName (i : Nat) : TG := fun v σ H Q => Q (σ.set i (some v)) H
theorem pg_name {i : Nat} {x : Str} (hN : X.N.Nodup) (hi : X.N[i]? = some x) (hx : Loc X.env.scope x) (hf : X.fn x = true ∨ X.env.scope.names.lookup x = some .local := by first | exact .inl rfl | exact .inr rfl | assumption) : PG X (.Name x pos) (gName i) := by
  intro pins s σ H v u Q I r h
  exact wpAny_assign_Name (store_ok I hN hi hx r (fun s' I' => ⟨_, H, I', h⟩) hf)
noncomputable def gSub (to ti : TE) (t : TSet) : TG := fun v σ H Q => to σ H fun o H1 => ti σ H1 fun i H2 => t o i v H2 fun H3 => Q σ H3
theorem pg_sub {o i : Expr} {to ti : TE} {t : TSet} (ho : PE X o to) (hi : PE X i ti) (hs : PSet X t)
    (ha : ∀ v, assign (.Subscript o i pos) X.env v = (do
      let ov ← holding [v] (eval o X.env)
      let iv ← holding [v, ov] (eval i X.env)
      standAt pos
      holding [v, ov, iv] (setItem ov iv v)
      release [v, ov, iv] []) := by intro _; rfl) : PG X (.Subscript o i pos) (gSub to ti t) := by
  intro pins s σ H v u Q I r h
  rw [ha]
  refine wpAny_bind (wpAny_holding (thn (ho pins s σ H _ I h) fun ov s1 zq => ?_))
  obtain ⟨x, H1, I1, r1, q1⟩ := zq
  refine wpAny_bind (wpAny_holding (thn (hi pins s1 σ H1 _ I1 q1) fun iv s2 zq => ?_))
  obtain ⟨y, H2, I2, r2, q2⟩ := zq
  refine wpAny_bind (wpAny_standAt (wpAny_bind (wpAny_holding (thn (hs pins s2 σ H2 x y v ov iv u _ I2 r1 r2 r q2) fun _ s3 zq => ?_))))
  obtain ⟨H3, I3, q3⟩ := zq
  exact wpAny_release ⟨σ, H3, I3, q3⟩
noncomputable def tAsg (te : TE) (g : TG) : TS := fun D σ H => te σ H fun x H1 => g x σ H1 D.nx
theorem ps_asg {tg e : Expr} {te : TE} {g : TG} (he : PE X e te) (hg : PG X tg g) (hs : swapsWithSole [tg] e pos.line X.env = pure false := by rfl) (hw : swappedStores [tg] e X.env = pure none := by rfl)
    (h1 : (assignEach [tg] X.env).map (·.2) = [assign tg X.env] := by rfl) : PS X (.Assign [tg] e pos) (tAsg te g) := by
  intro pins s σ H D I h
  refine wpAny_Assign_stores (thn (he pins s σ H _ I h) fun v s1 zq => ?_) hs hw
  obtain ⟨x, H1, I1, r1, q1⟩ := zq
  rw [h1]
  exact thn (hg pins s1 σ H1 x v _ I1 r1 q1) fun _ s2 q => q
theorem ps_set {i : Nat} {x : Str} {e : Expr} {te : TE} {pos' : Pos} (hN : X.N.Nodup) (hi : X.N[i]? = some x) (hx : Loc X.env.scope x) (he : PE X e te) (hs : swapsWith e (some (.Name x pos')) pos.line X.env = pure false := by rfl) (hf : X.fn x = true ∨ X.env.scope.names.lookup x = some .local := by first | exact .inl rfl | exact .inr rfl | assumption) :
    PS X (.Assign [.Name x pos'] e pos) (tAsg te (gName i)) := by
  intro pins s σ H D I h
  refine wpAny_Assign_Name (thn (he pins s σ H _ I h) fun v s1 zq => ?_) hs
  obtain ⟨y, H1, I1, r1, q1⟩ := zq
  exact store_ok I1 hN hi hx r1 (fun s2 I2 => ⟨_, H1, I2, q1⟩) hf
noncomputable def tAug (i : Nat) (te : TE) (ti : TIp) : TS := fun D σ H => ∃ x, σ[i]? = some (some x) ∧ te σ H fun y H1 => ti x y H1 fun z H2 => D.nx (σ.set i (some z)) H2
theorem ps_aug {i : Nat} {x : Str} {e : Expr} {te : TE} {op : Operator} {ti : TIp} {pos' : Pos} (hN : X.N.Nodup) (hi : X.N[i]? = some x) (hx : Loc X.env.scope x) (he : PE X e te) (ho : PIp X op ti) (hf : X.fn x = true ∨ X.env.scope.names.lookup x = some .local := by first | exact .inl rfl | exact .inr rfl | assumption) :
    PS X (.AugAssign (.Name x pos') op e pos) (tAug i te ti) := by
  intro pins s σ H D I h
  obtain ⟨v, e1, h⟩ := h
  obtain ⟨m, hn, hl⟩ := I.loc
  have vis : Vis X.env.scope x := by rcases hx with k | k; exact .inl k; exact .inr (.inl k)
  obtain ⟨u, r, l⟩ := hl i x v hi e1 vis
  refine wpAny_AugAssign_Name ?_
  have go : wpAny (model X.prog X.w) X.A (eval e X.env) (fun w s₂ => wpAny (model X.prog X.w) X.A (inplaceOp op u w) (fun r s₃ => wpAny (model X.prog X.w) X.A (storeName X.env x r) (fun _ => SP X pins D .next) X.xe s₃) X.xe s₂) X.xe s := by
    refine thn (he pins s σ H _ I h) fun w s1 zq => ?_
    obtain ⟨y, H1, I1, r1, q1⟩ := zq
    refine thn (ho pins s1 σ H1 v y u w _ I1 r r1 q1) fun z s2 zq => ?_
    obtain ⟨zv, H2, I2, r2, q2⟩ := zq
    exact store_ok I2 hN hi hx r2 (fun s3 I3 => ⟨_, H2, I3, q2⟩) hf
  rcases l with ⟨hk, hm⟩ | ⟨hk, c, hc, hcell⟩
  · exact wpAny_loadName_local I.ok.kind hk hn hm go
  · rcases hk with hk | hk
    · exact wpAny_loadName_cell I.ok.kind hk hc hcell go
    · rcases hx with k | k
      · have : X.env.scope.names.lookup x = some .free := hk
        rw [k] at this; cases this
      · have : X.env.scope.names.lookup x = some .free := hk
        rw [k] at this; cases this
noncomputable def tAugS (to ti te : TE) (tget : V → V → Hp → VK → Prop) (tip : TIp) (tset : TSet) : TS := fun D σ H => to σ H fun o H1 => ti σ H1 fun i H2 => tget o i H2 fun x H3 => te σ H3 fun y H4 => tip x y H4 fun z H5 => tset o i z H5 fun H6 => D.nx σ H6
noncomputable def PGet (X : Cx) (t : V → V → Hp → VK → Prop) : Prop :=
  ∀ (pins : List (Addr × Obj)) (s : Shared) (σ : St) (H : Hp) (o i : V) (ov iv : Value) (Q : VK), Inv X pins σ H s → RelV o ov → RelV i iv → t o i H Q →
    wpAny (model X.prog X.w) X.A (getItem ov iv) (EP X pins σ Q) X.xe s
theorem ps_augS {o i e : Expr} {to ti te : TE} {tget : V → V → Hp → VK → Prop} {tip : TIp} {tset : TSet} {op : Operator} {tpos : Pos} (ho : PE X o to) (hi : PE X i ti) (hg : PGet X tget) (he : PE X e te) (hp : PIp X op tip) (hs : PSet X tset)
    (ha : ∀ ov iv new, augStore i ov iv new = (do holding [new, ov, iv] (setItem ov iv new); release [new, ov, iv] []; pure .next) := by intros; rfl) : PS X (.AugAssign (.Subscript o i tpos) op e pos) (tAugS to ti te tget tip tset) := by
  intro pins s σ H D I h
  refine wpAny_AugAssign_SubscriptAny (thn (ho pins s σ H _ I h) fun ov s1 zq => ?_) ha
  obtain ⟨x1, H1, I1, r1, q1⟩ := zq
  refine thn (hi pins s1 σ H1 _ I1 q1) fun iv s2 zq => ?_
  obtain ⟨x2, H2, I2, r2, q2⟩ := zq
  refine thn (hg pins s2 σ H2 x1 x2 ov iv _ I2 r1 r2 q2) fun old s3 zq => ?_
  obtain ⟨x3, H3, I3, r3, q3⟩ := zq
  refine thn (he pins s3 σ H3 _ I3 q3) fun v s4 zq => ?_
  obtain ⟨x4, H4, I4, r4, q4⟩ := zq
  refine thn (hp pins s4 σ H4 x3 x4 old v _ I4 r3 r4 q4) fun new s5 zq => ?_
  obtain ⟨x5, H5, I5, r5, q5⟩ := zq
  exact thn (hs pins s5 σ H5 x1 x2 x5 ov iv new _ I5 r1 r2 r5 q5) fun _ s6 ⟨H6, I6, q6⟩ => ⟨σ, H6, I6, q6⟩
noncomputable def ipI (f : Int → Int → Int) : TIp := fun x y H Q => ∃ i j, x = .int i ∧ y = .int j ∧ Q (.int (f i j)) H
theorem ip_add : PIp X .Add (ipI fun i j => i + j) := by
  intro pins s σ H x y v u Q I r1 r2 h
  obtain ⟨i, j, e1, e2, q⟩ := h
  subst e1; subst e2
  obtain ⟨t, rfl⟩ := r1
  obtain ⟨t', rfl⟩ := r2
  exact iadd_int ⟨.int _, H, I.tok _, ⟨_, rfl⟩, q⟩
end

section
variable {X : Cx} {pos : Pos}
noncomputable def tWhile (c : TT) (tb : TS) : TS := fun D σ H => ∃ W : Nat → St → Hp → Prop, (∃ m, W m σ H) ∧ ∀ m σ H, W m σ H →
  c σ H fun b H1 => if b = true then ∃ N : St → Hp → Prop, (∀ σ' H', N σ' H' → ∃ m', m' < m ∧ W m' σ' H') ∧ tb { D with nx := N, ct := N, bk := D.nx } σ H1 else D.nx σ H1
theorem ps_while {c : Expr} {body : List Stmt} {tc : TT} {tb : TS} (hp : PassesOwn (model X.prog X.w) X.A X.env X.xe) (hc : PT X c tc) (hb : PSs X body tb) : PS X (.While c body [] pos) (tWhile tc tb) := by
  intro pins s σ H D I h
  obtain ⟨W, ⟨m0, w0⟩, turn⟩ := h
  refine wpAny_While (codeAny_whileLoop (fun n s' => ∃ σ' H', Inv X pins σ' H' s' ∧ W n σ' H') ?_ m0 ⟨σ, H, I, w0⟩)
  rintro n s1 ⟨σ1, H1, I1, w1⟩
  refine wpAny_passesOwn hp (thn (hc pins s1 σ1 H1 _ I1 (turn n σ1 H1 w1)) fun b s2 zq => ?_)
  obtain ⟨H2, I2, q2⟩ := zq
  cases b with
  | true =>
    obtain ⟨N, hN, q2⟩ := q2
    rw [if_pos rfl]
    refine wpAny_passesOwn hp (thn (hb pins s2 σ1 H2 _ I2 q2) fun f s3 q3 => ?_)
    cases f with
    | next =>
      obtain ⟨σ3, H3, I3, n3⟩ := q3
      obtain ⟨m', hm, w3⟩ := hN σ3 H3 n3
      exact ⟨m', hm, σ3, H3, I3, w3⟩
    | cont =>
      obtain ⟨σ3, H3, I3, n3⟩ := q3
      obtain ⟨m', hm, w3⟩ := hN σ3 H3 n3
      exact ⟨m', hm, σ3, H3, I3, w3⟩
    | brk => exact q3
    | ret v => exact q3
  | false =>
    rw [if_neg Bool.false_ne_true]
    exact wpAny_execs_nil ⟨σ1, H2, I2, q2⟩
end

structure It where
  go : Nat → Hp → Prop
  yld : Nat → Hp → V → Hp → Prop
  stop : Nat → Hp → Prop
noncomputable def FpOk (X : Cx) (pins : List (Addr × Obj)) (H : Hp) (b : Addr) : Prop :=
  H b = none ∧ b ≠ X.env.locals ∧ b ∉ X.fs ∧ (b ∈ X.ex ∨ X.s_0.heap.objs.size ≤ b) ∧ (∀ x c, X.env.cells.lookup x = some c → c ≠ b) ∧ ∀ p ∈ X.pn ++ pins, p.1 ≠ b
theorem Inv.fpOk {X : Cx} {pins : List (Addr × Obj)} {σ : St} {H H' : Hp} {s : Shared} {b : Addr} (I : Inv X pins σ H s) (hb : s.heap.objs.size ≤ b) (hn : H' b = none) : FpOk X pins H' b := by
  refine ⟨hn, Nat.ne_of_gt (Nat.lt_of_lt_of_le I.lt hb), I.nofs hb, .inr (Nat.le_trans I.sz hb), fun x c e z => ?_, fun p hp z => ?_⟩
  · obtain ⟨v, q⟩ := I.cell x c e
    exact absurd (Nat.lt_of_lt_of_le q.lt (by rw [z]; exact hb)) (Nat.lt_irrefl _)
  · exact absurd (Nat.lt_of_lt_of_le (Heap.lt_size (I.pin p hp).1) (by rw [z]; exact hb)) (Nat.lt_irrefl _)
structure Turn (P : Program) (w : World) (K : PySem.W.Frag) (tg : Expr) (J : It) (fp : List Addr) (it : Addr) (tn : Nat → Heap → Prop) : Prop where
  mem : it ∈ fp
  obj : ∀ i h, tn i h → ∀ b ∈ fp, ∃ o, h.get? b = some o ∧ ∀ v, o.data ≠ .cell v
  keep : ∀ i h h', tn i h → (∀ b ∈ fp, ∀ o, h.get? b = some o → h'.get? b = some o) → tn i h'
  item : ∀ (X : Cx), X.prog = P → X.w = w → X.K = K → X.calm = true → ∀ (i : Nat) (pins : List (Addr × Obj)) (s : Shared) (σ : St) (H : Hp) (E : Value → Shared → Prop), Inv X pins σ H s → (∀ b ∈ fp, FpOk X pins H b) → tn i s.heap → J.go i H →
    wpAny (model P w) X.A (pyNext (.ref it)) (fun r s1 => ∃ u, r = some u ∧
      wpAny (model P w) X.A (letOwnedTupleGo tg (.ref it) u) (fun _ s2 => ∃ x H', Inv X pins σ H' s2 ∧ RelV x u ∧ J.yld i H x H' ∧ tn (i + 1) s2.heap ∧ ∀ b ∈ fp, H' b = none) E s1) E s
  done : ∀ (X : Cx), X.prog = P → X.w = w → X.K = K → X.calm = true → ∀ (i : Nat) (pins : List (Addr × Obj)) (s : Shared) (σ : St) (H : Hp) (E : Value → Shared → Prop), Inv X pins σ H s → (∀ b ∈ fp, FpOk X pins H b) → tn i s.heap → J.stop i H →
    wpAny (model P w) X.A (pyNext (.ref it)) (fun r s1 => r = none ∧ Inv X pins σ H s1) E s
  self : ∀ (A : Around) (i : Nat) (s : Shared) (Q : Value → Shared → Prop) (E : Value → Shared → Prop), tn i s.heap → Q (.ref it) s → wpAny (model P w) A (pyIter (.ref it)) Q E s
noncomputable abbrev TI := St → Hp → (It → Hp → Prop) → Prop
noncomputable def PIE (X : Cx) (pins : List (Addr × Obj)) (σ : St) (tg : Expr) (R : It → Hp → Prop) (itv : Value) (s2 : Shared) : Prop :=
  ∃ (it : Addr) (fp : List Addr) (tn : Nat → Heap → Prop) (J : It) (H' : Hp), itv = .ref it ∧ Inv X pins σ H' s2 ∧ Turn X.prog X.w X.K tg J fp it tn ∧ tn 0 s2.heap ∧ (∀ b ∈ fp, FpOk X pins H' b) ∧ R J H'
noncomputable def PI (X : Cx) (tg iter : Expr) (wi : TI) : Prop :=
  ∀ (pins : List (Addr × Obj)) (s : Shared) (σ : St) (H : Hp) (R : It → Hp → Prop), Inv X pins σ H s → wi σ H R →
    wpAny (model X.prog X.w) X.A (eval iter X.env) (fun v s1 => wpAny (model X.prog X.w) X.A (pyIter v) (PIE X pins σ tg R) X.xe s1) X.xe s

theorem go_of {M : Model} {A : Around} {E : Value → Shared → Prop} {s : Shared} {tg : Expr} {it : Addr} {u : Value} {o : Obj} {n : String} {vs : Array Value} {Q : Unit → Shared → Prop} (ho : s.heap.get? it = some o) (hc : o.cls = .type n) (hd : o.data = .fields vs)
    (hn : ["enumerate", "zip", "dict_itemiterator", "dict_reverseitemiterator", "odict_iterator", "itertools.zip_longest", "itertools.pairwise"].contains n = false) (hQ : Q () s) : wpAny M A (letOwnedTupleGo tg (.ref it) u) Q E s := by
  unfold letOwnedTupleGo
  cases tg <;> first
    | exact wpAny_pure hQ
    | (cases u <;> first
        | exact wpAny_pure hQ
        | (refine wpAny_bind (wpAny_load ho ?_)
           rw [hc, hd]
           show wpAny M A (if (["enumerate", "zip", "dict_itemiterator", "dict_reverseitemiterator", "odict_iterator", "itertools.zip_longest", "itertools.pairwise"].contains n && vs[0]? == some (rawInt _)) = true then _ else _) Q E s
           rw [if_neg (by intro h; rw [hn, Bool.false_and] at h; cases h)]
           exact wpAny_pure hQ))

noncomputable def Itl (K : PySem.W.Frag) (a : Addr) : It :=
  ⟨fun i H => ∃ xs x, SqL K H a xs ∧ xs[i]? = some x, fun i H x H' => H' = H ∧ ∀ xs, SqL K H a xs → xs[i]? = some x, fun i H => ∃ xs, SqL K H a xs ∧ xs.length ≤ i⟩
noncomputable def Itr (lo : Int) (n : Nat) : It := ⟨fun i _ => i < n, fun i H x H' => H' = H ∧ x = .int (lo + i), fun i _ => n ≤ i⟩
theorem turn_list {P : Program} {w : World} {K : PySem.W.Frag} {tg : Expr} (a it : Addr) : Turn P w K tg (Itl K a) [it] it (fun i h => h.IsListIter it a i) where
  mem := by simp
  obj := fun i h st b hb => by
    have e : b = it := by simpa using hb
    subst e
    obtain ⟨o, e, c, d⟩ := st
    exact ⟨o, e, fun v z => by rw [d] at z; cases z⟩
  keep := fun i h h' st k => st.at fun o e => k it (by simp) o e
  item := by
    intro X hP hw hK hc i pins s σ H E I hf st hg
    subst hP hw hK
    obtain ⟨xs, x, hq, hx⟩ := hg
    obtain ⟨its, rv, p, hz⟩ := I.list hq
    obtain ⟨u, hu, ru⟩ := rv.get hx
    obtain ⟨f0, f1, f2, f3, f4, f5⟩ := hf it (by simp)
    refine wpAny_pyNext_list_item st p.isList (x := u) (by simpa using hu) fun h' st' sb => ?_
    have I1 : Inv X pins σ H { s with heap := h' } := I.turned (t' := s.toks) (fun b o hb e => (sb.2 b hb).trans e) f0 f1 f3 f4 f5
    obtain ⟨o, e, c, d⟩ := id st'
    exact ⟨u, rfl, go_of (s := { s with heap := h' }) e c d (by decide) ⟨x, H, I1, ru, ⟨rfl, fun ys hy => by rw [I.list_inj hy hq]; exact hx⟩, st', fun b hb => (hf b hb).1⟩⟩
  done := by
    intro X hP hw hK hc i pins s σ H E I hf st hg
    subst hP hw hK
    obtain ⟨xs, hq, hx⟩ := hg
    obtain ⟨its, rv, p, hz⟩ := I.list hq
    obtain ⟨f0, f1, f2, f3, f4, f5⟩ := hf it (by simp)
    have hl := rv.length
    exact wpAny_pyNext_list_end (I.ok.hd hc) st p.isList (by simp; omega) fun h' eb => ⟨rfl, I.turned (t' := s.toks) (fun b o hb e => eb b o hb e) f0 f1 f3 f4 f5⟩
  self := fun _ _ _ _ _ st h => wpAny_pyIter_listiter st h
theorem turn_range {P : Program} {w : World} {K : PySem.W.Frag} {tg : Expr} (it : Addr) (lo : Int) (n : Nat) : Turn P w K tg (Itr lo n) [it] it (fun i h => IsRangeIter h it (lo + (i : Nat) * 1) ((n : Int) - (i : Nat)) 1) where
  mem := by simp
  obj := fun i h st b hb => by
    have e : b = it := by simpa using hb
    subst e
    exact ⟨_, st, fun v z => by
      have z' : Data.fields _ = Data.cell v := z
      cases z'⟩
  keep := fun i h h' st k => k it (by simp) _ st
  item := by
    intro X hP hw hK hc i pins s σ H E I hf st hg
    subst hP hw hK
    obtain ⟨f0, f1, f2, f3, f4, f5⟩ := hf it (by simp)
    have W := Walks.range (prog := X.prog) (w := X.w) (I.ok.hd hc) it lo 1 n
    refine W.item i s _ _ hg st fun v h' tk hv st' kk => ?_
    obtain ⟨t, rfl⟩ := hv
    have I1 : Inv X pins σ H { s with heap := h', toks := tk } := I.turned (fun b o hb e => kk b o (by simpa using hb) e) f0 f1 f3 f4 f5
    refine ⟨_, rfl, go_of (s := { s with heap := h', toks := tk }) (n := "range_iterator") st' rfl rfl (by decide) ⟨.int (lo + i), H, I1, ⟨t, ?_⟩, ⟨rfl, rfl⟩, st', fun b hb => (hf b hb).1⟩⟩
    rw [Int.mul_one]
  done := by
    intro X hP hw hK hc i pins s σ H E I hf st hg
    subst hP hw hK
    obtain ⟨f0, f1, f2, f3, f4, f5⟩ := hf it (by simp)
    exact wpAny_pyNext_range_end (I.ok.hd hc) st (by have : n ≤ i := hg; omega) fun h' eb => ⟨rfl, I.turned (t' := s.toks) (fun b o hb e => eb b o hb e) f0 f1 f3 f4 f5⟩
  self := fun _ _ _ _ _ st h => wpAny_pyIter_rangeiter st h
end L2

namespace L2
open PySem PySem.Spec PyProof.Rows
section
variable {X : Cx} {tg : Expr}
noncomputable def iList (K : PySem.W.Frag) (tl : TE) : TI := fun σ H R => tl σ H fun x H1 => ∃ a, x = .ref a ∧ (∃ xs, SqL K H1 a xs) ∧ R (Itl K a) H1
theorem pi_list {l : Expr} {tl : TE} (hl : PE X l tl) : PI X tg l (iList X.K tl) := by
  intro pins s σ H R I h
  refine thn (hl pins s σ H _ I h) fun v s1 zq => ?_
  obtain ⟨x, H1, I1, r1, q1⟩ := zq
  obtain ⟨a, e, ⟨xs, hq⟩, q⟩ := q1
  subst e
  cases r1
  obtain ⟨its, rv, p, hz⟩ := I1.list hq
  refine wpAny_pyIter_list p.isList ?_
  refine ⟨s1.heap.objs.size, [s1.heap.objs.size], _, _, H1, rfl, I1.kept (t' := s1.toks) fun b o e => Heap.get?_push_of_some _ e, turn_list a _, ⟨_, Heap.get?_push_size _ rfl, rfl, rfl⟩, fun b hb => ?_, q⟩
  have e : b = s1.heap.objs.size := by simpa using hb
  subst e
  exact I1.fpOk (Nat.le_refl _) (I1.hok.fresh (Nat.le_refl _))
theorem range_it {pins : List (Addr × Obj)} {σ : St} {H : Hp} {s : Shared} {R : It → Hp → Prop} {E : Value → Shared → Prop} {lo hi : Int} {t u v : Tok} {tk : Nat} (I : Inv X pins σ H s) (h1 : -(2 ^ 62) ≤ lo) (h2 : lo < 2 ^ 62) (h3 : -(2 ^ 62) ≤ hi) (h4 : hi < 2 ^ 62)
    (q : R (Itr lo (hi - lo).toNat) H) : wpAny (model X.prog X.w) X.A (pyIter (.ref s.heap.objs.size)) (PIE X pins σ tg R) E { s with heap := s.heap.push { cls := .type "range", data := .fields #[.int lo t, .int hi u, .int 1 v] }, toks := tk } := by
  refine wpAny_pyIter_range (IsRange.new ..) (small_one h1 h2 h3 h4) ?_
  have I1 : Inv X pins σ H { s with heap := s.heap.push { cls := .type "range", data := .fields #[.int lo t, .int hi u, .int 1 v] }, toks := tk } := I.kept fun b o e => Heap.get?_push_of_some _ e
  refine ⟨(s.heap.push { cls := .type "range", data := .fields #[.int lo t, .int hi u, .int 1 v] }).objs.size, [(s.heap.push { cls := .type "range", data := .fields #[.int lo t, .int hi u, .int 1 v] }).objs.size], _, _, H, rfl,
    I1.kept (t' := tk) fun b o e => Heap.get?_push_of_some _ e, turn_range _ lo (hi - lo).toNat, ?_, fun b hb => ?_, q⟩
  · have e1 : lo + ((0 : Nat) : Int) * 1 = lo := by simp
    have e2 : (((hi - lo).toNat : Nat) : Int) - ((0 : Nat) : Int) = Builtin.Range.rangeSize lo hi 1 := by rw [rangeSize_one]; split <;> omega
    show IsRangeIter _ _ (lo + ((0 : Nat) : Int) * 1) ((((hi - lo).toNat : Nat) : Int) - ((0 : Nat) : Int)) 1
    rw [e1, e2]
    exact Heap.get?_push_size _ rfl
  · have e : b = (s.heap.push { cls := .type "range", data := .fields #[.int lo t, .int hi u, .int 1 v] }).objs.size := by simpa using hb
    subst e
    exact I1.fpOk (Nat.le_refl _) (I1.hok.fresh (Nat.le_refl _))
noncomputable def iRng1 (ta : TA) : TI := fun σ H R => ta σ H fun vs H1 => ∃ j : Int, vs = [.int j] ∧ -(2 ^ 62) ≤ j ∧ j < 2 ^ 62 ∧ R (Itr 0 j.toNat) H1
noncomputable def iRng2 (ta : TA) : TI := fun σ H R => ta σ H fun vs H1 => ∃ i j : Int, vs = [.int i, .int j] ∧ (-(2 ^ 62) ≤ i ∧ i < 2 ^ 62 ∧ -(2 ^ 62) ≤ j ∧ j < 2 ^ 62) ∧ R (Itr i (j - i).toNat) H1
theorem pi_range1 {a : Expr} {ta : TA} {p pos : Pos} (hg : Gl X "range") (hm : X.mg "range" = none) (ha : PA X [a] ta) (hs : starEach [a] X.env = [(false, eval a X.env)] := by rfl) : PI X tg (.Call (.Name "range" p) [a] [] pos) (iRng1 ta) := by
  intro pins s σ H R I h
  refine Call_ (ld_blt I hg hm boot_range (PyProof.Rows.callWith_type1 (thn (ha pos pins s σ H _ I h) fun us s1 zq => ?_) hs rfl))
  obtain ⟨vs, H1, I1, r1, q1⟩ := zq
  obtain ⟨j, e, q1, q2, q⟩ := q1
  subst e
  cases r1 with
  | cons r rr =>
    cases rr
    obtain ⟨t, rfl⟩ := r
    exact call_range_1 (range_it I1 (by omega) (by omega) q1 q2 (by simpa using q))
theorem pi_range2 {a b : Expr} {ta : TA} {p pos : Pos} (hg : Gl X "range") (hm : X.mg "range" = none) (ha : PA X [a, b] ta) (hs : starEach [a, b] X.env = [(false, eval a X.env), (false, eval b X.env)] := by rfl) (hs2 : starEach [b] X.env = [(false, eval b X.env)] := by rfl) :
    PI X tg (.Call (.Name "range" p) [a, b] [] pos) (iRng2 ta) := by
  intro pins s σ H R I h
  refine Call_ (ld_blt I hg hm boot_range (PyProof.Rows.callWith_type1 (thn (ha pos pins s σ H _ I h) fun us s1 zq => ?_) (by rw [hs, hs2]) (by rw [hs2]; rfl)))
  obtain ⟨vs, H1, I1, r1, q1⟩ := zq
  obtain ⟨i, j, e, ⟨q1, q2, q3, q4⟩, q⟩ := q1
  subst e
  cases r1 with
  | cons r rr =>
    cases rr with
    | cons r' rr =>
      cases rr
      obtain ⟨t, rfl⟩ := r
      obtain ⟨t', rfl⟩ := r'
      exact call_range_2 (range_it I1 q1 q2 q3 q4 q)

noncomputable def tFor (wi : TI) (g : TG) (tb : TS) : TS := fun D σ H => wi σ H fun J H1 => ∃ W : Nat → Nat → St → Hp → Prop, (∃ m, W 0 m σ H1) ∧ ∀ i m σ H, W i m σ H →
  (J.stop i H ∧ D.nx σ H) ∨ (J.go i H ∧ ∃ N : St → Hp → Prop, (∀ σ' H', N σ' H' → ∃ m', m' < m ∧ W (i + 1) m' σ' H') ∧ ∀ x H', J.yld i H x H' → g x σ H' fun σ2 H2 => tb { D with nx := N, ct := N, bk := D.nx } σ2 H2)
noncomputable def pinsAt (fp : List Addr) (h : Heap) : List (Addr × Obj) := fp.filterMap fun b => (h.get? b).map fun o => (b, o)
theorem mem_pinsAt {fp : List Addr} {h : Heap} {b : Addr} {o : Obj} (hb : b ∈ fp) (e : h.get? b = some o) : (b, o) ∈ pinsAt fp h := List.mem_filterMap.mpr ⟨b, hb, by rw [e]; rfl⟩
theorem of_pinsAt {fp : List Addr} {h : Heap} {p : Addr × Obj} (hp : p ∈ pinsAt fp h) : p.1 ∈ fp ∧ h.get? p.1 = some p.2 := by
  obtain ⟨b, hb, e⟩ := List.mem_filterMap.mp hp
  cases q : h.get? b with
  | none => rw [q] at e; cases e
  | some o =>
    rw [q] at e
    have e' : (b, o) = p := Option.some.inj e
    subst e'
    exact ⟨hb, q⟩
theorem Inv.pinned {pins : List (Addr × Obj)} {σ : St} {H : Hp} {s : Shared} {fp : List Addr} (I : Inv X pins σ H s) (hf : ∀ b ∈ fp, FpOk X pins H b) (ho : ∀ b ∈ fp, ∃ o, s.heap.get? b = some o ∧ ∀ v, o.data ≠ .cell v) : Inv X (pins ++ pinsAt fp s.heap) σ H s :=
  I.pins_of fun p hp => (List.mem_append.mp hp).elim (fun z => I.pin p (List.mem_append_right _ z)) fun z => by
    obtain ⟨hb, e⟩ := of_pinsAt z
    obtain ⟨f0, f1, f2, _⟩ := hf p.1 hb
    obtain ⟨o, e', d⟩ := ho p.1 hb
    rw [e] at e'; cases e'
    exact ⟨e, f0, f1, f2, d⟩
theorem Inv.unpinned {pins pl : List (Addr × Obj)} {σ : St} {H : Hp} {s : Shared} (I : Inv X (pins ++ pl) σ H s) : Inv X pins σ H s := I.pins_of fun p hp => I.pin p (List.mem_append_right _ (List.mem_append_left _ hp))
theorem ps_for {iter : Expr} {body : List Stmt} {wi : TI} {g : TG} {tb : TS} {pos : Pos} (hp : PassesOwn (model X.prog X.w) X.A X.env X.xe) (hc : X.calm = true) (hi : PI X tg iter wi) (hg : PG X tg g) (hb : PSs X body tb)
    (hs : ∀ x, foldedSetIterable iter X.env x = pure x := by intro _; rfl) : PS X (.For tg iter body [] pos) (tFor wi g tb) := by
  intro pins s σ H D I h
  refine wpAny_For (thn (hi pins s σ H _ I h) fun v s1 h1 => thn h1 fun itv s2 h2 => ?_) hs
  obtain ⟨it, fp, tn, J, H2, e, I2, T, st2, f2, W, ⟨m0, w0⟩, turn⟩ := h2
  subst e
  have stat : ∀ {H' : Hp}, (∀ b ∈ fp, H' b = none) → ∀ b ∈ fp, FpOk X pins H' b := fun hn b hb => ⟨hn b hb, (f2 b hb).2⟩
  refine codeAny_forLoop_any (fun n s' => ∃ i σ' H', Inv X pins σ' H' s' ∧ tn i s'.heap ∧ (∀ b ∈ fp, H' b = none) ∧ W i n σ' H') ?_ m0 ⟨0, σ, H2, I2, st2, fun b hb => (f2 b hb).1, w0⟩
  rintro n s3 ⟨i, σ3, H3, I3, st3, fr3, w3⟩
  rcases turn i n σ3 H3 w3 with ⟨stop, qn⟩ | ⟨go, N, hN, step⟩
  · refine wpAny_passesOwn hp (thn (T.done X rfl rfl rfl hc i pins s3 σ3 H3 X.xe I3 (stat fr3) st3 stop) fun r s4 zq => ?_)
    obtain ⟨hr, I4⟩ := zq
    subst hr
    exact wpAny_execs_nil ⟨σ3, H3, I4, qn⟩
  · refine wpAny_passesOwn hp (thn (T.item X rfl rfl rfl hc i pins s3 σ3 H3 X.xe I3 (stat fr3) st3 go) fun r s4 zq => ?_)
    obtain ⟨u, hr, h4⟩ := zq
    subst hr
    refine wpAny_passesOwn hp (thn h4 fun _ s5 zq => ?_)
    obtain ⟨x, H5, I5, r5, y5, st5, fr5⟩ := zq
    have I5' := I5.pinned (stat fr5) (T.obj _ _ st5)
    refine wpAny_passesOwn hp (thn (hg _ s5 σ3 H5 x u _ I5' r5 (step x H5 y5)) fun _ s6 zq => ?_)
    obtain ⟨σ6, H6, I6, q6⟩ := zq
    refine wpAny_passesOwn hp (thn (hb _ s6 σ6 H6 _ I6 q6) fun f s7 q7 => ?_)
    have again : ∀ {σ7 : St} {H7 : Hp}, Inv X (pins ++ pinsAt fp s5.heap) σ7 H7 s7 → N σ7 H7 → ∃ m, m < n ∧ ∃ i σ' H', Inv X pins σ' H' s7 ∧ tn i s7.heap ∧ (∀ b ∈ fp, H' b = none) ∧ W i m σ' H' := fun {σ7 H7} I7 n7 => by
      obtain ⟨m', hm, w7⟩ := hN σ7 H7 n7
      refine ⟨m', hm, i + 1, σ7, H7, I7.unpinned, T.keep _ _ _ st5 fun b hb o e => (I7.pin (b, o) (List.mem_append_right _ (List.mem_append_right _ (mem_pinsAt hb e)))).1, fun b hb => ?_, w7⟩
      obtain ⟨o, e, d⟩ := T.obj _ _ st5 b hb
      exact (I7.pin (b, o) (List.mem_append_right _ (List.mem_append_right _ (mem_pinsAt hb e)))).2.1
    cases f with
    | next => obtain ⟨σ7, H7, I7, n7⟩ := q7; exact again I7 n7
    | cont => obtain ⟨σ7, H7, I7, n7⟩ := q7; exact again I7 n7
    | brk => obtain ⟨σ7, H7, I7, q7⟩ := q7; exact ⟨σ7, H7, I7.unpinned, q7⟩
    | ret v => obtain ⟨x7, σ7, H7, I7, r7, q7⟩ := q7; exact ⟨x7, σ7, H7, I7.unpinned, r7, q7⟩
end

theorem for_list {K : PySem.W.Frag} {a : Addr} {xs : List V} {g : TG} {tb : TS} {D : Ends} {σ : St} {H : Hp} (Pv : Nat → St → Hp → Prop) (h0 : Pv 0 σ H) (hl : ∀ i σ H, i ≤ xs.length → Pv i σ H → SqL K H a xs)
    (hs : ∀ i x σ H, xs[i]? = some x → Pv i σ H → g x σ H fun σ2 H2 => tb { D with nx := Pv (i + 1), ct := Pv (i + 1), bk := D.nx } σ2 H2) (hd : ∀ σ H, Pv xs.length σ H → D.nx σ H) :
    ∃ W : Nat → Nat → St → Hp → Prop, (∃ m, W 0 m σ H) ∧ ∀ i m σ H, W i m σ H →
      ((Itl K a).stop i H ∧ D.nx σ H) ∨ ((Itl K a).go i H ∧ ∃ N : St → Hp → Prop, (∀ σ' H', N σ' H' → ∃ m', m' < m ∧ W (i + 1) m' σ' H') ∧ ∀ x H', (Itl K a).yld i H x H' → g x σ H' fun σ2 H2 => tb { D with nx := N, ct := N, bk := D.nx } σ2 H2) := by
  refine ⟨fun i m σ H => m = xs.length - i ∧ i ≤ xs.length ∧ Pv i σ H, ⟨xs.length, by simp, Nat.zero_le _, h0⟩, ?_⟩
  rintro i m σ H ⟨rfl, hi, p⟩
  have q := hl i σ H hi p
  by_cases hlt : i < xs.length
  · refine .inr ⟨⟨xs, xs[i], q, by simp [hlt]⟩, Pv (i + 1), fun σ' H' p' => ⟨xs.length - (i + 1), by omega, rfl, hlt, p'⟩, fun x H' y => ?_⟩
    obtain ⟨e, y⟩ := y
    subst e
    exact hs i x σ _ (y xs q) p
  · have e : i = xs.length := by omega
    subst e
    exact .inl ⟨⟨xs, q, Nat.le_refl _⟩, hd σ H p⟩
theorem for_range {lo : Int} {n : Nat} {g : TG} {tb : TS} {D : Ends} {σ : St} {H : Hp} (Pv : Nat → St → Hp → Prop) (h0 : Pv 0 σ H)
    (hs : ∀ i σ H, i < n → Pv i σ H → g (.int (lo + i)) σ H fun σ2 H2 => tb { D with nx := Pv (i + 1), ct := Pv (i + 1), bk := D.nx } σ2 H2) (hd : ∀ σ H, Pv n σ H → D.nx σ H) :
    ∃ W : Nat → Nat → St → Hp → Prop, (∃ m, W 0 m σ H) ∧ ∀ i m σ H, W i m σ H →
      ((Itr lo n).stop i H ∧ D.nx σ H) ∨ ((Itr lo n).go i H ∧ ∃ N : St → Hp → Prop, (∀ σ' H', N σ' H' → ∃ m', m' < m ∧ W (i + 1) m' σ' H') ∧ ∀ x H', (Itr lo n).yld i H x H' → g x σ H' fun σ2 H2 => tb { D with nx := N, ct := N, bk := D.nx } σ2 H2) := by
  refine ⟨fun i m σ H => m = n - i ∧ i ≤ n ∧ Pv i σ H, ⟨n, by simp, Nat.zero_le _, h0⟩, ?_⟩
  rintro i m σ H ⟨rfl, hi, p⟩
  by_cases hlt : i < n
  · refine .inr ⟨hlt, Pv (i + 1), fun σ' H' p' => ⟨n - (i + 1), by omega, rfl, hlt, p'⟩, fun x H' y => ?_⟩
    obtain ⟨e, y⟩ := y
    subst e y
    exact hs i σ _ hlt p
  · have e : i = n := by omega
    subst e
    exact .inl ⟨Nat.le_refl _, hd σ H p⟩
end L2

namespace L2
open PySem PySem.Spec PyProof.Rows

noncomputable abbrev R2 := V → V → Hp → VK → Prop
noncomputable def OpR (X : Cx) (f : Value → Value → Sem Value) (r : R2) : Prop :=
  ∀ (pins : List (Addr × Obj)) (s : Shared) (σ : St) (H : Hp) (x y : V) (v u : Value) (Q : VK), Inv X pins σ H s → RelV x v → RelV y u → r x y H Q →
    wpAny (model X.prog X.w) X.A (f v u) (EP X pins σ Q) X.xe s
noncomputable def UnR (X : Cx) (f : Value → Sem Value) (r : V → Hp → VK → Prop) : Prop :=
  ∀ (pins : List (Addr × Obj)) (s : Shared) (σ : St) (H : Hp) (x : V) (v : Value) (Q : VK), Inv X pins σ H s → RelV x v → r x H Q →
    wpAny (model X.prog X.w) X.A (f v) (EP X pins σ Q) X.xe s
noncomputable def CallR (X : Cx) (f : Value) (r : List V → Hp → VK → Prop) : Prop :=
  ∀ (pins : List (Addr × Obj)) (s : Shared) (σ : St) (H : Hp) (xs : List V) (us : List Value) (Q : VK), Inv X pins σ H s → Vals xs us → r xs H Q →
    wpAny (model X.prog X.w) X.A (call f us) (EP X pins σ Q) X.xe s
noncomputable def TruR (X : Cx) (r : V → Hp → (Bool → Hp → Prop) → Prop) : Prop :=
  ∀ (pins : List (Addr × Obj)) (s : Shared) (σ : St) (H : Hp) (x : V) (v : Value) (Q : Bool → Hp → Prop), Inv X pins σ H s → RelV x v → r x H Q →
    wpAny (model X.prog X.w) X.A (truthy v) (TP X pins σ Q) X.xe s

noncomputable def tOp (r : R2) (ta tb : TE) : TE := fun σ H Q => ta σ H fun x H1 => tb σ H1 fun y H2 => r x y H2 Q
noncomputable def tUn (r : V → Hp → VK → Prop) (ta : TE) : TE := fun σ H Q => ta σ H fun x H1 => r x H1 Q
noncomputable def rI (C : Int → Int → Prop) (g : Int → Int → V) : R2 := fun x y H Q => ∃ i j, x = .int i ∧ y = .int j ∧ C i j ∧ Q (g i j) H
noncomputable def rI0 (g : Int → Int → V) : R2 := fun x y H Q => ∃ i j, x = .int i ∧ y = .int j ∧ Q (g i j) H
noncomputable def rU (g : Int → V) : V → Hp → VK → Prop := fun x H Q => ∃ i, x = .int i ∧ Q (g i) H

section
variable {X : Cx} {a b c : Expr} {ta tb tc : TE} {pos : Pos}

theorem binT (ha : PE X a ta) (hb : PE X b tb) {pins : List (Addr × Obj)} {s : Shared} {σ : St} {H : Hp} {R : V → V → Hp → Prop} (I : Inv X pins σ H s)
    (h : ta σ H fun x H1 => tb σ H1 fun y H2 => R x y H2) {Q : Value → Shared → Prop} {f : Value → Value → Sem Value}
    (hf : ∀ v u s2 x y H2, Inv X pins σ H2 s2 → RelV x v → RelV y u → R x y H2 → wpAny (model X.prog X.w) X.A (f v u) Q X.xe s2) :
    wpAny (model X.prog X.w) X.A (eval a X.env) (fun v s₁ => wpAny (model X.prog X.w) X.A (eval b X.env) (fun u s₂ => wpAny (model X.prog X.w) X.A (f v u) Q X.xe s₂) X.xe s₁) X.xe s := by
  refine thn (ha pins s σ H _ I h) fun v s1 zq => ?_
  obtain ⟨x, H1, I1, r1, q1⟩ := zq
  refine thn (hb pins s1 σ H1 _ I1 q1) fun u s2 zq => ?_
  obtain ⟨y, H2, I2, r2, q2⟩ := zq
  exact hf v u s2 x y H2 I2 r1 r2 q2

theorem pe_op {op : Operator} {r : R2} (ho : OpR X (binaryOp op) r) (ha : PE X a ta) (hb : PE X b tb) : PE X (.BinOp a op b pos) (tOp r ta tb) := by
  intro pins s σ H Q I h
  exact wpAny_BinOp (binT ha hb I h fun v u s2 x y H2 I2 rx ry q => ho pins s2 σ H2 x y v u Q I2 rx ry q)
theorem pe_un {op : UnaryOp} {r : V → Hp → VK → Prop} (ho : UnR X (unaryOp op) r) (ha : PE X a ta) : PE X (.UnaryOp op a pos) (tUn r ta) := by
  intro pins s σ H Q I h
  exact UnaryOp_ (thn (ha pins s σ H _ I h) fun v s1 ⟨x, H1, I1, r1, q1⟩ => ho pins s1 σ H1 x v Q I1 r1 q1)
theorem opI {f : Value → Value → Sem Value} {C : Int → Int → Prop} {g : Int → Int → Int}
    (rule : ∀ (i j : Int) (t u : Tok) (s : Shared) (Q : Value → Shared → Prop) (E : Value → Shared → Prop), C i j → Q (.int (g i j) s.toks) { s with toks := s.toks + 1 } → wpAny (model X.prog X.w) X.A (f (.int i t) (.int j u)) Q E s) :
    OpR X f (rI C fun i j => .int (g i j)) := by
  intro pins s σ H x y v u Q I rx ry h
  obtain ⟨i, j, rfl, rfl, hc, q⟩ := h
  obtain ⟨t, rfl⟩ := rx
  obtain ⟨t', rfl⟩ := ry
  exact rule i j t t' s _ _ hc ⟨.int (g i j), H, I.tok _, ⟨_, rfl⟩, q⟩
theorem opI0 {f : Value → Value → Sem Value} {g : Int → Int → Int}
    (rule : ∀ (i j : Int) (t u : Tok) (s : Shared) (Q : Value → Shared → Prop) (E : Value → Shared → Prop), Q (.int (g i j) s.toks) { s with toks := s.toks + 1 } → wpAny (model X.prog X.w) X.A (f (.int i t) (.int j u)) Q E s) :
    OpR X f (rI0 fun i j => .int (g i j)) := by
  intro pins s σ H x y v u Q I rx ry h
  obtain ⟨i, j, rfl, rfl, q⟩ := h
  obtain ⟨t, rfl⟩ := rx
  obtain ⟨t', rfl⟩ := ry
  exact rule i j t t' s _ _ ⟨.int (g i j), H, I.tok _, ⟨_, rfl⟩, q⟩
theorem opB0 {f : Value → Value → Sem Value} {g : Int → Int → Bool}
    (rule : ∀ (i j : Int) (t u : Tok) (s : Shared) (Q : Value → Shared → Prop) (E : Value → Shared → Prop), Q (.bool (g i j)) s → wpAny (model X.prog X.w) X.A (f (.int i t) (.int j u)) Q E s) :
    OpR X f (rI0 fun i j => .bl (g i j)) := by
  intro pins s σ H x y v u Q I rx ry h
  obtain ⟨i, j, rfl, rfl, q⟩ := h
  obtain ⟨t, rfl⟩ := rx
  obtain ⟨t', rfl⟩ := ry
  exact rule i j t t' s _ _ ⟨.bl (g i j), H, I, rfl, q⟩

noncomputable def CPow (i j : Int) : Prop := 0 ≤ j ∧ j ≤ 1000000 ∧ i.natAbs < 2 ^ 64
theorem op_add : OpR X (binaryOp .Add) (rI0 fun i j => .int (i + j)) := opI0 fun _ _ _ _ _ _ _ q => add_int q
theorem op_sub : OpR X (binaryOp .Sub) (rI0 fun i j => .int (i - j)) := opI0 fun _ _ _ _ _ _ _ q => sub_int q
theorem op_shl : OpR X (binaryOp .LShift) (rI CPow fun i j => .int (i * 2 ^ j.toNat)) := opI fun _ _ _ _ _ _ _ hc q => lshift_int_small hc.1 hc.2.1 hc.2.2 q
theorem op_and : OpR X (binaryOp .BitAnd) (rI0 fun i j => .int (Builtin.bitAnd i j)) := opI0 fun _ _ _ _ _ _ _ q => and_int q
theorem op_or : OpR X (binaryOp .BitOr) (rI0 fun i j => .int (Builtin.bitOr i j)) := opI0 fun _ _ _ _ _ _ _ q => or_int q
theorem unI {f : Value → Sem Value} {g : Int → Int}
    (rule : ∀ (i : Int) (t : Tok) (s : Shared) (Q : Value → Shared → Prop) (E : Value → Shared → Prop), Q (.int (g i) s.toks) { s with toks := s.toks + 1 } → wpAny (model X.prog X.w) X.A (f (.int i t)) Q E s) :
    UnR X f (rU fun i => .int (g i)) := by
  intro pins s σ H x v Q I rx h
  obtain ⟨i, rfl, q⟩ := h
  obtain ⟨t, rfl⟩ := rx
  exact rule i t s _ _ ⟨.int (g i), H, I.tok _, ⟨_, rfl⟩, q⟩
theorem un_neg : UnR X (unaryOp .USub) (rU fun i => .int (-i)) := unI fun _ _ _ _ _ q => neg_int q
end

noncomputable def scal : V → V → Bool
  | .non, .non => true | .non, .int _ => true | .int _, .non => true | .non, .bl _ => true | .bl _, .non => true | .non, .str _ => true | .str _, .non => true
  | .int _, .int _ => true | .bl _, .bl _ => true | .str _, .str _ => true | .byt _, .byt _ => true
  | .int _, .str _ => true | .str _, .int _ => true | .bl _, .str _ => true | .str _, .bl _ => true
  | _, _ => false
noncomputable def rEq : R2 := fun x y H Q => scal x y = true ∧ Q (.bl (decide (x = y))) H
noncomputable def rNe : R2 := fun x y H Q => scal x y = true ∧ Q (.bl (!decide (x = y))) H

theorem dec_int {i j : Int} : decide (V.int i = V.int j) = (i == j) := by
  rw [Bool.eq_iff_iff]
  simp
theorem dec_bl {i j : Bool} : decide (V.bl i = V.bl j) = (i == j) := by
  rw [Bool.eq_iff_iff]
  simp
theorem dec_str {i j : Str} : decide (V.str i = V.str j) = (i == j) := by
  rw [Bool.eq_iff_iff]
  simp
theorem dec_byt {i j : Array UInt8} : decide (V.byt i = V.byt j) = (i.toList == j.toList) := by
  rw [Bool.eq_iff_iff]
  cases i
  cases j
  simp

section
variable {X : Cx} {a b c : Expr} {ta tb tc : TE} {pos : Pos}
theorem fin_bl {pins : List (Addr × Obj)} {σ : St} {H : Hp} {s : Shared} {Q : VK} {k k' : Bool} (I : Inv X pins σ H s) (q : Q (.bl k) H) (e : k = k') : EP X pins σ Q (.bool k') s := by
  subst e
  exact ⟨.bl k, H, I, rfl, q⟩
theorem op_eq : OpR X (compareOp .Eq) rEq := by
  intro pins s σ H x y v u Q I rx ry h
  obtain ⟨hs, q⟩ := h
  cases x with
  | non =>
    cases rx
    cases y with
    | non => cases ry; exact PySem.EqNone.eq_none_none (fin_bl I q (by simp))
    | bl j => cases ry; exact PySem.EqNone.eq_none_bool (fin_bl I q (by simp))
    | int j => obtain ⟨t', rfl⟩ := ry; exact PySem.EqNone.eq_none_int (fin_bl I q (by simp))
    | str j => obtain ⟨t', rfl⟩ := ry; exact PySem.EqNone.eq_none_str (fin_bl I q (by simp))
    | _ => exact absurd (show false = true from hs) Bool.false_ne_true
  | bl i =>
    cases rx
    cases y with
    | non => cases ry; exact PySem.EqNone.eq_bool_none (fin_bl I q (by simp))
    | bl j => cases ry; exact eq_bool (fin_bl I q dec_bl)
    | str j => obtain ⟨t', rfl⟩ := ry; exact PySem.EqMixed.eq_bool_str (fin_bl I q (by simp))
    | _ => exact absurd (show false = true from hs) Bool.false_ne_true
  | int i =>
    obtain ⟨t, rfl⟩ := rx
    cases y with
    | non => cases ry; exact PySem.EqNone.eq_int_none (fin_bl I q (by simp))
    | int j => obtain ⟨t', rfl⟩ := ry; exact eq_int (fin_bl I q dec_int)
    | str j => obtain ⟨t', rfl⟩ := ry; exact PySem.EqMixed.eq_int_str (fin_bl I q (by simp))
    | _ => exact absurd (show false = true from hs) Bool.false_ne_true
  | str i =>
    obtain ⟨t, rfl⟩ := rx
    cases y with
    | non => cases ry; exact PySem.EqNone.eq_str_none (fin_bl I q (by simp))
    | bl j => cases ry; exact PySem.EqMixed.eq_str_bool (fin_bl I q (by simp))
    | int j => obtain ⟨t', rfl⟩ := ry; exact PySem.EqMixed.eq_str_int (fin_bl I q (by simp))
    | str j => obtain ⟨t', rfl⟩ := ry; exact eq_str (fin_bl I q dec_str)
    | _ => exact absurd (show false = true from hs) Bool.false_ne_true
  | byt i =>
    obtain ⟨t, rfl⟩ := rx
    cases y with
    | byt j => obtain ⟨t', rfl⟩ := ry; exact PySem.W.eq_bytes (fin_bl I q dec_byt)
    | _ => exact absurd (show false = true from hs) Bool.false_ne_true
  | _ => cases y <;> exact absurd (show false = true from hs) Bool.false_ne_true
theorem op_ne : OpR X (compareOp .NotEq) rNe := by
  intro pins s σ H x y v u Q I rx ry h
  obtain ⟨hs, q⟩ := h
  cases x with
  | non =>
    cases rx
    cases y with
    | non => cases ry; exact PySem.EqNone.ne_none_none (fin_bl I q (by simp))
    | bl j => cases ry; exact PySem.EqNone.ne_none_bool (fin_bl I q (by simp))
    | int j => obtain ⟨t', rfl⟩ := ry; exact PySem.EqNone.ne_none_int (fin_bl I q (by simp))
    | str j => obtain ⟨t', rfl⟩ := ry; exact PySem.EqNone.ne_none_str (fin_bl I q (by simp))
    | _ => exact absurd (show false = true from hs) Bool.false_ne_true
  | bl i =>
    cases rx
    cases y with
    | non => cases ry; exact PySem.EqNone.ne_bool_none (fin_bl I q (by simp))
    | bl j => cases ry; exact ne_bool (fin_bl I q (congrArg not dec_bl))
    | str j => obtain ⟨t', rfl⟩ := ry; exact PySem.EqMixed.ne_bool_str (fin_bl I q (by simp))
    | _ => exact absurd (show false = true from hs) Bool.false_ne_true
  | int i =>
    obtain ⟨t, rfl⟩ := rx
    cases y with
    | non => cases ry; exact PySem.EqNone.ne_int_none (fin_bl I q (by simp))
    | int j => obtain ⟨t', rfl⟩ := ry; exact ne_int (fin_bl I q (congrArg not dec_int))
    | str j => obtain ⟨t', rfl⟩ := ry; exact PySem.EqMixed.ne_int_str (fin_bl I q (by simp))
    | _ => exact absurd (show false = true from hs) Bool.false_ne_true
  | str i =>
    obtain ⟨t, rfl⟩ := rx
    cases y with
    | non => cases ry; exact PySem.EqNone.ne_str_none (fin_bl I q (by simp))
    | bl j => cases ry; exact PySem.EqMixed.ne_str_bool (fin_bl I q (by simp))
    | int j => obtain ⟨t', rfl⟩ := ry; exact PySem.EqMixed.ne_str_int (fin_bl I q (by simp))
    | str j => obtain ⟨t', rfl⟩ := ry; exact ne_str (fin_bl I q (congrArg not dec_str))
    | _ => exact absurd (show false = true from hs) Bool.false_ne_true
  | byt i =>
    obtain ⟨t, rfl⟩ := rx
    cases y with
    | byt j => obtain ⟨t', rfl⟩ := ry; exact PySem.W.ne_bytes (fin_bl I q (congrArg not dec_byt))
    | _ => exact absurd (show false = true from hs) Bool.false_ne_true
  | _ => cases y <;> exact absurd (show false = true from hs) Bool.false_ne_true

theorem op_lt : OpR X (compareOp .Lt) (rI0 fun i j => .bl (decide (i < j))) := opB0 fun _ _ _ _ _ _ _ q => lt_int q
theorem op_le : OpR X (compareOp .LtE) (rI0 fun i j => .bl (decide (i ≤ j))) := opB0 fun _ _ _ _ _ _ _ q => le_int q
theorem op_gt : OpR X (compareOp .Gt) (rI0 fun i j => .bl (decide (j < i))) := opB0 fun _ _ _ _ _ _ _ q => gt_int q
theorem op_ge : OpR X (compareOp .GtE) (rI0 fun i j => .bl (decide (j ≤ i))) := opB0 fun _ _ _ _ _ _ _ q => ge_int q
theorem nomark (b : Expr) {op : CmpOp} (h : op ≠ .In := by decide) (h2 : op ≠ .NotIn := by decide) : behindInMarks op b = false := by
  have e1 : (op == CmpOp.In) = false := by cases op <;> first | rfl | exact absurd rfl h
  have e2 : (op == CmpOp.NotIn) = false := by cases op <;> first | rfl | exact absurd rfl h2
  cases b <;> simp [behindInMarks, e1, e2]
theorem pe_cmpR {op : CmpOp} {r : R2} (ho : OpR X (compareOp op) r) (ha : PE X a ta) (hb : PE X b tb) (hm : behindInMarks op b = false) : PE X (.Compare a [op] [b] pos) (tOp r ta tb) := by
  intro pins s σ H Q I h
  exact wpAny_Compare1 (binT ha hb I h fun v u s2 x y H2 I2 rx ry q => ho pins s2 σ H2 x y v u Q I2 rx ry q) hm
noncomputable def tTest (t : TE) : TT := fun σ H Q => t σ H fun x H' => ∃ k, x = .bl k ∧ Q k H'
theorem pt_cmpR {op : CmpOp} {r : R2} (ho : OpR X (compareOp op) r) (ha : PE X a ta) (hb : PE X b tb) (hm : behindInMarks op b = false) : PT X (.Compare a [op] [b] pos) (tTest (tOp r ta tb)) := by
  intro pins s σ H Q I h
  refine wpAny_isTrue_Compare1 (thn (ha pins s σ H _ I h) fun v s1 ⟨x, H1, I1, r1, q1⟩ => thn (hb pins s1 σ H1 _ I1 q1) fun u s2 ⟨y, H2, I2, r2, q2⟩ =>
    thn (ho pins s2 σ H2 x y v u _ I2 r1 r2 q2) fun c s3 ⟨z, H3, I3, r3, k, e, q3⟩ => ?_) hm
  subst e
  cases r3
  exact wpAny_truthy_bool ⟨H3, I3, q3⟩
noncomputable def TruV (K : PySem.W.Frag) (x : V) (H : Hp) (k : Bool) : Prop :=
  match x with
  | .non => k = false
  | .bl b => k = b
  | .int i => k = (i != 0)
  | .str y => y.length ≤ sizeLine ∧ k = ((y.length : Int) != 0)
  | .byt y => y.size ≤ sizeLine ∧ k = ((y.size : Int) != 0)
  | .ref p => (∃ xs, SqL K H p xs ∧ k = !xs.isEmpty) ∨ (∃ xs, SqT K H p xs ∧ k = !xs.isEmpty) ∨ ∃ kvs, H p = some (.dK kvs) ∧ k = !kvs.isEmpty
  | _ => False
theorem isEmpty_kv {κ : Type} {kvs : List (κ × V)} {vs : List (κ × Value)} (r : KV kvs vs) : (!vs.isEmpty) = !kvs.isEmpty := by
  cases r <;> rfl
theorem isEmpty_of {xs : List V} {its : List Value} (r : Vals xs its) : (!its.toArray.isEmpty) = !xs.isEmpty := by
  cases r <;> simp
theorem line63 : (sizeLine : Nat) < 2 ^ 63 := by rw [sizeLine_eq]; decide
theorem tru_ok : TruR X (fun x H Q => ∃ k, TruV X.K x H k ∧ Q k H) := by
  intro pins s σ H x v Q I rx h
  obtain ⟨k, e, q⟩ := h
  have hl := line63
  have hs : sizeLine = 16777216 := sizeLine_eq
  cases x with
  | non =>
    cases rx
    have e' : k = false := e
    subst e'
    exact truthy_none ⟨H, I, q⟩
  | bl b =>
    cases rx
    have e' : k = b := e
    subst e'
    exact wpAny_truthy_bool ⟨H, I, q⟩
  | int i =>
    obtain ⟨t, rfl⟩ := rx
    have e' : k = (i != 0) := e
    subst e'
    exact PySem.P.truthy_int ⟨H, I, q⟩
  | str y =>
    obtain ⟨t, rfl⟩ := rx
    obtain ⟨hy, e'⟩ : y.length ≤ sizeLine ∧ k = ((y.length : Int) != 0) := e
    subst e'
    exact PySem.P.truthy_str (by omega) ⟨H, I.tok _, q⟩
  | byt y =>
    obtain ⟨t, rfl⟩ := rx
    obtain ⟨hy, e'⟩ : y.size ≤ sizeLine ∧ k = ((y.size : Int) != 0) := e
    subst e'
    exact PySem.W.truthy_bytes (by omega) ⟨H, I.tok _, q⟩
  | ref p =>
    cases rx
    have e' : (∃ xs, SqL X.K H p xs ∧ k = !xs.isEmpty) ∨ (∃ xs, SqT X.K H p xs ∧ k = !xs.isEmpty) ∨ ∃ kvs, H p = some (.dK kvs) ∧ k = !kvs.isEmpty := e
    rcases e' with ⟨xs, hx, e'⟩ | ⟨xs, hx, e'⟩ | ⟨kvs, hx, e'⟩
    · subst e'
      obtain ⟨its, r, pl, hz⟩ := I.list hx
      have hlen := r.length
      exact wpAny_truthy_list pl.isList (by simp only [List.size_toArray]; omega) ⟨H, I.tok _, by rw [isEmpty_of r]; exact q⟩
    · subst e'
      obtain ⟨its, r, pl, hz⟩ := I.tuple hx
      have hlen := r.length
      exact truthy_tuple pl (by simp only [List.size_toArray]; omega) ⟨H, I.tok _, by rw [isEmpty_of r]; exact q⟩
    · subst e'
      obtain ⟨hz, hS, vs, r, m⟩ : kvs.length ≤ sizeLine ∧ (p == sysModules) = false ∧ ∃ vs, KV kvs vs ∧ s.heap.DictOf (mixKind X.prog X.w) p vs := I.hok p _ hx
      have hlen : kvs.length = vs.length := Paired.length r
      exact wpAny_truthy_dict hS m (by omega) ⟨H, I.tok _, by rw [isEmpty_kv r]; exact q⟩
  | _ => exact (show False from e).elim
theorem pt_truth (ha : PE X a ta) (he : ∀ whole, isTrue a X.env whole = (do let v ← whole; standAt a.pos; holding [v] (truthy v))) :
    PT X a (fun σ H Q => ta σ H fun x H' => ∃ k, TruV X.K x H' k ∧ Q k H') := by
  intro pins s σ H Q I h
  exact isTrue_plain (thn (ha pins s σ H _ I h) fun v s1 ⟨x, H1, I1, r1, q1⟩ => tru_ok pins s1 σ H1 x v Q I1 r1 q1) (he _)

theorem vals1 {x : V} {us : List Value} (r : Vals [x] us) : ∃ u, us = [u] ∧ RelV x u := by
  cases r with
  | cons r1 r2 => cases r2; exact ⟨_, rfl, r1⟩
theorem vals2 {x y : V} {us : List Value} (r : Vals [x, y] us) : ∃ u w', us = [u, w'] ∧ RelV x u ∧ RelV y w' := by
  cases r with
  | cons r1 r2 =>
    cases r2 with
    | cons r3 r4 => cases r4; exact ⟨_, _, rfl, r1, r3⟩
theorem call_abs : CallR X (.builtin "abs") (fun xs H Q => ∃ i, xs = [.int i] ∧ Q (.int (if i < 0 then -i else i)) H) := by
  intro pins s σ H xs us Q I r h
  obtain ⟨i, rfl, q⟩ := h
  obtain ⟨u, rfl, t, rfl⟩ := vals1 r
  exact call_abs_int fun u tk => ⟨.int (if i < 0 then -i else i), H, I.tok _, ⟨_, rfl⟩, q⟩
theorem call_max2 (hc : X.calm = true) : CallR X (.builtin "max") (fun xs H Q => ∃ i j, xs = [.int i, .int j] ∧ Q (.int (if j > i then j else i)) H) := by
  intro pins s σ H xs us Q I r h
  obtain ⟨i, j, rfl, q⟩ := h
  obtain ⟨u, w', rfl, ⟨t, rfl⟩, ⟨t', rfl⟩⟩ := vals2 r
  refine max_two_ints (I.ok.hd hc) fun h' tk k => ⟨_, H, I.kept k, ?_, q⟩
  by_cases hj : j > i
  · rw [if_pos hj, if_pos hj]; exact ⟨_, rfl⟩
  · rw [if_neg hj, if_neg hj]; exact ⟨_, rfl⟩
end
end L2

namespace L2
open PySem PySem.Spec PyProof.Rows

structure ObjM (h : Heap) (x dx C : Addr) (mA : Str → Option Value) : Prop where
  obj : h.get? x = some (PySem.W.instObj C dx)
  ns : h.Ns1 dx mA
  ne : dx ≠ x

theorem lookIn_ns {h : Heap} {dx : Addr} {mA : Str → Option Value} (n : h.Ns1 dx mA) : ∃ od, h.get? dx = some od ∧ ∀ name, PySem.W.lookIn name od = some (mA name) := by
  obtain ⟨o, es, ep, ho, hd, hk, _, hm⟩ := n
  refine ⟨o, ho, fun name => ?_⟩
  have e := hm name
  unfold nsFind findBy at e
  rw [← Array.find?_toList] at e
  unfold PySem.W.lookIn
  rw [hd]
  dsimp only
  split
  · rename_i y q
    rw [q] at e
    exact congrArg some e
  · rename_i q
    rw [q] at e
    have a : es.toList.any (·.refKey) = false := by
      rw [List.any_eq_false]
      intro y hy
      obtain ⟨z, t, hkey⟩ := hk y (Array.mem_toList_iff.mp hy)
      simp [DictEntry.refKey, hkey]
    have a' : ¬ es.toList.any (·.refKey) = true := by rw [a]; exact Bool.false_ne_true
    rw [if_neg a']
    exact congrArg some e

theorem ObjM.look {h : Heap} {x dx C : Addr} {mA : Str → Option Value} (I : ObjM h x dx C mA) : ∃ od, PySem.W.InstAt h x (PySem.W.instObj C dx) C (some od) ∧ ∀ name, PySem.W.lookIn name od = some (mA name) :=
  let ⟨od, ho, hl⟩ := lookIn_ns I.ns
  ⟨od, ⟨I.obj, rfl, rfl, ho⟩, hl⟩

section
variable {prog : Program} {w : World} {A : Around} {E : Value → Shared → Prop} {s : Shared} {K : PySem.W.Frag} {x dx C f : Addr} {mA : Str → Option Value} {name : Str} {v : Value}

theorem get_map {expr : Bool} {Q : Value → Shared → Prop} (X : K.In s.heap) (I : ObjM s.heap x dx C mA) (hg : PySem.W.plainGet K C name = true) (hh : PySem.W.hasDictIn K C = true)
    (ha : PySem.W.findIn K (.ref C) name = some none) (hv : mA name = some v) (hv' : PySem.W.handedIn v = true) (h : Q v { s with toks := s.toks + 1 }) :
    wpAny (model prog w) A (getAttr (.ref x) name expr) Q E s := by
  obtain ⟨od, J, hl⟩ := I.look
  exact PySem.W.get_value X J (PySem.W.plainGet_of hg).1 (PySem.W.findObj_own hh ha rfl (by rw [hl, hv])) hv' h

theorem get_meth {pl : Sem Bool} {Q : Value × List Value → Shared → Prop} (X : K.In s.heap) (I : ObjM s.heap x dx C mA) (hg : PySem.W.plainGet K C name = true)
    (hf : PySem.W.findIn K (.ref C) name = some (some (.ref f))) (ht : PySem.W.isFn K (.ref f) = true) (hv : mA name = none) (h : Q (.ref f, [.ref x]) s) :
    wpAny (model prog w) A (getMethod (.ref x) name pl) Q E s := by
  obtain ⟨od, J, hl⟩ := I.look
  exact PySem.W.method_fn X J (PySem.W.plainGet_of hg).1 (PySem.W.plainGet_of hg).2 hf (beq_iff_eq.mp ht) (by show (PySem.W.lookIn name od).map (·.isSome) = some false; rw [hl, hv]; rfl) h

theorem set_map {ns : List Str} {Q : Unit → Shared → Prop} (X : K.In s.heap) (I : ObjM s.heap x dx C mA)
    (hs : PySem.W.findIn K (.ref C) "__setattr__" = some (some (.builtin "object.__setattr__"))) (hp : PySem.W.plainOver K C = true) (ht : PySem.W.takerIn K C name = some none) (hh : PySem.W.hasDictIn K C = true)
    (hw : PySem.Within mA ns) (hsz : ns.length ≤ sizeLine)
    (h : ∀ h', ObjM h' x dx C (fun y => if y = name then some v else mA y) → Heap.SameBut dx s.heap h' → Q () { s with heap := h', toks := s.toks + 2 }) :
    wpAny (model prog w) A (setAttr (.ref x) name v) Q E s := by
  obtain ⟨od, J, hl⟩ := I.look
  refine PySem.W.set_plain X J hs (PySem.W.osa_open (s := { s with toks := s.toks + 1 }) (r := none) X J hp ht fun b => ?_)
  obtain ⟨cd, hc, hd'⟩ := PySem.W.any_some hh
  have hx : s.heap.get? x = some ⟨.ref C, some dx, .plain, #[]⟩ := I.obj
  refine wpAny_bind (wpAny_pure (wpAny_bind (wpAny_bind (wpAny_loadPart hx (wpAny_bind (PySem.W.Looks.here (s := { s with toks := s.toks + 1 }) (PySem.W.looks_clsIn X hc) ?_))))))
  rw [hd']
  refine wpAny_pure (a := some dx) (wpAny_bind (wpAny_pure (wpAny_bind ?_)))
  refine wpAny_nsSet1 (s := { s with toks := s.toks + 1 }) I.ns fun h' hn2 hs2 => ?_
  obtain ⟨oD, esD, epD, hoD, hdD, hcD⟩ := hn2.count (PySem.Within.cons name v hw)
  refine wpAny_bind (wpAny_lookBehind hoD (by rw [hdD]; exact pastItsLine_dict (Nat.le_trans hcD (by rw [List.length_cons]; omega))) ?_)
  exact wpAny_pure (h _ ⟨(hs2.2 _ (Ne.symm I.ne)).trans I.obj, hn2, I.ne⟩ hs2)

theorem make_map {R : Result → Shared → Prop} {vs : List Value} {kw : List (Str × Value)} (X : K.In s.heap) (hm : PySem.W.makesIn K C = true)
    (hi : PySem.W.findIn K (.ref C) "__init__" = some (some (.ref f))) (hf : PySem.W.typeIn K (.ref f) = some (.type "function"))
    (h : codeAny (model prog w) (A.under (.builtin "type.__call__" ⟨.ref C :: vs, kw⟩)) (.call (.ref f) ⟨.ref (s.heap.objs.size + 1) :: vs, kw⟩) (PySem.W.InitBack (s.heap.objs.size + 1) R)
      { s with heap := (s.heap.push PySem.W.emptyDict).push (PySem.W.instObj C s.heap.objs.size) }) :
    codeAny (model prog w) A (.call (.ref C) ⟨vs, kw⟩) R s := by
  obtain ⟨hh, g, d, t, os⟩ := s
  exact PySem.W.make_core (PySem.W.makes_of X hm) (PySem.W.looks_findIn X hi) (fun self => PySem.W.bind_fn X self hf) (.inl rfl) h
end

noncomputable def putF (f : Str) (v : V) : List (Str × V) → List (Str × V)
  | [] => [(f, v)]
  | (g, x) :: r => if g = f then (g, v) :: r else (g, x) :: putF f v r
theorem lookup_putF (f g : Str) (v : V) : ∀ fs : List (Str × V), (putF f v fs).lookup g = if g = f then some v else fs.lookup g
  | [] => by
    show List.lookup g [(f, v)] = _
    by_cases h : g = f
    · have hb : (g == f) = true := beq_iff_eq.mpr h
      simp only [List.lookup, hb, if_pos h]
    · have hb : (g == f) = false := beq_eq_false_iff_ne.mpr h
      simp only [List.lookup, hb, if_neg h]
  | (k, x) :: r => by
    have ih := lookup_putF f g v r
    rw [show putF f v ((k, x) :: r) = (if k = f then (k, v) :: r else (k, x) :: putF f v r) from rfl]
    by_cases hk : k = f
    · rw [if_pos hk]
      by_cases h : g = k
      · have hb : (g == k) = true := beq_iff_eq.mpr h
        simp only [List.lookup, hb, if_pos (h.trans hk)]
      · have hb : (g == k) = false := beq_eq_false_iff_ne.mpr h
        simp only [List.lookup, hb, if_neg (fun e : g = f => h (e.trans hk.symm))]
    · rw [if_neg hk]
      by_cases h : g = k
      · have hb : (g == k) = true := beq_iff_eq.mpr h
        simp only [List.lookup, hb, if_neg (fun e : g = f => hk (h.symm.trans e))]
      · have hb : (g == k) = false := beq_eq_false_iff_ne.mpr h
        simp only [List.lookup, hb]
        exact ih
theorem keys_putF (f : Str) (v : V) : ∀ fs : List (Str × V), f ∈ (putF f v fs).map (·.1) ∧ ∀ g, g ∈ fs.map (·.1) → g ∈ (putF f v fs).map (·.1)
  | [] => ⟨by simp [putF], fun g h => by simp at h⟩
  | (k, x) :: r => by
    obtain ⟨i1, i2⟩ := keys_putF f v r
    rw [show putF f v ((k, x) :: r) = (if k = f then (k, v) :: r else (k, x) :: putF f v r) from rfl]
    by_cases hk : k = f
    · rw [if_pos hk]
      subst hk
      exact ⟨by simp, fun g h => by simpa using h⟩
    · rw [if_neg hk]
      refine ⟨?_, fun g h => ?_⟩
      · rw [List.map_cons]
        exact List.mem_cons_of_mem _ i1
      · rw [List.map_cons] at h ⊢
        rcases List.mem_cons.mp h with e | e
        · exact List.mem_cons.mpr (.inl e)
        · exact List.mem_cons_of_mem _ (i2 g e)
theorem length_putF (f : Str) (v : V) : ∀ fs : List (Str × V), (putF f v fs).length ≤ fs.length + 1
  | [] => by simp [putF]
  | (k, x) :: r => by
    have ih := length_putF f v r
    rw [show putF f v ((k, x) :: r) = (if k = f then (k, v) :: r else (k, x) :: putF f v r) from rfl]
    by_cases hk : k = f
    · rw [if_pos hk, List.length_cons, List.length_cons]; omega
    · rw [if_neg hk, List.length_cons, List.length_cons]; omega

theorem RelO.some_of {v : V} {o : Option Value} (r : RelO (some v) o) : ∃ u, o = some u ∧ RelV v u := by
  cases o with
  | none => exact (show False from r).elim
  | some u => exact ⟨u, rfl, r⟩
theorem RelO.none_of {o : Option Value} (r : RelO none o) : o = none := by
  cases o with
  | none => rfl
  | some u => exact (show False from r).elim
theorem handed_of {v : V} {u : Value} (r : RelV v u) : PySem.W.handedIn u = true := by
  cases v with
  | non => cases (show u = Value.none from r); rfl
  | bl b => cases (show u = Value.bool b from r); rfl
  | int i => obtain ⟨t, e⟩ := (show ∃ t, u = Value.int i t from r); cases e; rfl
  | str x => obtain ⟨t, e⟩ := (show ∃ t, u = Value.str x t from r); cases e; rfl
  | byt b => obtain ⟨t, e⟩ := (show ∃ t, u = Value.bytes b t from r); cases e; rfl
  | flt b => obtain ⟨t, e⟩ := (show ∃ t, u = Value.float b t from r); cases e; rfl
  | ref a => cases (show u = Value.ref a from r); rfl
  | ty n => cases (show u = Value.type n from r); rfl

section
variable {P : Program} {w : World} {H H' : Hp} {h h' : Heap} {a C dx : Addr} {fs fs' : List (Str × V)}
theorem ins_get (hok : HOk P w H h) (e : H a = some (.ins C dx fs)) : ∃ mA, ObjM h a dx C mA ∧ (∀ f, RelO (fs.lookup f) (mA f)) ∧ PySem.Within mA (fs.map (·.1)) ∧ fs.length ≤ 1000 ∧ H dx = some (.own a) := by
  obtain ⟨d, z, ne, ob, mA, n, r, q⟩ := (show ObjOk P w H h a (.ins C dx fs) from hok a _ e)
  exact ⟨mA, ⟨ob, n, ne⟩, r, q, z, d⟩
end

structure Cls (K : PySem.W.Frag) (C : Addr) : Prop where
  pg : PySem.W.plainGet K C Str.empty = true
  hd : PySem.W.hasDictIn K C = true
  po : PySem.W.plainOver K C = true
  sa : PySem.W.findIn K (.ref C) "__setattr__" = some (some (.builtin "object.__setattr__"))
theorem Cls.get {K : PySem.W.Frag} {C : Addr} (c : Cls K C) (f : Str) : PySem.W.plainGet K C f = true := c.pg
noncomputable def NoAttr (K : PySem.W.Frag) (C : Addr) (f : Str) : Prop := PySem.W.findIn K (.ref C) f = some none
theorem NoAttr.taker {K : PySem.W.Frag} {C : Addr} {f : Str} (n : NoAttr K C f) : PySem.W.takerIn K C f = some none := by
  unfold PySem.W.takerIn
  rw [show PySem.W.findIn K (.ref C) f = some none from n]
  rfl
structure Meth (K : PySem.W.Frag) (C : Addr) (m : Str) (f : Addr) : Prop where
  at_ : PySem.W.findIn K (.ref C) m = some (some (.ref f))
  fn : PySem.W.isFn K (.ref f) = true
  kp : PySem.W.keepIn K (.ref f) = true

section
variable {X : Cx} {pins : List (Addr × Obj)} {σ : St} {H : Hp} {s : Shared} {a C dx : Addr} {fs : List (Str × V)} {f : Str} {v : V} {A : Around} {E : Value → Shared → Prop}

theorem getattr_ok {b : Bool} {Q : Value → Shared → Prop} (I : Inv X pins σ H s) (e : H a = some (.ins C dx fs)) (c : Cls X.K C) (n : NoAttr X.K C f) (l : fs.lookup f = some v)
    (h : ∀ u s', Inv X pins σ H s' → RelV v u → Q u s') : wpAny (model X.prog X.w) A (getAttr (.ref a) f b) Q E s := by
  obtain ⟨mA, O, r, _, _, _⟩ := ins_get I.hok e
  obtain ⟨u, hu, ru⟩ := RelO.some_of (v := v) (o := mA f) (by rw [← l]; exact r f)
  exact get_map I.kIn O (c.get f) c.hd n hu (handed_of ru) (h u _ (I.tok _) ru)

theorem getmeth_ok {m : Str} {g : Addr} {pl : Sem Bool} {Q : Value × List Value → Shared → Prop} (I : Inv X pins σ H s) (e : H a = some (.ins C dx fs)) (c : Cls X.K C) (k : Meth X.K C m g) (l : fs.lookup m = none)
    (h : Q (.ref g, [.ref a]) s) : wpAny (model X.prog X.w) A (getMethod (.ref a) m pl) Q E s := by
  obtain ⟨mA, O, r, _, _, _⟩ := ins_get I.hok e
  have hn : mA m = none := RelO.none_of (by rw [← l]; exact r m)
  exact get_meth I.kIn O (c.get m) k.at_ k.fn hn h

theorem setattr_ok {y : V} {u : Value} {Q : Unit → Shared → Prop} (I : Inv X pins σ H s) (e : H a = some (.ins C dx fs)) (c : Cls X.K C) (n : NoAttr X.K C f) (hl : fs.length < 1000) (ry : RelV y u)
    (h : ∀ s', Inv X pins σ (upd H a (.ins C dx (putF f y fs))) s' → Q () s') : wpAny (model X.prog X.w) A (setAttr (.ref a) f u) Q E s := by
  obtain ⟨mA, O, r, wi, _, ho⟩ := ins_get I.hok e
  have hz : (fs.map (·.1)).length ≤ sizeLine := by rw [List.length_map, sizeLine_eq]; omega
  refine set_map I.kIn O c.sa c.po n.taker c.hd wi hz fun h' O' sb => h _ ?_
  have hd : ∃ o, h'.get? dx = some o := let ⟨o, _, _, e', _⟩ := O'.ns; ⟨o, e'⟩
  refine I.write (x := a) (e := dx) (by rw [e]; exact True.intro) (.inr ho) (fun b q hb z => (sb.2 b hb).trans z) hd ?_
  refine ⟨by rw [upd_ne O.ne]; exact ho, ?_, O.ne, O'.obj, _, O'.ns, fun g => ?_, fun g hg => ?_⟩
  · have := length_putF f y fs; omega
  · show RelO ((putF f y fs).lookup g) (if g = f then some u else mA g)
    rw [lookup_putF]
    by_cases q : g = f
    · rw [if_pos q, if_pos q]; exact ry
    · rw [if_neg q, if_neg q]; exact r g
  · by_cases q : g = f
    · rw [q]; exact (keys_putF f y fs).1
    · refine (keys_putF f y fs).2 g (wi g fun z => hg ?_)
      show (if g = f then some u else mA g) = none
      rw [if_neg q]; exact z

theorem Inv.made (I : Inv X pins σ H s) : Inv X pins σ (upd (upd H s.heap.objs.size (.own (s.heap.objs.size + 1))) (s.heap.objs.size + 1) (.ins C s.heap.objs.size []))
    { s with heap := (s.heap.push PySem.W.emptyDict).push (PySem.W.instObj C s.heap.objs.size) } := by
  have e1 : (s.heap.push PySem.W.emptyDict).get? s.heap.objs.size = some PySem.W.emptyDict := Heap.get?_push_size s.heap rfl
  have e2 : ((s.heap.push PySem.W.emptyDict).push (PySem.W.instObj C s.heap.objs.size)).get? (s.heap.objs.size + 1) = some (PySem.W.instObj C s.heap.objs.size) := by
    have := Heap.get?_push_size (s.heap.push PySem.W.emptyDict) (o := PySem.W.instObj C s.heap.objs.size) rfl
    rwa [Heap.size_push] at this
  have e3 : (s.heap.push PySem.W.emptyDict).Ns s.heap.objs.size (fun _ => none) := ⟨PySem.W.emptyDict, #[], _, e1, rfl, (fun e he => absurd he (by simp)), fun _ => rfl⟩
  have I1 := I.laid (a := s.heap.objs.size) (o := .own (s.heap.objs.size + 1)) (h' := s.heap.push PySem.W.emptyDict) (t' := s.toks) (fun b u q => Heap.get?_push_of_some _ q) (Nat.le_refl _) ⟨_, e1⟩
  refine I1.laid (a := s.heap.objs.size + 1) (o := .ins C s.heap.objs.size []) (t' := s.toks) (fun b u q => Heap.get?_push_of_some _ q) (Nat.le_of_eq (Heap.size_push _ _)) ?_
  have ne : s.heap.objs.size ≠ s.heap.objs.size + 1 := Nat.ne_of_lt (Nat.lt_succ_self _)
  refine ⟨by rw [upd_ne ne, upd_same], Nat.zero_le _, ne, e2, fun _ => none, (Heap.Ns1.of_empty e3).at fun o q => Heap.get?_push_of_some _ q, fun _ => True.intro, fun y hy => absurd rfl hy⟩

theorem attr_of {prog : Program} {w : World} {env : Env} {e : Expr} {f : Str} {pos : Pos} {s : Shared} {Q : Value → Shared → Prop} (hb : attributeBase e f env (eval e env) = eval e env)
    (h : wpAny (model prog w) A (eval e env) (fun o s₁ => wpAny (model prog w) A (getAttr o f true) Q E s₁) E s) : wpAny (model prog w) A (eval (.Attribute e f pos) env) Q E s :=
  Attribute_any_ h (by rw [arm_eval_Attribute, hb])
end

noncomputable def tFld (K : PySem.W.Frag) (ta : TE) (f : Str) : TE := fun σ H Q => ta σ H fun x H1 => ∃ a C dx fs v, x = .ref a ∧ H1 a = some (.ins C dx fs) ∧ Cls K C ∧ NoAttr K C f ∧ fs.lookup f = some v ∧ Q v H1
noncomputable def sFld (K : PySem.W.Frag) (ta tv : TE) (f : Str) : TS := fun D σ H => tv σ H fun y H1 => ta σ H1 fun x H2 => ∃ a C dx fs, x = .ref a ∧ H2 a = some (.ins C dx fs) ∧ Cls K C ∧ NoAttr K C f ∧ fs.length < 1000 ∧
  D.nx σ (upd H2 a (.ins C dx (putF f y fs)))
section
variable {X : Cx} {o e value : Expr} {f : Str} {pos pos' tpos : Pos} {ta tv : TE}
theorem pe_fld (he : PE X e ta) (hb : attributeBase e f X.env (eval e X.env) = eval e X.env) : PE X (.Attribute e f pos) (tFld X.K ta f) := by
  intro pins s σ H Q I h
  refine attr_of hb (thn (he pins s σ H _ I h) fun u s1 zq => ?_)
  obtain ⟨x, H1, I1, rx, a, C, dx, fs, v, ex, ea, c, n, l, q⟩ := zq
  subst ex
  obtain rfl : u = Value.ref a := rx
  exact getattr_ok I1 ea c n l fun u' s2 I2 ru => ⟨v, H1, I2, ru, q⟩
theorem ps_fld (ha : PE X o ta) (hv : PE X value tv) (hs : swapsWith value (some (.Attribute o f pos')) pos.line X.env = pure false) : PS X (.Assign [.Attribute o f pos'] value pos) (sFld X.K ta tv f) := by
  intro pins s σ H D I h
  refine plainObj_wpAny_Assign_Attribute (thn (hv pins s σ H _ I h) fun u s1 ⟨y, H1, I1, ry, q⟩ => thn (ha pins s1 σ H1 _ I1 q) fun ov s2 zq => ?_) hs
  obtain ⟨x, H2, I2, rx, a, C, dx, fs, ex, ea, c, n, l, q2⟩ := zq
  subst ex
  obtain rfl : ov = Value.ref a := rx
  exact setattr_ok I2 ea c n l ry fun s3 I3 => ⟨σ, _, I3, q2⟩
theorem methcall_of {pl : Sem Bool} {m : Str} {apos : Pos} {args : List Expr} {pins : List (Addr × Obj)} {s : Shared} {σ : St} {H : Hp} {Q : Value → Shared → Prop} {te : TE} (he : PE X e te) (I : Inv X pins σ H s)
    (h : te σ H fun x H1 => ∃ a C dx fs g, x = .ref a ∧ H1 a = some (.ins C dx fs) ∧ Cls X.K C ∧ Meth X.K C m g ∧ fs.lookup m = none ∧
      ∀ s1, Inv X pins σ H1 s1 → wpAny (model X.prog X.w) X.A (callWith pos (.ref g) [.ref a] (backTo pos (starEach args X.env)) (backToKw pos (keywordEach [] X.env))) Q X.xe s1)
    (ht : eval (.Call (.Attribute e m apos) args [] pos) X.env = (do
      let ov ← eval e X.env
      standAt apos.atName
      let (f, first) ← holding [ov] (getMethod ov m pl)
      callWith pos f first (backTo pos (starEach args X.env)) (backToKw pos (keywordEach [] X.env)))) :
    wpAny (model X.prog X.w) X.A (eval (.Call (.Attribute e m apos) args [] pos) X.env) Q X.xe s := by
  refine PySem.W.methodCall_KW (pl := pl) (thn (he pins s σ H _ I h) fun u s1 zq => ?_) ht
  obtain ⟨x, H1, I1, rx, a, C, dx, fs, g, ex, ea, c, k, l, q⟩ := zq
  subst ex
  obtain rfl : u = Value.ref a := rx
  exact getmeth_ok I1 ea c k l (q s1 I1)
end

section
variable {X : Cx} {pins : List (Addr × Obj)} {σ : St} {H : Hp} {s : Shared} {A : Around} {E : Value → Shared → Prop} {Q : Value → Shared → Prop} {c : Value} {b : Bool}
end
end L2

namespace L2
open PySem PySem.Spec PyProof.Rows

structure Room (k : Nat) (A : Around) : Prop where
  hd : A.handled = none
  dp : A.depth + 3 * k + 5 < recursionLimit
  un : A.units + 16 * k + 200 < cLine
theorem Room.mono {j k : Nat} {A : Around} (r : Room k A) (h : j ≤ k) : Room j A := ⟨r.hd, by have := r.dp; omega, by have := r.un; omega⟩
theorem Room.deeper {k : Nat} {A : Around} (r : Room (k + 1) A) (env : Env) : Room k (A.deeper env) :=
  ⟨r.hd, by have := r.dp; show A.depth + 1 + 3 * k + 5 < _; omega, by have := r.un; show A.units + 3 + 16 * k + 200 < _; omega⟩
theorem Room.in1 {k : Nat} {A : Around} (r : Room (k + 1) A) : Room k A.in1 :=
  ⟨r.hd, by have := r.dp; show A.depth + 3 * k + 5 < _; omega, by have := r.un; show A.units + 1 + 16 * k + 200 < _; omega⟩
theorem make_depth {A : Around} {C : Addr} {us : List Value} {kw : List (Str × Value)} : (A.under (.builtin "type.__call__" ⟨.ref C :: us, kw⟩)).depth = A.depth + 1 := by
  first | rfl | simp [Around.under, Code.weight, Code.isCreation, Code.isGuard, Code.isCaller, Code.frames, Code.isFrame, guardIds]
theorem make_units {A : Around} {C : Addr} {us : List Value} {kw : List (Str × Value)} : (A.under (.builtin "type.__call__" ⟨.ref C :: us, kw⟩)).units = A.units + 1 := by
  first | rfl | simp [Around.under, Code.cUnits, Code.frames, Code.isFrame]
theorem Room.make {k : Nat} {A : Around} (r : Room (k + 1) A) (C : Addr) (us : List Value) (kw : List (Str × Value)) : Room k (A.under (.builtin "type.__call__" ⟨.ref C :: us, kw⟩)) :=
  ⟨r.hd, by have := r.dp; rw [make_depth]; omega, by have := r.un; rw [make_units]; omega⟩
theorem Room.depth {k : Nat} {A : Around} (r : Room k A) : A.depth < recursionLimit := by have := r.dp; omega
theorem Room.units {k : Nat} {A : Around} (r : Room k A) : A.units + 64 < cLine := by have := r.un; omega
theorem Room.units0 {k : Nat} {A : Around} (r : Room k A) : A.units < cLine := by have := r.un; omega

noncomputable def tNil : TA := fun _ H Q => Q [] H
noncomputable def tCons (ta : TE) (tr : TA) : TA := fun σ H Q => ta σ H fun x H1 => tr σ H1 fun xs H2 => Q (x :: xs) H2
section
variable {X : Cx} {e : Expr} {es : List Expr} {te : TE} {t : TA} {pos : Pos}
theorem pa_nil : PA X [] tNil := fun _ _ _ _ H Q I h => Calls.spliced_nil ⟨[], H, I, .nil, h⟩
theorem pa_cons (ha : PE X e te) (hr : PA X es t) (hs : starEach (e :: es) X.env = (false, eval e X.env) :: starEach es X.env := by rfl) : PA X (e :: es) (tCons te t) := by
  intro pos pins s σ H Q I h
  rw [hs]
  show wpAny _ _ (spliced ((false, eval e X.env) :: backTo pos (starEach es X.env))) _ _ s
  refine Calls.spliced_cons (thn (ha pins s σ H _ I h) fun u s1 zq => ?_)
  obtain ⟨x, H1, I1, r1, q1⟩ := zq
  exact thn (hr pos pins s1 σ H1 _ I1 q1) fun us s2 ⟨xs, H2, I2, r2, q2⟩ => ⟨x :: xs, H2, I2, .cons r1 r2, q2⟩

noncomputable def tTup (t : TA) : TE := fun σ H Q => t σ H fun xs H1 => xs.length ≤ sizeLine ∧ ∀ p, H1 p = none → Q (.ref p) (upd H1 p (.tup xs))
noncomputable def tLst (t : TA) : TE := fun σ H Q => t σ H fun xs H1 => xs.length ≤ sizeLine ∧ ∀ p, H1 p = none → Q (.ref p) (upd H1 p (.lst xs))
theorem pe_tup {x1} (h : PA X es t) : PE X (.Tuple es x1 pos) (tTup t) := by
  intro pins s σ H Q I hq
  refine wpAny_Tuple_spliced (thn (h pos pins s σ H _ I hq) fun us s1 ⟨xs, H1, I1, r, z, q⟩ => ⟨by rw [← r.length]; exact z, ?_⟩)
  have hf : H1 s1.heap.objs.size = none := I1.hok.fresh (Nat.le_refl _)
  refine ⟨.ref s1.heap.objs.size, upd H1 s1.heap.objs.size (.tup xs), I1.laid (t' := s1.toks) (fun b u e => Heap.get?_push_of_some _ e) (Nat.le_refl _) ?_, rfl, q _ hf⟩
  exact ⟨z, us, r, ⟨_, Heap.get?_push_size _ rfl, rfl, _, rfl⟩⟩
theorem pe_lst (h : PA X es t) : PE X (.List es pos) (tLst t) := by
  intro pins s σ H Q I hq
  refine wpAny_List_spliced (thn (h pos pins s σ H _ I hq) fun us s1 ⟨xs, H1, I1, r, z, q⟩ => ⟨by rw [← r.length]; exact z, ?_⟩)
  have hf : H1 s1.heap.objs.size = none := I1.hok.fresh (Nat.le_refl _)
  refine ⟨.ref s1.heap.objs.size, upd H1 s1.heap.objs.size (.lst xs), I1.laid (t' := s1.toks) (fun b u e => Heap.get?_push_of_some _ e) (Nat.le_refl _) ?_, rfl, q _ hf⟩
  exact ⟨z, us, 0, r, Heap.get?_push_size _ rfl⟩
end

noncomputable abbrev Sp := List V → Hp → VK → XK → Prop
noncomputable abbrev CXT := List Env → Hp → Shared → XK → Value → Shared → Prop

structure Env0 (P : Program) (w : World) (K : PySem.W.Frag) (mg : Str → Option Value) (base : Heap) (A : Around) (outer : List Env) (s : Shared) (H : Hp) : Prop where
  frames : A.frames = some outer
  mod : Mod K mg base
  bs : ∀ b o, base.get? b = some o → s.heap.get? b = some o ∧ H b = none
  bsz : base.objs.size ≤ s.heap.objs.size
  funs : s.heap.FunFrames base outer
  frf : ∀ b ∈ frs outer, H b = none
  hok : HOk P w H s.heap
  bare : AllBare s.gens
noncomputable def CE (outer : List Env) (P : Program) (w : World) (H : Hp) (s : Shared) (Q : VK) (u : Value) (s' : Shared) : Prop :=
  ∃ v H', s'.os = s.os ∧ AllBare s'.gens ∧ Un (frs outer) [] H H' s.heap s'.heap ∧ HOk P w H' s'.heap ∧ RelV v u ∧ Q v H'
noncomputable def CR (CX : CXT) (outer : List Env) (P : Program) (w : World) (H : Hp) (s : Shared) (Q : VK) (E : XK) (r : Result) (s' : Shared) : Prop :=
  match r with
  | .ok (.ret u) => CE outer P w H s Q u s'
  | .ok _ => False
  | .error e => CX outer H s E e s'
structure FnOk (P : Program) (w : World) (K : PySem.W.Frag) (mg : Str → Option Value) (base : Heap) (CX : CXT) (k : Nat) (f : Addr) (fd : FuncData) (ps : List Str) (sp : Sp) : Prop where
  len : ∀ vs H Q E, sp vs H Q E → vs.length = ps.length
  run : ∀ (A : Around) (outer : List Env) (s : Shared) (H : Hp) (args : Args) (us : List Value) (vs : List V) (Q : VK) (E : XK), Room k A → Env0 P w K mg base A outer s H → BindsTo s fd args (ps.zip us) → Vals vs us → sp vs H Q E →
    codeAny (model P w) A (.call (.ref f) args) (CR CX outer P w H s Q E) s
theorem FnOk.mono {P : Program} {w : World} {K : PySem.W.Frag} {mg : Str → Option Value} {base : Heap} {CX : CXT} {j k : Nat} {f : Addr} {fd : FuncData} {ps : List Str} {sp : Sp} (F : FnOk P w K mg base CX j f fd ps sp) (h : j ≤ k) :
    FnOk P w K mg base CX k f fd ps sp := ⟨F.len, fun A outer s H args us vs Q E hr => F.run A outer s H args us vs Q E (hr.mono h)⟩
theorem FnOk.imp {P : Program} {w : World} {K : PySem.W.Frag} {mg : Str → Option Value} {base : Heap} {CX : CXT} {k : Nat} {f : Addr} {fd : FuncData} {ps : List Str} {sp sp' : Sp} (F : FnOk P w K mg base CX k f fd ps sp)
    (h : ∀ vs H Q E, sp' vs H Q E → sp vs H Q E) : FnOk P w K mg base CX k f fd ps sp' :=
  ⟨fun vs H Q E q => F.len vs H Q E (h _ _ _ _ q), fun A outer s H args us vs Q E hr he hb hv hs => F.run A outer s H args us vs Q E hr he hb hv (h _ _ _ _ hs)⟩

theorem Env0.make {P : Program} {w : World} {K : PySem.W.Frag} {mg : Str → Option Value} {base : Heap} {A : Around} {outer : List Env} {s : Shared} {H : Hp} (e : Env0 P w K mg base A outer s H) (C : Addr) (us : List Value) (kw : List (Str × Value)) :
    Env0 P w K mg base (A.under (.builtin "type.__call__" ⟨.ref C :: us, kw⟩)) outer s H := ⟨by first | exact e.frames | (simpa [Around.under, Code.envs, Code.isFrame, pushEnvs] using e.frames), e.mod, e.bs, e.bsz, e.funs, e.frf, e.hok, e.bare⟩
section
variable {X : Cx} {pins : List (Addr × Obj)} {σ : St} {H : Hp} {s s' : Shared}
theorem Inv.env0 (I : Inv X pins σ H s) : Env0 X.prog X.w X.K X.mg X.base X.A X.stack s H :=
  ⟨I.ok.frames, I.ok.mod, I.bs, Nat.le_trans I.ok.bsz I.sz, I.stack, I.stkFree, I.hok, I.bare⟩
theorem Inv.after {Q : VK} {u : Value} (I : Inv X pins σ H s) (h : CE X.stack X.prog X.w H s Q u s') : EP X pins σ Q u s' := by
  obtain ⟨v, H', os, bare, un, hok, r, q⟩ := h
  obtain ⟨hh, g, d, t, os'⟩ := s'
  obtain rfl : os' = s.os := os
  exact ⟨v, H', I.call (h' := hh) (g' := g) (d' := d) (t' := t) (ch := []) un hok bare (fun b z => absurd z (by simp)), r, q⟩
end

noncomputable def tCall (sp : Sp) (dvs : List V) (E : XK) (t : TA) : TE := fun σ H Q => t σ H fun vs H1 => sp (vs ++ dvs) H1 Q E
noncomputable def tMeth (C : Addr) (m : Str) (sp : Sp) (dvs : List V) (E : XK) (ta : TE) (t : TA) : TE := fun σ H Q => ta σ H fun x H1 => ∃ a dx fs, x = .ref a ∧ H1 a = some (.ins C dx fs) ∧ fs.lookup m = none ∧
  t σ H1 fun vs H2 => sp (x :: (vs ++ dvs)) H2 Q E
noncomputable def tMake (C : Addr) (sp : Sp) (dvs : List V) (E : XK) (t : TA) : TE := fun σ H Q => t σ H fun vs H1 => ∀ x dx, H1 x = none → H1 dx = none → dx ≠ x →
  sp (.ref x :: (vs ++ dvs)) (upd (upd H1 dx (.own x)) x (.ins C dx [])) (fun v H2 => v = .non ∧ Q (.ref x) H2) E

noncomputable def Binds (K : PySem.W.Frag) (fd : FuncData) (ps : List Str) (ds : List Value) : Prop :=
  ∀ (s : Shared) (us : List Value), K.In s.heap → (us ++ ds).length = ps.length → BindsTo s fd ⟨us, []⟩ (ps.zip (us ++ ds))
theorem Binds.all {K : PySem.W.Frag} {fd : FuncData} {ps : List Str} (h : ∀ us : List Value, us.length = ps.length → bindArgs fd ⟨us, []⟩ = pure (ps.zip us)) : Binds K fd ps [] := fun s us _ hl => by
  rw [List.append_nil] at hl ⊢
  exact .of_eq (h us hl)

noncomputable def Passes (CX : CXT) (X : Cx) (E : XK) : Prop := ∀ (pins : List (Addr × Obj)) (σ : St) (H : Hp) (s : Shared) (e : Value) (s' : Shared), Inv X pins σ H s → CX X.stack H s E e s' → X.xe e s'

section
variable {X : Cx} {CX : CXT} {k : Nat} {f C : Addr} {fd : FuncData} {ps : List Str} {sp : Sp} {dvs : List V} {ds : List Value} {E : XK} {x m : Str} {p pos apos : Pos} {e o : Expr} {es : List Expr} {ta : TE} {t : TA}

theorem run_fn {pins : List (Addr × Obj)} {σ : St} {H : Hp} {s : Shared} {Q : VK} {us : List Value} {vs : List V} (F : FnOk X.prog X.w X.K X.mg X.base CX k f fd ps sp) (hr : Room k X.A) (hb : Binds X.K fd ps ds) (hd : Vals dvs ds) (hx : Passes CX X E)
    (I : Inv X pins σ H s) (r : Vals vs us) (h : sp (vs ++ dvs) H Q E) : wpAny (model X.prog X.w) X.A (call (.ref f) us) (EP X pins σ Q) X.xe s := by
  have r2 : Vals (vs ++ dvs) (us ++ ds) := r.append hd
  have hl : (us ++ ds).length = ps.length := by rw [← r2.length]; exact F.len _ _ _ _ h
  refine wpAny_call (codeAny_mono (F.run X.A X.stack s H ⟨us, []⟩ (us ++ ds) (vs ++ dvs) Q E hr I.env0 (hb s us I.kIn hl) r2 h) fun r s' hq => ?_)
  cases r with
  | error e => exact hx pins σ H s e s' I hq
  | ok fl =>
    cases fl with
    | ret u => exact I.after hq
    | next => exact False.elim hq
    | brk => exact False.elim hq
    | cont => exact False.elim hq

theorem pe_call (F : FnOk X.prog X.w X.K X.mg X.base CX k f fd ps sp) (hr : Room k X.A) (hg : Gl X x) (hm : X.mg x = some (.ref f)) (hk : PySem.W.keepIn X.K (.ref f) = true) (hb : Binds X.K fd ps ds) (hd : Vals dvs ds) (hx : Passes CX X E)
    (ha : PA X (e :: es) t) (hdb : (x == ("__debug__" : Str)) = false := by decide) (he : starEach (e :: es) X.env = (false, eval e X.env) :: starEach es X.env := by rfl) (hpl : (backTo pos (starEach es X.env)).any (·.1) = false := by rfl) :
    PE X (.Call (.Name x p) (e :: es) [] pos) (tCall sp dvs E t) := by
  intro pins s σ H Q I h
  refine wpAny_Call_Name_kw (ld_glob I hg hm ?_ hdb)
  refine PySem.W.callWith_K (h₀ := X.base) I.ok.mod.kin hk (thn (ha pos pins s σ H _ I h) fun us s1 ⟨vs, H1, I1, r, q⟩ => ⟨I1.kIn, ?_⟩) he hpl
  exact run_fn F hr hb hd hx I1 r q
theorem pe_meth {pl : Sem Bool} (he : PE X o ta) (c : Cls X.K C) (hm : Meth X.K C m f) (F : FnOk X.prog X.w X.K X.mg X.base CX k f fd ps sp) (hr : Room k X.A) (hb : Binds X.K fd ps ds) (hd : Vals dvs ds) (hx : Passes CX X E) (ha : PA X (e :: es) t)
    (hst : starEach (e :: es) X.env = (false, eval e X.env) :: starEach es X.env := by rfl) (hpl : (backTo pos (starEach es X.env)).any (·.1) = false := by rfl)
    (ht : eval (.Call (.Attribute o m apos) (e :: es) [] pos) X.env = (do
      let ov ← eval o X.env
      standAt apos.atName
      let (f, first) ← holding [ov] (getMethod ov m pl)
      callWith pos f first (backTo pos (starEach (e :: es) X.env)) (backToKw pos (keywordEach [] X.env))) := by rfl) :
    PE X (.Call (.Attribute o m apos) (e :: es) [] pos) (tMeth C m sp dvs E ta t) := by
  intro pins s σ H Q I h
  refine PySem.W.methodCall_KW (pl := pl) (thn (he pins s σ H _ I h) fun u s1 zq => ?_) ht
  obtain ⟨x, H1, I1, rx, a, dx, fs, ex, ea, l, q⟩ := zq
  subst ex
  obtain rfl : u = Value.ref a := rx
  refine getmeth_ok I1 ea c hm l ?_
  refine PySem.W.callWith_K (first := [.ref a]) (h₀ := X.base) I.ok.mod.kin hm.kp (thn (ha pos pins s1 σ H1 _ I1 q) fun us s2 ⟨vs, H2, I2, r, q2⟩ => ⟨I2.kIn, ?_⟩) hst hpl
  exact run_fn (us := .ref a :: us) (vs := .ref a :: vs) F hr hb hd hx I2 (.cons rfl r) q2
theorem pe_meth0 {pl : Sem Bool} (he : PE X o ta) (c : Cls X.K C) (hm : Meth X.K C m f) (F : FnOk X.prog X.w X.K X.mg X.base CX k f fd ps sp) (hr : Room k X.A) (hb : Binds X.K fd ps ds) (hd : Vals dvs ds) (hx : Passes CX X E)
    (ht : eval (.Call (.Attribute o m apos) [] [] pos) X.env = (do
      let ov ← eval o X.env
      standAt apos.atName
      let (f, first) ← holding [ov] (getMethod ov m pl)
      callWith pos f first (backTo pos (starEach [] X.env)) (backToKw pos (keywordEach [] X.env))) := by rfl) :
    PE X (.Call (.Attribute o m apos) [] [] pos) (tMeth C m sp dvs E ta tNil) := by
  intro pins s σ H Q I h
  refine PySem.W.methodCall_KW (pl := pl) (thn (he pins s σ H _ I h) fun u s1 zq => ?_) ht
  obtain ⟨x, H1, I1, rx, a, dx, fs, ex, ea, l, q⟩ := zq
  subst ex
  obtain rfl : u = Value.ref a := rx
  refine getmeth_ok I1 ea c hm l ?_
  exact PySem.W.callWith_K0 (first := [.ref a]) I1.kIn hm.kp (run_fn (us := [.ref a]) (vs := [.ref a]) F hr hb hd hx I1 (.cons rfl .nil) q)

structure Mk (K : PySem.W.Frag) (C f : Addr) : Prop where
  makes : PySem.W.makesIn K C = true
  init : PySem.W.findIn K (.ref C) "__init__" = some (some (.ref f))
  fn : PySem.W.isFn K (.ref f) = true
  kp : PySem.W.keepIn K (.ref C) = true

theorem run_make {pins : List (Addr × Obj)} {σ : St} {H : Hp} {s : Shared} {Q : VK} {us : List Value} {vs : List V} (M : Mk X.K C f) (F : FnOk X.prog X.w X.K X.mg X.base CX k f fd ps sp) (hr : Room (k + 1) X.A) (hb : Binds X.K fd ps ds) (hd : Vals dvs ds)
    (hx : Passes CX X E) (I : Inv X pins σ H s) (r : Vals vs us)
    (h : ∀ x dx, H x = none → H dx = none → dx ≠ x → sp (.ref x :: (vs ++ dvs)) (upd (upd H dx (.own x)) x (.ins C dx [])) (fun v H2 => v = .non ∧ Q (.ref x) H2) E) :
    wpAny (model X.prog X.w) X.A (call (.ref C) us) (EP X pins σ Q) X.xe s := by
  have hq := h (s.heap.objs.size + 1) s.heap.objs.size (I.hok.fresh (Nat.le_succ _)) (I.hok.fresh (Nat.le_refl _)) (Nat.ne_of_lt (Nat.lt_succ_self _))
  have I2 := Inv.made (C := C) I
  have r2 : Vals (V.ref (s.heap.objs.size + 1) :: (vs ++ dvs)) (Value.ref (s.heap.objs.size + 1) :: (us ++ ds)) := .cons rfl (r.append hd)
  have hl : (Value.ref (s.heap.objs.size + 1) :: us ++ ds).length = ps.length := by
    have e := r2.length
    rw [F.len _ _ _ _ hq] at e
    exact e.symm
  refine wpAny_call (make_map (f := f) I.kIn M.makes M.init (beq_iff_eq.mp M.fn) (codeAny_mono (F.run _ X.stack _ _ ⟨Value.ref (s.heap.objs.size + 1) :: us, []⟩ (Value.ref (s.heap.objs.size + 1) :: (us ++ ds)) _ _ E (hr.make C us [])
    (I2.env0.make C us []) (hb _ (Value.ref (s.heap.objs.size + 1) :: us) I2.kIn hl) r2 hq) fun r s' hq' => ?_))
  cases r with
  | error e => exact hx pins σ _ _ e s' I2 hq'
  | ok fl =>
    cases fl with
    | ret u =>
      obtain ⟨v, H', I3, rv, ev, q3⟩ := I2.after hq'
      subst ev
      exact ⟨rv, ⟨V.ref (s.heap.objs.size + 1), H', I3, rfl, q3⟩⟩
    | next => exact False.elim hq'
    | brk => exact False.elim hq'
    | cont => exact False.elim hq'
theorem pe_make0 (M : Mk X.K C f) (F : FnOk X.prog X.w X.K X.mg X.base CX k f fd ps sp) (hr : Room (k + 1) X.A) (hg : Gl X x) (hm : X.mg x = some (.ref C)) (hb : Binds X.K fd ps ds) (hd : Vals dvs ds) (hx : Passes CX X E)
    (hdb : (x == ("__debug__" : Str)) = false := by decide) : PE X (.Call (.Name x p) [] [] pos) (tMake C sp dvs E tNil) := by
  intro pins s σ H Q I h
  refine wpAny_Call_Name_kw (ld_glob I hg hm ?_ hdb)
  exact PySem.W.callWith_K0 I.kIn M.kp (run_make (us := []) M F hr hb hd hx I .nil h)
end

noncomputable def PK (X : Cx) (kws : List Keyword) (t : TA) : Prop :=
  ∀ (pos : Pos) (pins : List (Addr × Obj)) (s : Shared) (σ : St) (H : Hp) (Q : List V → Hp → Prop), Inv X pins σ H s → t σ H Q → wpAny (model X.prog X.w) X.A (evalAll ((backToKw pos (keywordEach kws X.env)).map (·.2))) (AP X pins σ Q) X.xe s
section
variable {X : Cx} {CX : CXT} {k : Nat} {f C : Addr} {fd : FuncData} {ps ks : List Str} {sp : Sp} {E : XK} {x m : Str} {p pos apos kpos : Pos} {e o : Expr} {es : List Expr} {kws : List Keyword} {te ta : TE} {t tk : TA} {nm : Option Str}
theorem pk_cons (ha : PE X e te) (hr : PK X kws t) : PK X (⟨nm, e, kpos⟩ :: kws) (tCons te t) := by
  intro pos pins s σ H Q I h
  show wpAny _ _ (evalAll ((do let v ← eval e X.env; standAt pos; pure v) :: (backToKw pos (keywordEach kws X.env)).map (·.2))) _ _ s
  refine wpAny_evalAll_cons (wpAny_bind (thn (ha pins s σ H _ I h) fun u s1 ⟨x, H1, I1, r1, q1⟩ => wpAny_bind (wpAny_standAt (wpAny_pure ?_))))
  exact thn (hr pos pins s1 σ H1 _ I1 q1) fun us s2 ⟨xs, H2, I2, r2, q2⟩ => ⟨x :: xs, H2, I2, .cons r1 r2, q2⟩

variable {g : List Value → List Value → List Value} {gV : List V → List V → List V}
end

structure FnScope (N P : List Str) (sc : Scope) : Prop where
  kind : sc.kind = .function
  co : sc.isCoroutine = false
  gen : sc.isGenerator = false
  nd : N.Nodup
  pre : N.take P.length = P
  par : ∀ x ∈ P, sc.names.lookup x = some .local ∨ sc.names.lookup x = some .cell
  nofree : ∀ y ∈ sc.names, y.2 ≠ .free

theorem bindL_out {kindOf : Str → Option NameKind} {x : Str} : ∀ {binds : List (Str × Value)} {m : Str → Option Value}, (∀ v, (x, v) ∉ binds) → bindL kindOf binds m x = m x
  | [], _, _ => rfl
  | (n, v) :: r, m, h => by
    unfold bindL
    rw [bindL_out fun w hw => h w (List.mem_cons_of_mem _ hw)]
    split
    · have : x ≠ n := by rintro rfl; exact h v List.mem_cons_self
      simp [this]
    · rfl
theorem bindC_out {kindOf : Str → Option NameKind} {x : Str} : ∀ {binds : List (Str × Value)} {m : Str → Option Value}, (∀ v, (x, v) ∉ binds) → bindC kindOf binds m x = m x
  | [], _, _ => rfl
  | (n, v) :: r, m, h => by
    unfold bindC
    rw [bindC_out fun w hw => h w (List.mem_cons_of_mem _ hw)]
    split
    · rfl
    · have : x ≠ n := by rintro rfl; exact h v List.mem_cons_self
      simp [this]
theorem bindL_get {kindOf : Str → Option NameKind} {x : Str} {v : Value} : ∀ {P : List Str} {vs : List Value} {i : Nat} {m : Str → Option Value}, P.Nodup → P[i]? = some x → vs[i]? = some v → kindOf x = some .local →
    bindL kindOf (P.zip vs) m x = some v
  | [], _, _, _, _, h, _, _ => by simp at h
  | _ :: _, [], _, _, _, _, h, _ => by simp at h
  | p :: P, w :: vs, 0, m, nd, h1, h2, hk => by
    simp at h1 h2; subst h1; subst h2
    show bindL kindOf ((p, w) :: P.zip vs) m p = _
    unfold bindL
    rw [bindL_out fun v hv => (List.nodup_cons.mp nd).1 (List.of_mem_zip hv).1, if_pos hk]
    simp
  | p :: P, w :: vs, i + 1, m, nd, h1, h2, hk => by
    show bindL kindOf ((p, w) :: P.zip vs) m x = _
    unfold bindL
    exact bindL_get (i := i) (List.nodup_cons.mp nd).2 (by simpa using h1) (by simpa using h2) hk
theorem bindC_get {kindOf : Str → Option NameKind} {x : Str} {v : Value} : ∀ {P : List Str} {vs : List Value} {i : Nat} {m : Str → Option Value}, P.Nodup → P[i]? = some x → vs[i]? = some v → kindOf x ≠ some .local →
    bindC kindOf (P.zip vs) m x = some v
  | [], _, _, _, _, h, _, _ => by simp at h
  | _ :: _, [], _, _, _, _, h, _ => by simp at h
  | p :: P, w :: vs, 0, m, nd, h1, h2, hk => by
    simp at h1 h2; subst h1; subst h2
    show bindC kindOf ((p, w) :: P.zip vs) m p = _
    unfold bindC
    rw [bindC_out fun v hv => (List.nodup_cons.mp nd).1 (List.of_mem_zip hv).1, if_neg hk]
    simp
  | p :: P, w :: vs, i + 1, m, nd, h1, h2, hk => by
    show bindC kindOf ((p, w) :: P.zip vs) m x = _
    unfold bindC
    exact bindC_get (i := i) (List.nodup_cons.mp nd).2 (by simpa using h1) (by simpa using h2) hk

noncomputable def start (N : List Str) (vs : List V) : St := vs.map some ++ List.replicate (N.length - vs.length) none

noncomputable def cxOf (CX : CXT) (P : Program) (w : World) (K : PySem.W.Frag) (mg : Str → Option Value) (base : Heap) (N : List Str) (qual : Str) (scope : Scope) (f : Addr) (cd : Value) (A : Around) (outer : List Env) (s : Shared) (H : Hp) (E : XK) : Cx where
  prog := P
  w := w
  K := K
  mg := mg
  base := base
  A := A.deeper (envOfC qual scope s.heap.objs.size f cd)
  N := N
  s_0 := s
  H_0 := H
  env := envOfC qual scope s.heap.objs.size f cd
  outer := outer
  stack := envOfC qual scope s.heap.objs.size f cd :: outer
  ex := []
  calm := true
  fn := fun _ => true
  pn := []
  xe := fun e s' => wpAny (model P w) (A.deeper (envOfC qual scope s.heap.objs.size f cd)) (leaving (envOfC qual scope s.heap.objs.size f cd) e) (fun _ s'' => CX outer H s E e s'') (fun e' s'' => CX outer H s E e' s'') s'

theorem cell_has {sc : Scope} {n : Nat} {x : Str} (h : sc.names.lookup x = some .cell) : ∃ c, (cellsFrom n sc.names []).lookup x = some c := by
  have q := PySem.W.cellsFrom_some sc.names n [] (.inl h)
  exact Option.isSome_iff_exists.mp q

theorem inv_start {CX : CXT} {P : Program} {w : World} {K : PySem.W.Frag} {mg : Str → Option Value} {base : Heap} {N ps : List Str} {qual : Str} {scope : Scope} {f : Addr} {cd : Value} {A : Around} {outer : List Env} {s s1 : Shared} {H : Hp} {E : XK} {us : List Value} {vs : List V}
    (S : FnScope N ps scope) (hd : A.handled = none) (e0 : Env0 P w K mg base A outer s H) (hl : vs.length = ps.length) (r : Vals vs us)
    (x : InCallC s s.heap.objs.size (bindL (envOfC qual scope s.heap.objs.size f cd).kindOf (ps.zip us) fun _ => none) (cellsFrom (s.heap.objs.size + 1) scope.names []) (bindC (envOfC qual scope s.heap.objs.size f cd).kindOf (ps.zip us) fun _ => none) s1) :
    Inv (cxOf CX P w K mg base N qual scope f cd A outer s H E) [] (start N vs) H s1 := by
  have hpl : ps.length ≤ N.length := by have := congrArg List.length S.pre; rw [List.length_take] at this; omega
  obtain ⟨h1, tk, rfl, hk⟩ := x.done
  have noA : ∀ b : Addr, b ∉ (cxOf CX P w K mg base N qual scope f cd A outer s H E).ex := fun b z => absurd (show b ∈ ([] : List Addr) from z) (by simp)
  refine ⟨⟨e0.mod, S.kind, rfl, rfl, Nat.le_refl _, fun y z c h1 h2 => ?_, fun y hy => ?_, fun y c _ h => ?_, fun _ => hd, Around.frames_deeper e0.frames, .inr ⟨rfl, rfl⟩, fun b z => absurd z (noA b), e0.bs, e0.bsz, fun b _ _ => noA b, fun b z => absurd z (noA b), e0.funs, e0.frf⟩,
    rfl, e0.bare, Un.kept hk, ⟨_, x.toInCall.ns, fun i y v h1 h2 h3 => ?_⟩, fun y c h => ⟨_, x.cell y c h⟩, e0.hok.fresh (Nat.le_refl _), fun y c h => ?_, fun p hp => absurd (show p ∈ ([] : List (Addr × Obj)) from hp) (by simp), e0.hok.kept hk, ?_⟩
  · exact name_of_addr x.apart (PySem.mem_of_lookup h1) (PySem.mem_of_lookup h2)
  · have hy : scope.names.lookup y = some .cell ∨ scope.names.lookup y = some .free := hy
    rcases hy with hy | hy
    · exact cell_has hy
    · exact absurd rfl (S.nofree _ (PySem.mem_of_lookup hy))
  · exact Nat.le_of_lt (x.above y c (PySem.mem_of_lookup h))
  · have hi : i < vs.length := by
      unfold start at h2
      by_cases hi : i < vs.length
      · exact hi
      · rw [List.getElem?_append_right (by simpa using hi)] at h2
        rw [List.getElem?_replicate] at h2
        split at h2 <;> cases h2
    have ha : vs[i]? = some v := by
      unfold start at h2
      rw [List.getElem?_append_left (by simpa using hi), List.getElem?_map] at h2
      cases e : vs[i]? with
      | none => rw [e] at h2; cases h2
      | some a => rw [e] at h2; cases h2; rfl
    obtain ⟨u, hu, rv⟩ := r.get ha
    have hp : ps[i]? = some y := by
      rw [← S.pre, List.getElem?_take_of_lt (by omega)]; exact h1
    have ndP : ps.Nodup := by rw [← S.pre]; exact S.nd.sublist (List.take_sublist _ _)
    refine ⟨u, rv, ?_⟩
    rcases S.par y (List.mem_of_getElem? hp) with k | k
    · exact .inl ⟨k, bindL_get ndP hp hu k⟩
    · obtain ⟨c, e⟩ := cell_has (n := s.heap.objs.size + 1) k
      refine .inr ⟨.inl k, c, e, ?_⟩
      have q := x.cell y c e
      rw [bindC_get ndP hp hu (by show scope.names.lookup y ≠ _; rw [k]; decide)] at q
      exact q
  · exact e0.hok.fresh (Nat.le_of_lt (x.above y c (PySem.mem_of_lookup h)))
  · unfold start
    show _ = N.length
    rw [List.length_append, List.length_map, List.length_replicate]
    omega

theorem fn_of {CX : CXT} {P : Program} {w : World} {K : PySem.W.Frag} {mg : Str → Option Value} {base : Heap} {k : Nat} {f : Addr} {name qual : Str} {params : Arguments} {body : List Stmt} {scope : Scope} {dV kV doc pm cdv ct oc : Value} {an od : Option Addr}
    {osl : Array (Option Value)} {N ps : List Str} {sp : Sp} (lk : K.lookup f = some ⟨oc, od, .func (PySem.W.fnOf name qual params body scope dV kV doc pm an cdv ct), osl⟩) (hcd : PySem.W.codeIn K cdv qual = true) (S : FnScope N ps scope)
    (len : ∀ vs H Q E, sp vs H Q E → vs.length = ps.length)
    (hbody : ∀ (A : Around) (outer : List Env) (s : Shared) (H : Hp) (vs : List V) (Q : VK) (E : XK), Room k (A.deeper (envOfC qual scope s.heap.objs.size f cdv)) → sp vs H Q E →
      ∃ t, PSs (cxOf CX P w K mg base N qual scope f cdv A outer s H E) body t ∧ t { nx := fun _ H' => Q .non H', rt := Q } (start N vs) H) :
    FnOk P w K mg base CX (k + 1) f (PySem.W.fnOf name qual params body scope dV kV doc pm an cdv ct) ps sp := by
  refine ⟨len, fun A outer s H args us vs Q E hr e0 hb r hsp => ?_⟩
  have hl := len _ _ _ _ hsp
  have KX : K.In s.heap := e0.mod.kin.keeps fun b o e => (e0.bs b o e).1
  have lim : s.heap.NoLimit := e0.mod.nolimit.keeps fun b o e => (e0.bs b o e).1
  have hkind : ∀ y ∈ ps.zip us, scope.names.lookup y.1 = some .local ∨ (scope.names.lookup y.1 = some .cell ∧ ((cellsFrom (s.heap.objs.size + 1) scope.names []).lookup y.1).isSome = true) := fun ⟨n, v⟩ hy => by
    rcases S.par n (List.of_mem_zip hy).1 with q | q
    · exact .inl q
    · exact .inr ⟨q, PySem.W.cellsFrom_some _ _ _ (.inl q)⟩
  refine codeAny_call_function hr.depth (KX _ _ lk) rfl S.co S.gen rfl (PySem.W.codeRec_of KX hcd) (hb _ _ _ _ ?_)
  refine wpAny_newFunctionEnv_cells S.kind hkind fun env he s1 x => ?_
  subst he
  refine ⟨lim.keeps x.toInCall.keep, codeAny_func ?_⟩
  obtain ⟨t, ht, hq⟩ := hbody A outer s H vs Q E (hr.deeper _) hsp
  have I : Inv (cxOf CX P w K mg base N qual scope f cdv A outer s H E) [] (start N vs) H s1 := inv_start S hr.hd e0 hl r x
  refine wpAny_mono (ht [] s1 (start N vs) H _ I hq) (fun fl s' hs => ?_) fun e s' hs => hs
  have fin : ∀ {σ' : St} {H' : Hp} {v : V} {u : Value}, Inv (cxOf CX P w K mg base N qual scope f cdv A outer s H E) [] σ' H' s' → RelV v u → Q v H' → CE outer P w H s Q u s' :=
    fun {σ' H' v u} J rv q => ⟨v, H', J.os, J.bare, J.base, J.hok, rv, q⟩
  cases fl with
  | ret u =>
    obtain ⟨v, σ', H', J, rv, q⟩ := hs
    exact fin J rv q
  | next =>
    obtain ⟨σ', H', J, q⟩ := hs
    exact fin (v := V.non) (u := Value.none) J rfl q
  | brk =>
    obtain ⟨_, _, _, q⟩ := hs
    exact False.elim q
  | cont =>
    obtain ⟨_, _, _, q⟩ := hs
    exact False.elim q
end L2

namespace L2
open PySem PySem.Spec PyProof.Rows
section
variable {X : Cx} {x : Str} {p pos : Pos} {e : Expr} {es : List Expr} {t : TA} {id T : String} {r : List V → Hp → VK → Prop}

noncomputable def tCB (r : List V → Hp → VK → Prop) (t : TA) : TE := fun σ H Q => t σ H fun vs H1 => r vs H1 Q
theorem pe_callB (hc : CallR X (.builtin id) r) (hg : Gl X x) (hm : X.mg x = none) (hv : bootBuiltins x = some (.builtin id)) (ha : PA X (e :: es) t) (hn : x ≠ "__name__" := by decide) (hdb : (x == ("__debug__" : Str)) = false := by decide)
    (he : starEach (e :: es) X.env = (false, eval e X.env) :: starEach es X.env := by rfl) (hpl : (backTo pos (starEach es X.env)).any (·.1) = false := by rfl) : PE X (.Call (.Name x p) (e :: es) [] pos) (tCB r t) := by
  intro pins s σ H Q I h
  refine wpAny_Call_Name_kw (ld_blt I hg hm hv ?_ hn hdb)
  exact PyProof.Rows.callWith_builtin1 (thn (ha pos pins s σ H _ I h) fun us s1 ⟨vs, H1, I1, r1, q1⟩ => hc pins s1 σ H1 vs us Q I1 r1 q1) he hpl
theorem pe_callTy (hc : CallR X (.type T) r) (hg : Gl X x) (hm : X.mg x = none) (hv : bootBuiltins x = some (.type T)) (ha : PA X (e :: es) t) (hn : x ≠ "__name__" := by decide) (hdb : (x == ("__debug__" : Str)) = false := by decide)
    (he : starEach (e :: es) X.env = (false, eval e X.env) :: starEach es X.env := by rfl) (hpl : (backTo pos (starEach es X.env)).any (·.1) = false := by rfl) : PE X (.Call (.Name x p) (e :: es) [] pos) (tCB r t) := by
  intro pins s σ H Q I h
  refine wpAny_Call_Name_kw (ld_blt I hg hm hv ?_ hn hdb)
  exact PyProof.Rows.callWith_type1 (thn (ha pos pins s σ H _ I h) fun us s1 ⟨vs, H1, I1, r1, q1⟩ => hc pins s1 σ H1 vs us Q I1 r1 q1) he hpl
end
end L2

namespace HT
open PySem PyProof.Rows

noncomputable def lexLt : List Int → List Int → Bool
  | [], [] => false
  | [], _ :: _ => true
  | _ :: _, [] => false
  | x :: xs, y :: ys => if x = y then lexLt xs ys else decide (x < y)
theorem lexLt_cons (x y : Int) (xs ys : List Int) : lexLt (x :: xs) (y :: ys) = if x = y then lexLt xs ys else decide (x < y) := rfl
theorem lexLt_nil_nil : lexLt [] [] = false := rfl
theorem lexLt_nil_cons (y : Int) (ys : List Int) : lexLt [] (y :: ys) = true := rfl
theorem lexLt_cons_nil (x : Int) (xs : List Int) : lexLt (x :: xs) [] = false := rfl

theorem eqAt_int (A : Around) (s : Shared) (a : Int) (t : Tok) (c : Int) (u : Tok) : ∃ e, SeqAt.EqAt A s (.int a t) (.int c u) e ∧ (e = true ↔ a = c) :=
  ⟨(a == c), SeqAt.EqAt.int_int a t c u, by simp⟩
theorem rcLt_int (A : Around) (s : Shared) (a : Int) (t : Tok) (c : Int) (u : Tok) (prog : Program) (w : World) (E : Value → Shared → Prop) (Q : Value → Shared → Prop) (h : Q (.bool (decide (a < c))) s) :
    wpAny (model prog w) A (richCompare .Lt (.int a t) (.int c u)) Q E s :=
  (PyProof.Rows.lt_int h : wpAny (model prog w) A (compareOp .Lt (.int a t) (.int c u)) Q E s)

section
open PySem.SeqAt
open PySem.AutoSeq1 (wpAny_loadPart')
open PySem.MeetsSeq PySem.MeetsSeq2 PySem.MeetsSeq3

theorem tuple_lt_ints (l b : Addr) (items items2 : Array Value) (n n2 : Nat) (dd dd2 : Option Addr) (sl sl2 : Array (Option Value)) (ns ms : List Int) (hi : IntsAre items.toList ns) (hj : IntsAre items2.toList ms) :
    Meets (Builtin.«tuple.__lt__» ⟨[.ref l, .ref b], []⟩)
      (fun _ R s => s.heap.get? l = some { cls := .type "tuple", dict := dd, data := .seq items n, slots := sl } ∧ s.heap.get? b = some { cls := .type "tuple", dict := dd2, data := .seq items2 n2, slots := sl2 } ∧
        R (.ok (.ret (.bool (lexLt ns ms)))) s) :=
  .of_wp fun prog w A R s h => by
    obtain ⟨hp, g, d, tk, os⟩ := s; obtain ⟨hl, hb, h⟩ := h
    have f2 := AutoSeq1.sub_tuple_tuple
    have z1 : items.size = ns.length := by rw [← hi.length]; simp
    have z2 : items2.size = ms.length := by rw [← hj.length]; simp
    wp_walk using wpAny_loadPart' hl, wpAny_loadPart' hb, wpAny_forIn_list _ (fun rest b s' => b.1 = none ∧ s' = ⟨hp, g, d, tk, os⟩ ∧ ∃ (vs ws : List Value) (ns' ms' : List Int), rest = vs.zip ws ∧
      IntsAre vs ns' ∧ IntsAre ws ms' ∧ ns'.length + items2.size = ms'.length + items.size ∧ R (.ok (.ret (.bool (lexLt ns' ms')))) ⟨hp, g, d, tk, os⟩) _
    case turn =>
      rintro ⟨y, x⟩ rest b s' ⟨hb', rfl, vs, ws, ns', ms', hz, hvi, hwi, hlen, hR⟩
      cases hvi with
      | nil => rw [List.zip_nil_left] at hz; cases hz
      | cons a t hvi' =>
        cases hwi with
        | nil => rw [List.zip_nil_right] at hz; cases hz
        | cons c u hwi' =>
          rw [List.zip_cons_cons] at hz
          injection hz with hyx hrest
          injection hyx with hy hx
          subst hy hx
          rw [lexLt_cons] at hR
          simp only [List.length_cons] at hlen
          obtain ⟨e, he, hiff⟩ := eqAt_int A.in1 ⟨hp, g, d, tk, os⟩ a t c u
          refine wpAny_bind (he prog w _ _ ?_)
          cases e with
          | true =>
            rw [if_pos (hiff.mp rfl)] at hR
            wp_walk
            exact ⟨rfl, rfl, _, _, _, _, hrest, hvi', hwi', by omega, hR⟩
          | false =>
            rw [if_neg (fun q => absurd (hiff.mpr q) Bool.false_ne_true)] at hR
            have hri := rcLt_int A.in1 ⟨hp, g, d, tk, os⟩ a t c u prog w
            wp_walk using hri
            exact ⟨_, rfl, by simpa using hR⟩
    case fin =>
      rintro ⟨b1, b2⟩ s' ⟨hb', rfl, vs, ws, ns', ms', hz, hvi, hwi, hlen, hR⟩
      simp only at hb'
      subst hb'
      have hv : lexLt ns' ms' = decide (items.size < items2.size) := by
        cases hvi with
        | nil =>
          cases hwi with
          | nil =>
            simp only [List.length_nil] at hlen
            rw [lexLt_nil_nil]
            exact (decide_eq_false (by omega)).symm
          | cons c u hw =>
            simp only [List.length_nil, List.length_cons] at hlen
            rw [lexLt_nil_cons]
            exact (decide_eq_true (by omega)).symm
        | cons a t hv =>
          cases hwi with
          | nil =>
            simp only [List.length_nil, List.length_cons] at hlen
            rw [lexLt_cons_nil]
            exact (decide_eq_false (by omega)).symm
          | cons c u hw =>
            rw [List.zip_cons_cons] at hz
            cases hz
      rw [hv] at hR
      wp_walk
      exact ⟨_, rfl, by simpa [Builtin.Tuple.tupleCompareSizes] using hR⟩
    case h =>
      exact ⟨rfl, rfl, items.toList, items2.toList, ns, ms, rfl, hi, hj, by omega, h⟩
end

section
variable {prog : Program} {w : World} {A : Around} {E : Value → Shared → Prop} {s : Shared}

theorem lt_tupInts {l b : Addr} {items items2 : Array Value} {ns ms : List Int} {Q : Value → Shared → Prop} (hl : IsTup s.heap l items) (hb : IsTup s.heap b items2) (hi : IntsAre items.toList ns) (hj : IntsAre items2.toList ms)
    (hu : A.units < cLine) (h : Q (.bool (lexLt ns ms)) s) : wpAny (model prog w) A (compareOp .Lt (.ref l) (.ref b)) Q E s := by
  obtain ⟨⟨cls, dd, data, sl⟩, ho, hc, n, hd⟩ := id hl
  obtain ⟨⟨cls2, dd2, data2, sl2⟩, ho2, hc2, n2, hd2⟩ := id hb
  simp only at hc hd hc2 hd2
  subst hc hd hc2 hd2
  exact richCompare_meets_room (op := .Lt) ⟨_, ho, rfl⟩ ⟨_, ho2, rfl⟩ PySem.F.slot_tuple_lt PySem.F.entry_tuple_lt (PySem.F.args_tuple_lt_2 _ _) (tuple_lt_ints l b items items2 n n2 dd dd2 sl sl2 ns ms hi hj)
    ⟨ho, ho2, show Value.bool (lexLt ns ms) ≠ Value.notImplemented ∧ Q (.bool (lexLt ns ms)) s from ⟨(fun x => nomatch x), h⟩⟩ hu

noncomputable def sIx (n d : Nat) : Option Int → Nat
  | none => d
  | some v => if v < 0 then (v + (n : Int)).toNat else min v.toNat n
theorem sIx_nat (n d k : Nat) : sIx n d (some (k : Int)) = min k n := by
  show (if (k : Int) < 0 then ((k : Int) + (n : Int)).toNat else min (k : Int).toNat n) = min k n
  rw [if_neg (by omega), Int.toNat_natCast]
end
end HT

namespace L2
open PySem PySem.Spec PyProof.Rows

noncomputable abbrev TO := St → Hp → (Option Int → Hp → Prop) → Prop
noncomputable def PO (X : Cx) (e : Option Expr) (t : TO) : Prop :=
  ∀ (pins : List (Addr × Obj)) (s : Shared) (σ : St) (H : Hp) (Q : Option Int → Hp → Prop), Inv X pins σ H s → t σ H Q →
    wpAny (model X.prog X.w) X.A (evalPart e X.env) (fun u s' => ∃ o H', Inv X pins σ H' s' ∧ IsPart u o ∧ Q o H') X.xe s
noncomputable def tNoPart : TO := fun _ H Q => Q none H
noncomputable def tPart (t : TE) : TO := fun σ H Q => t σ H fun x H1 => ∃ i, x = .int i ∧ Q (some i) H1

theorem intsAre_of {ns : List Int} : ∀ {us : List Value}, Vals (ns.map V.int) us → IntsAre us ns := by
  induction ns with
  | nil => intro us r; rw [List.map_nil] at r; cases r; exact .nil
  | cons n ns ih =>
    intro us r
    rw [List.map_cons] at r
    cases r with
    | cons r1 r2 =>
      obtain ⟨t, e⟩ := r1
      subst e
      exact .cons n t (ih r2)

section
variable {X : Cx} {e : Expr} {te : TE} {lo hi : Option Expr} {tl th : TO} {pos p2 : Pos}

theorem po_none : PO X none tNoPart := by
  intro pins s σ H Q I h
  rw [evalPart_none]
  exact wpAny_pure ⟨none, H, I, .none, h⟩
theorem po_some (h : PE X e te) : PO X (some e) (tPart te) := by
  intro pins s σ H Q I hw
  rw [evalPart_some]
  refine thn (h pins s σ H _ I hw) fun u s1 zq => ?_
  obtain ⟨x, H1, I1, r1, q1⟩ := zq
  obtain ⟨i, rfl, q⟩ := q1
  obtain ⟨t, rfl⟩ := r1
  exact ⟨some i, H1, I1, .int i t, q⟩

noncomputable def SlR (X : Cx) (r : V → Option Int → Option Int → Hp → VK → Prop) : Prop :=
  ∀ (pins : List (Addr × Obj)) (s : Shared) (σ : St) (H : Hp) (x : V) (v vl vu : Value) (lo hi : Option Int) (sl : Addr) (Q : VK), Inv X pins σ H s → RelV x v → s.heap.IsSliceOf sl vl vu .none → IsPart vl lo → IsPart vu hi → r x lo hi H Q →
    ∃ T id, typeLookup (.type T) "__getitem__" = pure (some (.builtin id)) ∧ s.TypeIs v T ∧ wpAny (model X.prog X.w) X.A (getItem v (.ref sl)) (EP X pins σ Q) X.xe s
noncomputable def tSl (r : V → Option Int → Option Int → Hp → VK → Prop) (te : TE) (tl th : TO) : TE := fun σ H Q => te σ H fun x H1 => tl σ H1 fun l H2 => th σ H2 fun u H3 => r x l u H3 Q
theorem pe_slice {r : V → Option Int → Option Int → Hp → VK → Prop} (hr : SlR X r) (he : PE X e te) (hl : PO X lo tl) (hu : PO X hi th) : PE X (.Subscript e (.Slice lo hi none p2) pos) (tSl r te tl th) := by
  intro pins s σ H Q I h
  refine Subscript_ (thn (he pins s σ H _ I h) fun v s1 zq => ?_)
  obtain ⟨x, H1, I1, r1, q1⟩ := zq
  refine wpAny_Slice (thn (hl pins s1 σ H1 _ I1 q1) fun vl s2 ⟨l, H2, I2, pl, q2⟩ => thn (hu pins s2 σ H2 _ I2 q2) fun vu s3 zq => ?_)
  obtain ⟨u, H3, I3, pu, q3⟩ := zq
  rw [evalPart_none]
  refine wpAny_pure ?_
  have I4 : Inv X pins σ H3 { s3 with heap := s3.heap.push { cls := .type "slice", data := .fields #[vl, vu, .none] } } := I3.kept (t' := s3.toks) fun b ob q => Heap.get?_push_of_some _ q
  obtain ⟨T, id, hT, ht, hg⟩ := hr pins { s3 with heap := s3.heap.push { cls := .type "slice", data := .fields #[vl, vu, .none] } } σ H3 x v vl vu l u s3.heap.objs.size Q I4 r1 (Heap.IsSliceOf.new ..) pl pu q3
  show wpAny (model X.prog X.w) X.A (subscriptTail e (.Slice lo hi none p2) v (.ref s3.heap.objs.size)) (EP X pins σ Q) X.xe { s3 with heap := s3.heap.push { cls := .type "slice", data := .fields #[vl, vu, .none] } }
  exact tail_any (ops := [.ref s3.heap.objs.size, v]) ht hT hg (by with_unfolding_all rfl)

noncomputable def cutV (xs : List V) (lo hi : Option Int) : List V := (xs.drop (HT.sIx xs.length 0 lo)).take (HT.sIx xs.length xs.length hi - HT.sIx xs.length 0 lo)
theorem cutV_length (xs : List V) (lo hi : Option Int) : (cutV xs lo hi).length ≤ xs.length := by
  unfold cutV
  rw [List.length_take, List.length_drop]
  omega
noncomputable def rLtT (K : PySem.W.Frag) : R2 := fun x y H Q => ∃ a b ns ms, x = .ref a ∧ y = .ref b ∧ SqT K H a (ns.map V.int) ∧ SqT K H b (ms.map V.int) ∧ Q (.bl (HT.lexLt ns ms)) H
theorem op_ltT (hu : X.A.units < cLine) : OpR X (compareOp .Lt) (rLtT X.K) := by
  intro pins s σ H x y v u Q I rx ry h
  obtain ⟨a, b, ns, ms, rfl, rfl, ha, hb, q⟩ := h
  cases rx
  cases ry
  obtain ⟨its, r1, p1, _⟩ := I.tuple ha
  obtain ⟨its2, r2, p2, _⟩ := I.tuple hb
  have i1 : IntsAre its.toArray.toList ns := intsAre_of r1
  have i2 : IntsAre its2.toArray.toList ms := intsAre_of r2
  exact HT.lt_tupInts p1 p2 i1 i2 hu ⟨.bl (HT.lexLt ns ms), H, I, rfl, q⟩
end
end L2

namespace L2
open PySem PySem.Spec PyProof.Rows

noncomputable def ixN (n : Nat) (i : Int) : Option Nat := if 0 ≤ i then (if i < n then some i.toNat else none) else if -(n : Int) ≤ i then some (i + n).toNat else none
noncomputable def atI {α : Type} (xs : List α) (i : Int) : Option α := (ixN xs.length i).bind fun j => xs[j]?
theorem ixN_seq {n : Nat} {i : Int} {j : Nat} (h : ixN n i = some j) : seqIndex? i n = some j ∧ j < n ∧ -(n : Int) ≤ i ∧ i < n := by
  unfold ixN at h
  by_cases h0 : 0 ≤ i
  · rw [if_pos h0] at h
    by_cases h1 : i < n
    · rw [if_pos h1] at h
      have e : i.toNat = j := Option.some.inj h
      exact ⟨by rw [seqIndex_of h0 h1, e], by omega, by omega, h1⟩
    · rw [if_neg h1] at h; cases h
  · rw [if_neg h0] at h
    by_cases h1 : -(n : Int) ≤ i
    · rw [if_pos h1] at h
      have e : (i + n).toNat = j := Option.some.inj h
      exact ⟨by rw [seqIndex_neg (by omega) h1, e], by omega, h1, by omega⟩
    · rw [if_neg h1] at h; cases h
theorem atI_get {α : Type} {xs : List α} {i : Int} {v : α} (h : atI xs i = some v) : ∃ j, seqIndex? i xs.length = some j ∧ xs[j]? = some v ∧ j < xs.length ∧ -(xs.length : Int) ≤ i ∧ i < xs.length := by
  unfold atI at h
  cases e : ixN xs.length i with
  | none => rw [e] at h; cases h
  | some j =>
    rw [e] at h
    obtain ⟨h1, h2, h3, h4⟩ := ixN_seq e
    exact ⟨j, h1, h, h2, h3, h4⟩
theorem atI_nat {α : Type} {xs : List α} {j : Nat} {v : α} (h : xs[j]? = some v) : atI xs (j : Int) = some v := by
  have hj : j < xs.length := (List.getElem?_eq_some_iff.mp h).1
  have e : ixN xs.length (j : Int) = some j := by
    unfold ixN
    rw [if_pos (by omega), if_pos (by omega)]; simp
  unfold atI; rw [e]; exact h
theorem atI_last {α : Type} (xs : List α) (v : α) : atI (xs ++ [v]) (-1) = some v := by
  have hl : (xs ++ [v]).length = xs.length + 1 := by simp
  have e : ixN (xs ++ [v]).length (-1) = some xs.length := by
    unfold ixN
    rw [hl, if_neg (by decide), if_pos (by omega)]
    congr 1
    omega
  unfold atI
  rw [e]
  show (xs ++ [v])[xs.length]? = some v
  simp

noncomputable def PlainIx (b : Expr) : Prop := ∀ o i, subscripted b false o i = operate [o, i] (getItem o i)
noncomputable def IxR (X : Cx) (r : R2) : Prop :=
  ∀ (value slice : Expr) (pins : List (Addr × Obj)) (s : Shared) (σ : St) (H : Hp) (x y : V) (v u : Value) (Q : VK), Inv X pins σ H s → RelV x v → RelV y u → r x y H Q →
    subscripted slice false v u = operate [v, u] (getItem v u) → wpAny (model X.prog X.w) X.A (subscriptTail value slice v u) (EP X pins σ Q) X.xe s
noncomputable def MtR (X : Cx) (id : String) (r : V → List V → Hp → VK → Prop) : Prop :=
  ∀ (pins : List (Addr × Obj)) (s : Shared) (σ : St) (H : Hp) (x : V) (xs : List V) (v : Value) (us : List Value) (Q : VK), Inv X pins σ H s → RelV x v → Vals xs us → r x xs H Q →
    wpAny (model X.prog X.w) X.A (call (.builtin id) (v :: us)) (EP X pins σ Q) X.xe s
section
variable {X : Cx} {a b : Expr} {ta tb : TE} {pos : Pos}
theorem pe_ix {r : R2} (hr : IxR X r) (ha : PE X a ta) (hb : PE X b tb) (hs : PlainIx b) : PE X (.Subscript a b pos) (tOp r ta tb) := by
  intro pins s σ H Q I h
  exact Subscript_ (binT ha hb I h fun v u s2 x y H2 I2 rx ry q => hr a b pins s2 σ H2 x y v u Q I2 rx ry q (hs _ _))

noncomputable def rIxL (K : PySem.W.Frag) : R2 := fun x y H Q => ∃ p xs i v, x = .ref p ∧ y = .int i ∧ SqL K H p xs ∧ atI xs i = some v ∧ Q v H
noncomputable def rIxT (K : PySem.W.Frag) : R2 := fun x y H Q => ∃ p xs i v, x = .ref p ∧ y = .int i ∧ SqT K H p xs ∧ atI xs i = some v ∧ Q v H
theorem ix_list : IxR X (rIxL X.K) := by
  intro value slice pins s σ H x y v u Q I rx ry h hs
  obtain ⟨p, xs, i, z, rfl, rfl, hq, he, q⟩ := h
  cases rx
  obtain ⟨t, rfl⟩ := ry
  obtain ⟨its, r, pl, hz⟩ := I.list hq
  obtain ⟨j, h1, h2, h3, h4, h5⟩ := atI_get he
  obtain ⟨w, ew, rw'⟩ := r.get h2
  have hl := r.length
  have hn := line63
  have fin : EP X pins σ Q w s := ⟨z, H, I, rw', q⟩
  by_cases h0 : 0 ≤ i
  · have hj : i.toNat = j := by
      rw [seqIndex_of h0 h5] at h1
      exact Option.some.inj h1
    exact item_listR pl.isList h0 (by omega) (by rw [hj]; simpa using ew) fin hs
  · have hj : (i + (its.toArray.size : Int)).toNat = j := by
      rw [seqIndex_neg (by omega) h4] at h1
      rw [List.size_toArray, ← hl]
      exact Option.some.inj h1
    exact subscriptTail_builtinR (x := w) pl.isList.typeIs slot_list_getitem.lookup
      (wpAny_getItem_list_neg (Q := fun r s' => r = w ∧ EP X pins σ Q r s') pl.isList (by omega) (by rw [List.size_toArray] <;> omega) (by omega) (by rw [hj]; simpa using ew) ⟨rfl, fin⟩) hs
theorem ix_tup : IxR X (rIxT X.K) := by
  intro value slice pins s σ H x y v u Q I rx ry h hs
  obtain ⟨p, xs, i, z, rfl, rfl, hq, he, q⟩ := h
  cases rx
  obtain ⟨t, rfl⟩ := ry
  obtain ⟨its, r, pl, hz⟩ := I.tuple hq
  obtain ⟨j, h1, h2, h3, h4, h5⟩ := atI_get he
  obtain ⟨w, ew, rw'⟩ := r.get h2
  have hl := r.length
  have hn := line63
  have fin : EP X pins σ Q w s := ⟨z, H, I, rw', q⟩
  exact subscriptTail_builtinR (x := w) pl.typeIs slot_tuple_getitem.lookup
    (getItem_tuple (j := j) (Q := fun r s' => r = w ∧ EP X pins σ Q r s') pl (by omega) (by omega) (by rw [List.size_toArray, ← hl]; exact h1) (by simpa using ew) ⟨rfl, fin⟩) hs
theorem mapSeq_set (its : List Value) (n j : Nat) (u : Value) : Obj.mapSeq (·.setIfInBounds j u) { cls := .type "list", data := .seq its.toArray n } = { cls := .type "list", data := .seq (its.set j u).toArray n } := by
  simp [Obj.mapSeq]
theorem Inv.lst {pins : List (Addr × Obj)} {σ : St} {H : Hp} {s : Shared} {p : Addr} {xs : List V} (I : Inv X pins σ H s) (h : H p = some (.lst xs)) :
    ∃ (its : List Value) (n : Nat), Vals xs its ∧ s.heap.get? p = some { cls := .type "list", data := .seq its.toArray n } ∧ xs.length ≤ sizeLine := by
  obtain ⟨z, its, n, r, e⟩ := I.hok p _ h
  exact ⟨its, n, r, e, z⟩
theorem Inv.lstUpd {pins : List (Addr × Obj)} {σ : St} {H : Hp} {s : Shared} {p : Addr} {xs ys : List V} {its its' : List Value} {n n' : Nat} {f : Obj → Obj} (I : Inv X pins σ H s) (h : H p = some (.lst xs))
    (ho : s.heap.get? p = some { cls := .type "list", data := .seq its.toArray n }) (hf : f { cls := .type "list", data := .seq its.toArray n } = { cls := .type "list", data := .seq its'.toArray n' }) (r : Vals ys its') (hz : ys.length ≤ sizeLine) (t : Nat) :
    Inv X pins σ (upd H p (.lst ys)) { s with heap := s.heap.update p f, toks := t } := by
  have e : (s.heap.update p f).get? p = some { cls := .type "list", data := .seq its'.toArray n' } := by
    rw [Heap.get?_update_self f ho (by rw [hf] <;> rfl), hf]
  refine I.write (x := p) (e := p) (by rw [h]; trivial) (.inl rfl) (fun b u hb q => (Heap.get?_update_other _ _ (Ne.symm hb)).trans q) ⟨_, e⟩ ?_
  exact ⟨hz, its', n', r, e⟩
noncomputable def rSetL : V → V → V → Hp → (Hp → Prop) → Prop := fun o i v H Q => ∃ p xs k j, o = .ref p ∧ i = .int k ∧ H p = some (.lst xs) ∧ ixN xs.length k = some j ∧ Q (upd H p (.lst (xs.set j v)))
theorem set_list : PSet X rSetL := by
  intro pins s σ H o i v ov iv u Q I ro ri rv h
  obtain ⟨p, xs, k, j, rfl, rfl, hp, hj, q⟩ := h
  cases ro
  obtain ⟨t, rfl⟩ := ri
  obtain ⟨its, n, r, ho, hz⟩ := I.lst hp
  obtain ⟨h1, h2, h3, h4⟩ := ixN_seq hj
  have hl := r.length
  have hn := line63
  have I' : Inv X pins σ (upd H p (.lst (xs.set j v))) { s with heap := s.heap.update p (Obj.mapSeq (·.setIfInBounds j u)) } :=
    I.lstUpd hp ho (mapSeq_set its n j u) (r.set rv j) (by rw [List.length_set]; exact hz) s.toks
  by_cases h0 : 0 ≤ k
  · have hk : k.toNat = j := by
      rw [seqIndex_of h0 h4] at h1
      exact Option.some.inj h1
    exact PySem.W.ki_setAt ho h0 (by omega) (by rw [List.size_toArray, ← hl]; exact h4) (by rw [hk]; exact ⟨_, I', q⟩)
  · have hk : (k + (its.toArray.size : Int)).toNat = j := by
      rw [seqIndex_neg (by omega) h3] at h1
      rw [List.size_toArray, ← hl]
      exact Option.some.inj h1
    exact PySem.W.ki_setBack ho (by omega) (by rw [List.size_toArray, ← hl]; exact h3) (by omega) (by rw [hk]; exact ⟨_, I', q⟩)

theorem slice_bounds (lo hi : Option Int) (n : Nat) : (sliceBounds lo hi none n).1 = ((HT.sIx n 0 lo : Nat) : Int) ∧ (sliceBounds lo hi none n).2.1 = ((HT.sIx n n hi : Nat) : Int) ∧ (sliceBounds lo hi none n).2.2 = 1 := by
  refine ⟨?_, ?_, rfl⟩
  · cases lo with
    | none => simp [sliceBounds, HT.sIx]
    | some i =>
      simp only [sliceBounds, HT.sIx, Option.getD_none, show (1 : Int) > 0 by decide, if_true]
      by_cases h : i < 0
      · simp only [h, if_true] <;> omega
      · simp only [h, if_false] <;> omega
  · cases hi with
    | none => simp [sliceBounds, HT.sIx]
    | some i =>
      simp only [sliceBounds, HT.sIx, Option.getD_none, show (1 : Int) > 0 by decide, if_true]
      by_cases h : i < 0
      · simp only [h, if_true] <;> omega
      · simp only [h, if_false] <;> omega
theorem slicePick_cut (its : List Value) (lo hi : Option Int) : slicePick its.toArray lo hi none = ((its.drop (HT.sIx its.length 0 lo)).take (HT.sIx its.length its.length hi - HT.sIx its.length 0 lo)).toArray := by
  obtain ⟨h1, h2, h3⟩ := slice_bounds lo hi its.toArray.size
  unfold slicePick
  rw [h1, h2, h3]
  simp only [sliceRange_one, pick_run, List.size_toArray] <;> rfl
noncomputable def rSlL (K : PySem.W.Frag) : V → Option Int → Option Int → Hp → VK → Prop := fun x lo hi H Q => ∃ a xs, x = .ref a ∧ SqL K H a xs ∧ ∀ p, H p = none → Q (.ref p) (upd H p (.lst (cutV xs lo hi)))
theorem sl_list : SlR X (rSlL X.K) := by
  intro pins s σ H x v vl vu lo hi sl Q I rx hs pl pu h
  obtain ⟨a, xs, rfl, hx, q⟩ := h
  cases rx
  obtain ⟨its, r, ht, hz⟩ := I.list hx
  have hlen := r.length
  refine ⟨"list", _, slot_list_getitem.lookup, ht.isList.typeIs, ?_⟩
  refine wpAny_getItem_list_slice ht.isList hs pl pu .none (by simp) ?_ (by rw [List.size_toArray] <;> omega)
  rw [slicePick_cut, ← hlen]
  refine ⟨.ref s.heap.objs.size, _, I.laid (t' := s.toks) (o := .lst (cutV xs lo hi)) (fun b ob q => Heap.get?_push_of_some _ q) (Nat.le_refl _) ?_, rfl, q _ (I.hok.fresh (Nat.le_refl _))⟩
  exact ⟨Nat.le_trans (cutV_length xs lo hi) hz, _, 0, (r.drop (HT.sIx xs.length 0 lo)).take (HT.sIx xs.length xs.length hi - HT.sIx xs.length 0 lo), Heap.get?_push_size _ rfl⟩

noncomputable def flatV : V → Bool
  | .non => true
  | .bl _ => true
  | .int _ => true
  | .str _ => true
  | _ => false
noncomputable def eqV : V → V → Bool
  | .non, .non => true
  | .bl a, .bl b => a == b
  | .bl a, .int b => (if a then 1 else 0) == b
  | .int a, .bl b => a == (if b then 1 else 0)
  | .int a, .int b => a == b
  | .str a, .str b => a == b
  | _, _ => false
theorem eqAt_V {A : Around} {s : Shared} {y x : V} {u v : Value} (ry : RelV y u) (rx : RelV x v) (fy : flatV y = true) (fx : flatV x = true) : SeqAt.EqAt A s u v (eqV y x) := by
  cases y with
  | non =>
    cases ry
    cases x with
    | non => cases rx; exact SeqAt.EqAt.same _
    | bl b => cases rx; exact SeqAt.EqAt.none_bool b
    | int b => obtain ⟨t, rfl⟩ := rx; exact SeqAt.EqAt.none_int b t
    | str b => obtain ⟨t, rfl⟩ := rx; exact SeqAt.EqAt.none_str b t
    | _ => exact absurd (show false = true from fx) Bool.false_ne_true
  | bl a =>
    cases ry
    cases x with
    | non => cases rx; exact SeqAt.EqAt.bool_none a
    | bl b => cases rx; exact SeqAt.EqAt.bool_bool a b
    | int b => obtain ⟨t, rfl⟩ := rx; exact SeqAt.EqAt.bool_int a b t
    | str b => obtain ⟨t, rfl⟩ := rx; exact SeqAt.EqAt.bool_str a b t
    | _ => exact absurd (show false = true from fx) Bool.false_ne_true
  | int a =>
    obtain ⟨t', rfl⟩ := ry
    cases x with
    | non => cases rx; exact SeqAt.EqAt.int_none a t'
    | bl b => cases rx; exact SeqAt.EqAt.int_bool a t' b
    | int b => obtain ⟨t, rfl⟩ := rx; exact SeqAt.EqAt.int_int a t' b t
    | str b => obtain ⟨t, rfl⟩ := rx; exact SeqAt.EqAt.int_str a t' b t
    | _ => exact absurd (show false = true from fx) Bool.false_ne_true
  | str a =>
    obtain ⟨t', rfl⟩ := ry
    cases x with
    | non => cases rx; exact SeqAt.EqAt.str_none a t'
    | bl b => cases rx; exact SeqAt.EqAt.str_bool a t' b
    | int b => obtain ⟨t, rfl⟩ := rx; exact SeqAt.EqAt.str_int a t' b t
    | str b => obtain ⟨t, rfl⟩ := rx; exact SeqAt.EqAt.str_str a t' b t
    | _ => exact absurd (show false = true from fx) Bool.false_ne_true
  | _ => exact absurd (show false = true from fy) Bool.false_ne_true
noncomputable def eqU (x : V) (u : Value) : Bool := match u with
  | .none => eqV .non x
  | .bool b => eqV (.bl b) x
  | .int i _ => eqV (.int i) x
  | .str z _ => eqV (.str z) x
  | _ => false
theorem eqU_of {x y : V} {u : Value} (r : RelV y u) (f : flatV y = true) : eqU x u = eqV y x := by
  cases y with
  | non => cases r; rfl
  | bl b => cases r; rfl
  | int i => obtain ⟨t, rfl⟩ := r; rfl
  | str z => obtain ⟨t, rfl⟩ := r; rfl
  | _ => exact absurd (show false = true from f) Bool.false_ne_true
theorem any_eqU {x : V} : ∀ {xs : List V} {us : List Value}, Vals xs us → xs.all flatV = true → us.any (eqU x) = xs.any fun y => eqV y x
  | _, _, .nil, _ => rfl
  | y :: xs, u :: us, .cons r t, f => by
    rw [List.all_cons, Bool.and_eq_true] at f
    rw [List.any_cons, List.any_cons, eqU_of r f.1, any_eqU t f.2]
theorem mem_eqAt {A : Around} {s : Shared} {x : V} {v : Value} (rx : RelV x v) (fx : flatV x = true) : ∀ {xs : List V} {us : List Value}, Vals xs us → xs.all flatV = true → ∀ u ∈ us, SeqAt.EqAt A s u v (eqU x u)
  | _, _, .nil, _ => fun u hu => by cases hu
  | y :: xs, u :: us, .cons r t, f => fun u' hu => by
    rw [List.all_cons, Bool.and_eq_true] at f
    rcases List.mem_cons.mp hu with rfl | hu
    · rw [eqU_of r f.1]; exact eqAt_V r rx f.1 fx
    · exact mem_eqAt rx fx t f.2 u' hu
noncomputable def inV (x : V) (xs : List V) : Bool := xs.any fun y => eqV y x
noncomputable def rIn (K : PySem.W.Frag) (neg : Bool) : R2 := fun x y H Q => ∃ p xs, y = .ref p ∧ (SqL K H p xs ∨ SqT K H p xs) ∧ flatV x = true ∧ xs.all flatV = true ∧ Q (.bl (if neg then !inV x xs else inV x xs)) H
theorem op_in_seq : OpR X (compareOp .In) (rIn X.K false) := by
  intro pins s σ H x y v u Q I rx ry h
  obtain ⟨p, xs, rfl, hq, fx, fs, q⟩ := h
  cases ry
  rcases hq with hq | hq
  · obtain ⟨its, r, pl, hz⟩ := I.list hq
    refine SeqAt.in_listAt (eqU x) pl.isList (fun w hw => mem_eqAt rx fx r fs w (by simpa using hw)) ⟨.bl _, H, I, rfl, ?_⟩
    rw [show its.toArray.any (eqU x) = its.any (eqU x) by simp, any_eqU r fs]
    exact q
  · obtain ⟨its, r, pl, hz⟩ := I.tuple hq
    refine SeqAt.in_tupleAt (eqU x) pl (fun w hw => mem_eqAt rx fx r fs w (by simpa using hw)) ⟨.bl _, H, I, rfl, ?_⟩
    rw [show its.toArray.any (eqU x) = its.any (eqU x) by simp, any_eqU r fs]
    exact q
theorem op_notIn_seq : OpR X (compareOp .NotIn) (rIn X.K true) := by
  intro pins s σ H x y v u Q I rx ry h
  obtain ⟨p, xs, rfl, hq, fx, fs, q⟩ := h
  cases ry
  rcases hq with hq | hq
  · obtain ⟨its, r, pl, hz⟩ := I.list hq
    refine SeqAt.notIn_listAt (eqU x) pl.isList (fun w hw => mem_eqAt rx fx r fs w (by simpa using hw)) ⟨.bl _, H, I, rfl, ?_⟩
    rw [show its.toArray.any (eqU x) = its.any (eqU x) by simp, any_eqU r fs]
    exact q
  · obtain ⟨its, r, pl, hz⟩ := I.tuple hq
    refine SeqAt.notIn_tupleAt (eqU x) pl (fun w hw => mem_eqAt rx fx r fs w (by simpa using hw)) ⟨.bl _, H, I, rfl, ?_⟩
    rw [show its.toArray.any (eqU x) = its.any (eqU x) by simp, any_eqU r fs]
    exact q
theorem call_len_seq : CallR X (.builtin "len") (fun xs H Q => ∃ p ys, xs = [.ref p] ∧ (SqL X.K H p ys ∨ SqT X.K H p ys) ∧ Q (.int ys.length) H) := by
  intro pins s σ H xs us Q I r h
  obtain ⟨p, ys, rfl, hq, q⟩ := h
  obtain ⟨u, rfl, rx⟩ := vals1 r
  cases rx
  have hn := line63
  rcases hq with hq | hq
  · obtain ⟨its, r', pl, hz⟩ := I.list hq
    have hlen := r'.length
    exact Calls.call_len_list pl.isList (by simp only [List.size_toArray] <;> omega) ⟨.int ys.length, H, I.tok _, ⟨s.toks + 1, by rw [List.size_toArray, hlen]⟩, q⟩
  · obtain ⟨its, r', pl, hz⟩ := I.tuple hq
    have hlen := r'.length
    exact len_tuple pl (by simp only [List.size_toArray] <;> omega) ⟨.int ys.length, H, I.tok _, ⟨s.toks + 1, by rw [List.size_toArray, hlen]⟩, q⟩
theorem call_list_of : CallR X (.type "list") (fun xs H Q => ∃ p ys, xs = [.ref p] ∧ (SqL X.K H p ys ∨ SqT X.K H p ys) ∧ ∀ l, H l = none → Q (.ref l) (upd H l (.lst ys))) := by
  intro pins s σ H xs us Q I r h
  obtain ⟨p, ys, rfl, hq, q⟩ := h
  obtain ⟨u, rfl, rx⟩ := vals1 r
  cases rx
  have fin : ∀ (its : List Value), Vals ys its → ys.length ≤ sizeLine → ∀ (h' : Heap) (c' : Nat), (∀ b o', s.heap.get? b = some o' → h'.get? b = some o') →
      h'.get? s.heap.objs.size = some { cls := .type "list", dict := none, data := .seq its.toArray c', slots := #[] } → EP X pins σ Q (.ref s.heap.objs.size) { s with heap := h' } := fun its r' hz h' c' kp e =>
    ⟨.ref s.heap.objs.size, _, I.laid (t' := s.toks) kp (Nat.le_refl _) (show ObjOk X.prog X.w _ h' _ (.lst ys) from ⟨hz, its, c', r', e⟩), rfl, q _ (I.hok.fresh (Nat.le_refl _))⟩
  rcases hq with hq | hq
  · obtain ⟨its, r', pl, hz⟩ := I.list hq
    have hlen := r'.length
    obtain ⟨o, ho, hc, n, hd⟩ := pl.isList
    exact call_list_seq p (.inl rfl) ho hc hd (fun h' c' kp e => fin its r' hz h' c' kp e) (by simp only [List.size_toArray] <;> omega)
  · obtain ⟨its, r', pl, hz⟩ := I.tuple hq
    have hlen := r'.length
    obtain ⟨o, ho, hc, n, hd⟩ := pl
    exact call_list_seq p (.inr rfl) ho hc hd (fun h' c' kp e => fin its r' hz h' c' kp e) (by simp only [List.size_toArray] <;> omega)
noncomputable def tyV (K : PySem.W.Frag) (T : String) (x : V) (H : Hp) : Prop := match x with
  | .str _ => T = "str"
  | .int _ => T = "int"
  | .ref p => (T = "list" ∧ ∃ xs, SqL K H p xs) ∨ (T = "tuple" ∧ ∃ o, K.lookup p = some o ∧ o.cls = .type "tuple" ∧ o.dict = none) ∨
      (T = "dict" ∧ ((∃ kvs, H p = some (.dK kvs)) ∨ ∃ kvs, H p = some (.dT kvs))) ∨ (T = "set" ∧ ∃ S n, H p = some (.set S n))
  | _ => False
theorem tyV_is {pins : List (Addr × Obj)} {σ : St} {H : Hp} {s : Shared} {T : String} {x : V} {v : Value} (I : Inv X pins σ H s) (r : RelV x v) (ty : tyV X.K T x H) :
    s.TypeIs v T ∧ ∀ a, v = .ref a → ∃ ob, s.heap.get? a = some ob ∧ ob.dict = none := by
  cases x with
  | str z =>
    obtain ⟨t, rfl⟩ := r
    cases (show T = "str" from ty)
    exact ⟨typeIs_str s z t, fun _ e => nomatch e⟩
  | int i =>
    obtain ⟨t, rfl⟩ := r
    cases (show T = "int" from ty)
    exact ⟨typeIs_int s i t, fun _ e => nomatch e⟩
  | ref p =>
    cases r
    rcases ty with ⟨rfl, xs, hq⟩ | ⟨rfl, o, hk, hc, hd⟩ | ⟨rfl, hk⟩ | ⟨rfl, S, n, hk⟩
    · obtain ⟨its, _, pl, _⟩ := I.list hq
      refine ⟨pl.isList.typeIs, fun a e => ?_⟩
      cases e
      obtain ⟨o, n, e, c, hd, _⟩ := pl
      exact ⟨o, e, hd⟩
    · refine ⟨⟨o, I.kIn p o hk, hc⟩, fun a e => ?_⟩
      cases e
      exact ⟨o, I.kIn _ o hk, hd⟩
    · have z : ∃ o, s.heap.get? p = some o ∧ o.ExactDict := by
        rcases hk with ⟨kvs, hk⟩ | ⟨kvs, hk⟩
        · obtain ⟨_, _, _, _, o, _, _, e, ex, _⟩ := I.hok p _ hk
          exact ⟨o, e, ex⟩
        · obtain ⟨_, _, _, _, o, _, _, e, ex, _⟩ := I.hok p _ hk
          exact ⟨o, e, ex⟩
      obtain ⟨o, e, ex⟩ := z
      refine ⟨⟨o, e, ex.1⟩, fun a e2 => ?_⟩
      cases e2
      exact ⟨o, e, ex.2.1⟩
    · obtain ⟨o, _, _, _, e, ex, _⟩ := I.hok p _ hk
      refine ⟨⟨o, e, ex.1⟩, fun a e2 => ?_⟩
      cases e2
      exact ⟨o, e, ex.2.1⟩
  | _ => exact False.elim ty
noncomputable def tBM0 (K : PySem.W.Frag) (T : String) (r : V → List V → Hp → VK → Prop) (to : TE) : TE := fun σ H Q => to σ H fun x H1 => tyV K T x H1 ∧ r x [] H1 Q
noncomputable def tBM (K : PySem.W.Frag) (T : String) (r : V → List V → Hp → VK → Prop) (to : TE) (t : TA) : TE := fun σ H Q => to σ H fun x H1 => tyV K T x H1 ∧ t σ H1 fun xs H2 => r x xs H2 Q
variable {o e : Expr} {es : List Expr} {to : TE} {t : TA} {name : Str} {apos cpos : Pos} {T id : String} {r : V → List V → Hp → VK → Prop}
theorem pe_bm0 (pa : PlainAttrs T) (slot : Slot T name id) (hty : typeOf (.builtin id) = pure (.type "method_descriptor")) (hm : MtR X id r) (ho : PE X o to)
    (hbase : attributeBase o name X.env (eval o X.env) = eval o X.env := by rfl) (hline : (apos.endLine == cpos.line) = true := by rfl) : PE X (.Call (.Attribute o name apos) [] [] cpos) (tBM0 X.K T r to) := by
  intro pins s σ H Q I h
  refine wpAny_Call_method0_late hbase hline (thn (ho pins s σ H _ I h) fun v s1 zq => ?_)
  obtain ⟨x, H1, I1, r1, ty, q1⟩ := zq
  obtain ⟨h1, h2⟩ := tyV_is I1 r1 ty
  exact ⟨T, id, pa, slot, hty, h1, h2, Calls.callWith_builtin rfl (PySem.evalArgs_none (hm pins s1 σ H1 x [] v [] Q I1 r1 .nil q1))⟩
theorem pe_bm (pa : PlainAttrs T) (slot : Slot T name id) (hty : typeOf (.builtin id) = pure (.type "method_descriptor")) (hm : MtR X id r) (ho : PE X o to) (ha : PA X (e :: es) t)
    (hbase : attributeBase o name X.env (eval o X.env) = eval o X.env := by rfl)
    (hfew : ((backTo cpos (starEach (e :: es) X.env)).all (fun x => !x.1) && (backToKw cpos (keywordEach [] X.env)).all (fun x => x.1.isSome)
      && decide ((e :: es).length + ([] : List Keyword).length + (if ([] : List Keyword).isEmpty then 0 else 1) < 30)) = true := by rfl)
    (hline : (apos.endLine == cpos.line) = true := by rfl) (hs : starEach (e :: es) X.env = (false, eval e X.env) :: starEach es X.env := by rfl) (hplain : (backTo cpos (starEach es X.env)).any (·.1) = false := by rfl) :
    PE X (.Call (.Attribute o name apos) (e :: es) [] cpos) (tBM X.K T r to t) := by
  intro pins s σ H Q I h
  refine wpAny_Call_method_late hbase hfew hline rfl (thn (ho pins s σ H _ I h) fun v s1 zq => ?_)
  obtain ⟨x, H1, I1, r1, ty, q1⟩ := zq
  obtain ⟨h1, h2⟩ := tyV_is I1 r1 ty
  refine ⟨T, id, pa, slot, hty, h1, h2, ?_⟩
  have hA := ha cpos pins s1 σ H1 _ I1 q1
  rw [hs] at hA ⊢
  refine Calls.callWith_builtin (by show (false || (backTo cpos (starEach es X.env)).any (·.1)) = false; rw [hplain] <;> rfl) (Calls.evalArgs_plain ?_)
  exact thn hA fun us s2 ⟨vs, H2, I2, r2, q2⟩ => hm pins s2 σ H2 x vs v us Q I2 r1 r2 q2
/- xs.append(e), list.index on a module's tuple .. are MtR facts of 06m -/
end
end L2

namespace L2
open PySem PySem.Spec PyProof.Rows

noncomputable def MtM (X : Cx) (id : String) (r : V → List V → Hp → VK → Prop) : Prop :=
  ∀ (pins : List (Addr × Obj)) (s : Shared) (σ : St) (H : Hp) (x : V) (xs : List V) (v : Value) (us : List Value) (Q : VK), Inv X pins σ H s → RelV x v → Vals xs us → r x xs H Q →
    wpAny (model X.prog X.w) X.A (call (.builtin id) (v :: us)) (EP X pins σ Q) X.xe s

theorem Vals.one : ∀ {x : V} {us : List Value}, Vals [x] us → ∃ u, us = [u] ∧ RelV x u
  | _, _, .cons r .nil => ⟨_, rfl, r⟩
theorem Vals.two : ∀ {x y : V} {us : List Value}, Vals [x, y] us → ∃ u v, us = [u, v] ∧ RelV x u ∧ RelV y v
  | _, _, _, .cons r (.cons q .nil) => ⟨_, _, rfl, r, q⟩
theorem Vals.zero : ∀ {us : List Value}, Vals [] us → us = []
  | _, .nil => rfl
theorem Vals.dropLast {xs : List V} {us : List Value} (h : Vals xs us) : Vals xs.dropLast us.dropLast := by
  induction h with
  | nil => exact .nil
  | cons r t ih =>
    cases t with
    | nil => exact .nil
    | cons q t' => exact .cons r ih
theorem Vals.rep {xs : List V} {us : List Value} (h : Vals xs us) : ∀ k : Nat, Vals (List.replicate k xs).flatten (List.replicate k us).flatten
  | 0 => .nil
  | k + 1 => by
    rw [List.replicate_succ, List.replicate_succ, List.flatten_cons, List.flatten_cons]
    exact Vals.append h (Vals.rep h k)
theorem erase_last {α : Type} (l : List α) : l.eraseIdx (l.length - 1) = l.dropLast := by
  induction l with
  | nil => rfl
  | cons a r ih =>
    cases r with
    | nil => rfl
    | cons b r =>
      have e : (a :: b :: r).length - 1 = ((b :: r).length - 1) + 1 := by
        have h1 : (a :: b :: r).length = r.length + 2 := rfl
        have h2 : (b :: r).length = r.length + 1 := rfl
        omega
      rw [e, List.eraseIdx_cons_succ, ih]
      all_goals rfl
theorem foldl_rep (its : List Value) : ∀ (k : Nat) (acc : List Value),
    List.foldl (fun x1 x2 => x1 ++ x2) acc.toArray (List.replicate k its.toArray) = (acc ++ (List.replicate k its).flatten).toArray
  | 0, acc => by simp
  | k + 1, acc => by
    have e : acc.toArray ++ its.toArray = (acc ++ its).toArray := by simp
    have e2 : (acc ++ its) ++ (List.replicate k its).flatten = acc ++ (List.replicate (k + 1) its).flatten := by
      rw [List.replicate_succ, List.flatten_cons, List.append_assoc]
    rw [← e2, ← foldl_rep its k (acc ++ its), ← e, List.replicate_succ, List.foldl_cons]

section
variable {X : Cx} {pins : List (Addr × Obj)} {σ : St} {H : Hp} {s : Shared} {l b : Addr} {xs ys zs : List V}

theorem Inv.lset {its its' : List Value} {n : Nat} {f : Array Value → Array Value} {t' : Nat} (I : Inv X pins σ H s) (hH : H l = some (.lst xs))
    (e : s.heap.get? l = some { cls := .type "list", data := .seq its.toArray n }) (hf : f its.toArray = its'.toArray) (hv : Vals ys its') (hz : ys.length ≤ sizeLine) :
    Inv X pins σ (upd H l (.lst ys)) { s with heap := s.heap.update l (Obj.mapSeq f), toks := t' } := by
  have q := PySem.IsL.update e f
  rw [hf] at q
  refine I.write (x := l) (e := l) (by rw [hH]; exact trivial) (.inl rfl) (fun b' u hb hu => (Heap.get?_update_other s.heap (Obj.mapSeq f) (Ne.symm hb)).trans hu) ⟨_, q⟩ ?_
  exact ⟨hz, its', _, hv, q⟩
theorem Inv.lnew {its : List Value} {t' : Nat} (I : Inv X pins σ H s) (hv : Vals ys its) (hz : ys.length ≤ sizeLine) :
    Inv X pins σ (upd H s.heap.objs.size (.lst ys)) { s with heap := s.heap.push { cls := .type "list", data := .seq its.toArray }, toks := t' } :=
  I.laid (fun _ _ q => Heap.get?_push_of_some _ q) (Nat.le_refl _) ⟨hz, its, 0, hv, Heap.get?_push_size _ rfl⟩
theorem Inv.fresh (I : Inv X pins σ H s) : H s.heap.objs.size = none := I.hok.fresh (Nat.le_refl _)
theorem Inv.lstM (I : Inv X pins σ H s) (hH : H l = some (.lst xs)) : xs.length ≤ sizeLine ∧ ∃ (its : List Value) (n : Nat), Vals xs its ∧ xs.length = its.length ∧ s.heap.get? l = some { cls := .type "list", data := .seq its.toArray n } := by
  obtain ⟨z, its, n, r, e⟩ := I.hok l _ hH
  exact ⟨z, its, n, r, r.length, e⟩

theorem notLongL {n : Nat} (h : n ≤ sizeLine) : Builtin.List.listTooLong n = false := by
  unfold Builtin.List.listTooLong
  exact decide_eq_false (by omega)
end

section
variable {X : Cx}

noncomputable def rAppend : V → List V → Hp → VK → Prop := fun x vs H Q => ∃ l xs y, x = .ref l ∧ vs = [y] ∧ H l = some (.lst xs) ∧ xs.length < sizeLine ∧ Q .non (upd H l (.lst (xs ++ [y])))
theorem mt_append : MtM X "list.append" rAppend := by
  intro pins s σ H x vs v us Q I rx rv h
  obtain ⟨l, xs, y, rfl, rfl, hH, hz, q⟩ := h
  cases rx
  obtain ⟨u, rfl, ru⟩ := rv.one
  obtain ⟨z, its, n, r, hl, e⟩ := I.lstM hH
  refine call_meets F.slot_list_append ⟨_, e, rfl⟩ F.entry_list_append (F.args_list_append_2 _ _) (PySem.list_append l its.toArray n u (by rw [List.size_toArray]; omega)) ⟨e, ?_⟩
  refine ⟨.non, _, I.lset (its' := its ++ [u]) hH e (by simp) (r.append (.cons ru .nil)) ?_, rfl, q⟩
  rw [List.length_append, List.length_singleton]
  omega

noncomputable def rExtend : V → List V → Hp → VK → Prop := fun x vs H Q => ∃ l b xs zs, x = .ref l ∧ vs = [.ref b] ∧ H l = some (.lst xs) ∧ H b = some (.lst zs) ∧ xs.length + zs.length ≤ sizeLine ∧ Q .non (upd H l (.lst (xs ++ zs)))
theorem mt_extend : MtM X "list.extend" rExtend := by
  intro pins s σ H x vs v us Q I rx rv h
  obtain ⟨l, b, xs, zs, rfl, rfl, hH, hB, hz, q⟩ := h
  cases rx
  obtain ⟨u, rfl, ru⟩ := rv.one
  cases ru
  obtain ⟨z, its, n, r, hl, e⟩ := I.lstM hH
  obtain ⟨z2, its2, n2, r2, hl2, e2⟩ := I.lstM hB
  have hsz : its.toArray.size + its2.toArray.size ≤ sizeLine := by rw [List.size_toArray, List.size_toArray]; omega
  have hlong : ¬ (!its.toArray.isEmpty && Builtin.List.listTooLong (its.toArray.size + its2.toArray.size)) = true := by
    rw [notLongL hsz, Bool.and_false]
    exact Bool.false_ne_true
  refine call_meets F.slot_list_extend ⟨_, e, rfl⟩ F.entry_list_extend (F.args_list_extend_2 _ _)
    (AutoSeq1.list_extend_list_list_0 l its.toArray n b its2.toArray n2 hlong (by rw [List.size_toArray]; omega) (by omega)) ⟨e, e2, ?_⟩
  refine ⟨.non, _, I.lset (its' := its ++ its2) hH e (by simp) (r.append r2) ?_, rfl, q⟩
  rw [List.length_append]
  omega

noncomputable def rPop : V → List V → Hp → VK → Prop := fun x vs H Q => ∃ l xs y, x = .ref l ∧ vs = [] ∧ H l = some (.lst xs) ∧ xs[xs.length - 1]? = some y ∧ Q y (upd H l (.lst xs.dropLast))
theorem mt_pop : MtM X "list.pop" rPop := by
  intro pins s σ H x vs v us Q I rx rv h
  obtain ⟨l, xs, y, rfl, rfl, hH, hy, q⟩ := h
  cases rx
  have hus := rv.zero
  subst hus
  obtain ⟨z, its, n, r, hl, e⟩ := I.lstM hH
  obtain ⟨u, hu, ru⟩ := r.get hy
  have hy' : its.toArray[its.toArray.size - 1]? = some u := by
    show its.toArray[its.length - 1]? = some u
    rw [← Array.getElem?_toList, ← hl]
    exact hu
  refine call_meets F.slot_list_pop ⟨_, e, rfl⟩ F.entry_list_pop (F.args_list_pop_1 _) (MeetsSeq.list_pop_last l its.toArray n u hy' (by rw [List.size_toArray]; omega)) ⟨e, ?_⟩
  refine ⟨y, _, I.lset (its' := its.dropLast) hH e ?_ r.dropLast ?_, ru, q⟩
  · show its.toArray.eraseIdxIfInBounds (its.toArray.size - 1) = its.dropLast.toArray
    rw [List.size_toArray, List.eraseIdxIfInBounds_toArray, erase_last]
  · rw [List.length_dropLast]
    omega

noncomputable def rCat : R2 := fun x y H Q => ∃ l b xs zs, x = .ref l ∧ y = .ref b ∧ H l = some (.lst xs) ∧ H b = some (.lst zs) ∧ xs.length + zs.length ≤ sizeLine ∧ ∀ p, H p = none → Q (.ref p) (upd H p (.lst (xs ++ zs)))
theorem op_cat : OpR X (binaryOp .Add) rCat := by
  intro pins s σ H x y v u Q I rx ry h
  obtain ⟨l, b, xs, zs, rfl, rfl, hH, hB, hz, q⟩ := h
  cases rx
  cases ry
  obtain ⟨z, its, n, r, hl, e⟩ := I.lstM hH
  obtain ⟨z2, its2, n2, r2, hl2, e2⟩ := I.lstM hB
  refine PySem.P.add_list e e2 ?_ (by rw [List.size_toArray, List.size_toArray]; omega)
  have ea : its.toArray ++ its2.toArray = (its ++ its2).toArray := by simp
  rw [ea]
  exact ⟨.ref _, _, I.lnew (t' := s.toks) (r.append r2) (by rw [List.length_append]; omega), rfl, q _ I.fresh⟩
noncomputable def rRep : R2 := fun x y H Q => ∃ l k xs, x = .ref l ∧ y = .int k ∧ H l = some (.lst xs) ∧ -(2 ^ 63) ≤ k ∧ k < 2 ^ 63 ∧ xs.length * k.toNat ≤ sizeLine ∧
  ∀ p, H p = none → Q (.ref p) (upd H p (.lst (List.replicate k.toNat xs).flatten))
theorem len_rep {α : Type} (xs : List α) (k : Nat) : (List.replicate k xs).flatten.length = k * xs.length := by
  induction k with
  | zero => simp
  | succ k ih => rw [List.replicate_succ, List.flatten_cons, List.length_append, ih, Nat.succ_mul, Nat.add_comm]
theorem op_rep : OpR X (binaryOp .Mult) rRep := by
  intro pins s σ H x y v u Q I rx ry h
  obtain ⟨l, k, xs, rfl, rfl, hH, h1, h2, hz, q⟩ := h
  cases rx
  obtain ⟨t, rfl⟩ := ry
  obtain ⟨z, its, n, r, hl, e⟩ := I.lstM hH
  have hlen : its.toArray.size * k.toNat ≤ sizeLine := by rw [List.size_toArray, ← hl]; exact hz
  have hcap : ¬ its.toArray.size * k.toNat > (2 ^ 63 - 1) / 8 := by
    have : (sizeLine : Nat) ≤ (2 ^ 63 - 1) / 8 := by decide
    omega
  have hfit : ¬ (!Builtin.List.listFitsIndex k) = true := by
    rw [fitsIndex_both h1 h2]
    exact Bool.false_ne_true
  have hlong : ¬ Builtin.List.listTooLong (its.toArray.size * k.toNat) = true := by
    rw [notLongL hlen]
    exact Bool.false_ne_true
  have hnew : List.foldl (fun x1 x2 => x1 ++ x2) #[] (List.replicate (if its.toArray.isEmpty = true then 0 else k.toNat) its.toArray) = (List.replicate k.toNat its).flatten.toArray := by
    have f0 : ∀ m : Nat, List.foldl (fun x1 x2 => x1 ++ x2) #[] (List.replicate m its.toArray) = (List.replicate m its).flatten.toArray := fun m => by
      have := foldl_rep its m []
      rw [List.nil_append] at this
      exact this
    rw [f0]
    cases its with
    | nil => simp
    | cons a r' => rw [if_neg (by simp)]
  refine wpAny_binaryOp_repeat_ref (T := "list") (U := "int") (by decide) ⟨_, e, rfl⟩ (fun s' => typeIs_int s' k t) noFill_list_mul F.fills_int_mul F.slot_int_rmul repeat_list F.slot_int_index.lookup
    (call_meets F.slot_int_rmul (typeIs_int s k t) F.entry_int_rmul (F.args_int_rmul_2 _ _) (int___rmul___int_list k t l its.toArray n)
      ⟨e, rfl, ⟨_, e, rfl⟩, call_meets F.slot_list_mul ⟨_, e, rfl⟩ F.entry_list_mul (F.args_list_mul_2 _ _) (AutoListH.list___mul___list_int_3 l its.toArray n k t hfit hcap hlong) ⟨e, ?_⟩⟩)
  rw [hnew]
  exact ⟨.ref _, _, I.lnew (t' := s.toks) (r.rep k.toNat) (by rw [len_rep, Nat.mul_comm]; exact hz), rfl, q _ I.fresh⟩

end

section
variable {prog : Program} {w : World} {A : Around} {E : Value → Shared → Prop} {s : Shared}
set_option maxRecDepth 100000 in
end

section
variable {X : Cx}
end
end L2

namespace L2
open PySem PySem.Spec PyProof.Rows

theorem Vals.ints : ∀ {ns : List Int} {us : List Value}, Vals (ns.map V.int) us → IntsAre us ns
  | [], us, h => by
    rw [List.map_nil] at h
    cases h
    exact IntsAre.nil
  | n :: ns, us, h => by
    rw [List.map_cons] at h
    cases h with
    | cons r t =>
      obtain ⟨k, rfl⟩ := r
      exact IntsAre.cons n k (Vals.ints t)
theorem vals_of_ints : ∀ {us : List Value} {ns : List Int}, IntsAre us ns → Vals (ns.map V.int) us
  | _, _, .nil => by rw [List.map_nil]; exact Paired.nil
  | _, _, .cons n t h => by rw [List.map_cons]; exact Paired.cons (show RelV (V.int n) (Value.int n t) from ⟨t, rfl⟩) (vals_of_ints h)
theorem Vals.ref1 {a : Addr} {us : List Value} (r : Vals [V.ref a] us) : us = [Value.ref a] := by
  cases r with
  | cons r t =>
    cases t
    cases r
    rfl
theorem Vals.int2 {i j : Int} {us : List Value} (r : Vals [V.int i, V.int j] us) : ∃ t u, us = [Value.int i t, Value.int j u] := by
  cases r with
  | cons r t =>
    cases t with
    | cons r2 t2 =>
      cases t2
      obtain ⟨t, rfl⟩ := r
      obtain ⟨u, rfl⟩ := r2
      exact ⟨t, u, rfl⟩

section
variable {prog : Program} {w : World} {A : Around} {E : Value → Shared → Prop} {s : Shared} {l : Addr} {its : List Value} {ns : List Int} {Q : Value → Shared → Prop}
theorem sum_raw (hh : A.handled = none) (hl : s.heap.IsList l its.toArray) (hi : IntsAre its ns)
    (h : ∀ h' tk t', (∀ b o, s.heap.get? b = some o → h'.get? b = some o) → Q (.int ns.sum t') { s with heap := h', toks := tk }) : wpAny (model prog w) A (call (.builtin "sum") [.ref l]) Q E s := by
  obtain ⟨xs, e⟩ := hi.allInts.items
  have hn : numsOf (intItems xs).toList = ns := by rw [← e]; exact hi.numsOf
  rw [nums_intItems] at hn
  rw [e] at hl
  refine PySem.sum_intListG hh hl fun h' tk t' hk => ?_
  have := h h' tk t' hk
  rw [preSum_eq, List.take_of_length_le (by simp), hn]; exact this
theorem max_raw (hh : A.handled = none) (hl : s.heap.IsList l its.toArray) (hi : IntsAre its ns) (hne : 0 < ns.length)
    (h : ∀ h' tk M t', (∀ b o, s.heap.get? b = some o → h'.get? b = some o) → M ∈ ns → (∀ a, a ∈ ns → a ≤ M) → Q (.int M t') { s with heap := h', toks := tk }) : wpAny (model prog w) A (call (.builtin "max") [.ref l]) Q E s := by
  obtain ⟨xs, e⟩ := hi.allInts.items
  have hn : numsOf (intItems xs).toList = ns := by rw [← e]; exact hi.numsOf
  rw [nums_intItems] at hn
  subst hn
  rw [e] at hl
  have hsz : 0 < xs.size := by simpa using hne
  refine PySem.max_intList hh hl hsz fun v h' tk hv hk => ?_
  obtain ⟨t, rfl⟩ := intItems_at hv
  obtain ⟨h1, h2⟩ := argBest_gt (numAt xs) (xs.size - 1)
  refine h h' tk _ t hk ?_ fun a ha => ?_
  · rw [numAt_eq]; exact PySem.getD_mem (by rw [List.length_map, Array.length_toList]; omega)
  · obtain ⟨j, hj, rfl⟩ := mem_getD ha
    rw [List.length_map, Array.length_toList] at hj
    rw [← numAt_eq]; exact h2 j (by omega)
theorem min_raw (hh : A.handled = none) (hl : s.heap.IsList l its.toArray) (hi : IntsAre its ns) (hne : 0 < ns.length)
    (h : ∀ h' tk M t', (∀ b o, s.heap.get? b = some o → h'.get? b = some o) → M ∈ ns → (∀ a, a ∈ ns → M ≤ a) → Q (.int M t') { s with heap := h', toks := tk }) : wpAny (model prog w) A (call (.builtin "min") [.ref l]) Q E s := by
  obtain ⟨xs, e⟩ := hi.allInts.items
  have hn : numsOf (intItems xs).toList = ns := by rw [← e]; exact hi.numsOf
  rw [nums_intItems] at hn
  subst hn
  rw [e] at hl
  have hsz : 0 < xs.size := by simpa using hne
  refine PySem.min_intList hh hl hsz fun v h' tk hv hk => ?_
  obtain ⟨t, rfl⟩ := intItems_at hv
  obtain ⟨h1, h2⟩ := argBest_lt (numAt xs) (xs.size - 1)
  refine h h' tk _ t hk ?_ fun a ha => ?_
  · rw [numAt_eq]; exact PySem.getD_mem (by rw [List.length_map, Array.length_toList]; omega)
  · obtain ⟨j, hj, rfl⟩ := mem_getD ha
    rw [List.length_map, Array.length_toList] at hj
    rw [← numAt_eq]; exact h2 j (by omega)
end

section
variable {X : Cx}
noncomputable def rSum (K : PySem.W.Frag) : List V → Hp → VK → Prop := fun vs H Q => ∃ (a : Addr) (ns : List Int), vs = [V.ref a] ∧ SqL K H a (ns.map V.int) ∧ Q (.int ns.sum) H
noncomputable def rMax (K : PySem.W.Frag) : List V → Hp → VK → Prop := fun vs H Q => ∃ (a : Addr) (ns : List Int), vs = [V.ref a] ∧ SqL K H a (ns.map V.int) ∧ 0 < ns.length ∧ ∀ m, m ∈ ns → (∀ y, y ∈ ns → y ≤ m) → Q (.int m) H
noncomputable def rMin (K : PySem.W.Frag) : List V → Hp → VK → Prop := fun vs H Q => ∃ (a : Addr) (ns : List Int), vs = [V.ref a] ∧ SqL K H a (ns.map V.int) ∧ 0 < ns.length ∧ ∀ m, m ∈ ns → (∀ y, y ∈ ns → m ≤ y) → Q (.int m) H
theorem cr_sum (hc : X.calm = true) : CallR X (.builtin "sum") (rSum X.K) := by
  intro pins s σ H vs us Q I r h
  obtain ⟨a, ns, rfl, hs, q⟩ := h
  obtain ⟨its, rv, hl, _⟩ := I.list hs
  rw [Vals.ref1 r]
  exact sum_raw (I.ok.hd hc) hl.isList rv.ints fun h' tk t' hk => ⟨.int _, H, I.kept hk, ⟨_, rfl⟩, q⟩
theorem cr_max (hc : X.calm = true) : CallR X (.builtin "max") (rMax X.K) := by
  intro pins s σ H vs us Q I r h
  obtain ⟨a, ns, rfl, hs, hne, q⟩ := h
  obtain ⟨its, rv, hl, _⟩ := I.list hs
  rw [Vals.ref1 r]
  exact max_raw (I.ok.hd hc) hl.isList rv.ints hne fun h' tk m t' hk h1 h2 => ⟨.int _, H, I.kept hk, ⟨_, rfl⟩, q m h1 h2⟩
theorem cr_min (hc : X.calm = true) : CallR X (.builtin "min") (rMin X.K) := by
  intro pins s σ H vs us Q I r h
  obtain ⟨a, ns, rfl, hs, hne, q⟩ := h
  obtain ⟨its, rv, hl, _⟩ := I.list hs
  rw [Vals.ref1 r]
  exact min_raw (I.ok.hd hc) hl.isList rv.ints hne fun h' tk m t' hk h1 h2 => ⟨.int _, H, I.kept hk, ⟨_, rfl⟩, q m h1 h2⟩

noncomputable def rSorted (K : PySem.W.Frag) : List V → Hp → VK → Prop := fun vs H Q => ∃ (a : Addr) (ns : List Int), vs = [V.ref a] ∧ SqL K H a (ns.map V.int) ∧ ns.length < 64 ∧
  ∀ (ns' : List Int) (p : Addr), ns'.Perm ns → ns'.Pairwise (· ≤ ·) → H p = none → Q (.ref p) (upd H p (.lst (ns'.map V.int)))
theorem small64 {n : Nat} (h : n < 64) : n ≤ sizeLine := by rw [sizeLine_eq]; omega
theorem cr_sorted : CallR X (.builtin "sorted") (rSorted X.K) := by
  intro pins s σ H vs us Q I r h
  obtain ⟨a, ns, rfl, hs, h64, q⟩ := h
  obtain ⟨its, rv, hl, _⟩ := I.list hs
  rw [Vals.ref1 r]
  have hi := rv.ints
  refine PyProof.Rows.sorted_ints hl.isList hi (by rw [hi.length]; exact h64) fun out ns' h1 h2 h3 => ?_
  obtain ⟨ep, he'⟩ := PyProof.Rows.sortedAll_at s.heap its out
  have hlen : (ns'.map V.int).length ≤ sizeLine := by rw [List.length_map, h2.length_eq]; exact small64 h64
  exact ⟨.ref _, upd H (s.heap.objs.size + 1) (.lst (ns'.map V.int)), I.laid (t' := s.toks) (fun _ _ => PyProof.Rows.sortedAll_old) (Nat.le_succ _) ⟨hlen, out.toList, ep, vals_of_ints h1, he'⟩, rfl, q ns' _ h2 h3 (I.hok.fresh (Nat.le_succ _))⟩
end

section
variable {X : Cx}
end

section
variable {X : Cx}
end

section
variable {X : Cx}
end

mutual
inductive Dp (K : PySem.W.Frag) (H : Hp) : V → PyData → Prop
  | non : Dp K H .non .none
  | bl (b : Bool) : Dp K H (.bl b) (.bool b)
  | int (i : Int) : Dp K H (.int i) (.int i)
  | str (x : Str) : Dp K H (.str x) (.str x)
  | lst {a : Addr} {xs : List V} {ds : List PyData} : SqL K H a xs → DpAll K H xs ds → Dp K H (.ref a) (.list ds)
  | tup {a : Addr} {xs : List V} {ds : List PyData} : SqT K H a xs → DpAll K H xs ds → Dp K H (.ref a) (.tuple ds)
inductive DpAll (K : PySem.W.Frag) (H : Hp) : List V → List PyData → Prop
  | nil : DpAll K H [] []
  | cons {v : V} {vs : List V} {d : PyData} {ds : List PyData} : Dp K H v d → DpAll K H vs ds → DpAll K H (v :: vs) (d :: ds)
end
section
variable {X : Cx} {pins : List (Addr × Obj)} {σ : St} {H : Hp} {s : Shared}
mutual
theorem Dp.reads (I : Inv X pins σ H s) : ∀ (d : PyData) (v : V) (u : Value), Dp X.K H v d → RelV v u → ∃ as, Reads s.heap u d as
  | .none, _, _, h, r => by
    cases h
    cases r
    exact ⟨_, Reads.none⟩
  | .bool b, _, _, h, r => by
    cases h
    cases r
    exact ⟨_, Reads.bool b⟩
  | .int i, _, _, h, r => by
    cases h
    obtain ⟨t, rfl⟩ := r
    exact ⟨_, Reads.int i t⟩
  | .str x, _, _, h, r => by
    cases h
    obtain ⟨t, rfl⟩ := r
    exact ⟨_, Reads.str x t⟩
  | .list ds, _, _, h, r => by
    cases h with
    | lst hs ha =>
      cases r
      obtain ⟨its, rv, ⟨o, n, ho, hc, _, hd⟩, _⟩ := I.list hs
      obtain ⟨as, hr⟩ := Dp.readsAll I ds _ its ha rv
      exact ⟨_, Reads.list ho hc hd hr⟩
  | .tuple ds, _, _, h, r => by
    cases h with
    | tup hs ha =>
      cases r
      obtain ⟨its, rv, ⟨o, ho, hc, n, hd⟩, _⟩ := I.tuple hs
      obtain ⟨as, hr⟩ := Dp.readsAll I ds _ its ha rv
      exact ⟨_, Reads.tuple ho hc hd hr⟩
  | .dict _, _, _, h, _ => by cases h
theorem Dp.readsAll (I : Inv X pins σ H s) : ∀ (ds : List PyData) (vs : List V) (us : List Value), DpAll X.K H vs ds → Vals vs us → ∃ as, ReadsAll s.heap us ds as
  | [], _, _, h, r => by
    cases h
    cases r
    exact ⟨_, ReadsAll.nil⟩
  | d :: ds, _, _, h, r => by
    cases h with
    | cons h1 h2 =>
      cases r with
      | cons r1 r2 =>
        obtain ⟨as, q1⟩ := Dp.reads I d _ _ h1 r1
        obtain ⟨bs, q2⟩ := Dp.readsAll I ds _ _ h2 r2
        exact ⟨_, ReadsAll.cons q1 q2⟩
end
end
section
variable {X : Cx}
noncomputable def rNeD (K : PySem.W.Frag) : R2 := fun x y H Q => ∃ d e, Dp K H x d ∧ Dp K H y e ∧ SeqAt.shaped d = true ∧ SeqAt.shaped e = true ∧ Q (.bl (!PyData.eqv d e)) H
theorem op_neD (hu : X.A.units + 64 < cLine) : OpR X (compareOp .NotEq) (rNeD X.K) := by
  intro pins s σ H x y v u Q I rx ry h
  obtain ⟨d, e, hd, he, sd, se, q⟩ := h
  obtain ⟨as, r1⟩ := Dp.reads I d x v hd rx
  obtain ⟨bs, r2⟩ := Dp.reads I e y u he ry
  exact SeqAt.compareNe_shaped r1 r2 sd se hu ⟨.bl _, H, I, rfl, q⟩
end
end L2

namespace L2
open PySem PySem.Spec PyProof.Rows
noncomputable abbrev CellAt (h : Heap) (c : Addr) (v : Option Value) : Prop := h.IsCell c v
noncomputable def relS (scope sc : Scope) : Scope :=
  { scope with names := scope.names.map fun (n, k) => if (k == .free && sc.kind == .function && sc.names.lookup n == some .cell) then (n, .cell) else (n, k) }

noncomputable def cloFrom (cells : List (Str × Addr)) : List (Str × NameKind) → List (Str × Addr) → List (Str × Addr)
  | [], acc => acc
  | (n, k) :: r, acc => if k == .free then cloFrom cells r ((n, (cells.lookup n).getD 0) :: acc) else cloFrom cells r acc

theorem closure_loop (env : Env) (f : Str × NameKind → List (Str × Addr) → Sem (ForInStep (List (Str × Addr))))
    (hf : ∀ n k c, f (n, k) c = if k == .free then (do let a ← cellOf env n; pure (.yield ((n, a) :: c))) else pure (.yield c)) :
    ∀ (names : List (Str × NameKind)) (acc : List (Str × Addr)), (∀ y ∈ names, y.2 = .free → ∃ c, env.cells.lookup y.1 = some c) → forIn names acc f = pure (cloFrom env.cells names acc)
  | [], acc, _ => by rw [List.forIn_nil]; rfl
  | (n, k) :: r, acc, h => by
    rw [List.forIn_cons, hf]
    have ih := fun acc => closure_loop env f hf r acc fun y hy => h y (List.mem_cons_of_mem _ hy)
    unfold cloFrom
    by_cases hk : (k == NameKind.free) = true
    · rw [if_pos hk, if_pos hk]
      obtain ⟨c, hc⟩ := h (n, k) List.mem_cons_self (by simpa using hk)
      have e : cellOf env n = pure c := by unfold cellOf; rw [hc]
      rw [e]
      have e2 : (env.cells.lookup n).getD 0 = c := by rw [hc]; rfl
      rw [e2]
      exact ih _
    · rw [if_neg hk, if_neg hk]
      exact ih _
theorem closure_ok {scope : Scope} {env : Env} (h : ∀ y ∈ scope.names, y.2 = .free → ∃ c, env.cells.lookup y.1 = some c) : closureFor scope env = pure (cloFrom env.cells scope.names []) := by
  simp only [closureFor]
  rw [closure_loop env _ (fun n k c => rfl) scope.names [] h]
  rfl

theorem mem_lookup {α : Type} : ∀ {l : List (Str × α)} {n : Str} {c : α}, (n, c) ∈ l → ∃ c', l.lookup n = some c'
  | (k, v) :: r, n, c, h => by
    rw [List.lookup_cons]
    cases hb : n == k with
    | true => exact ⟨_, rfl⟩
    | false =>
      rcases List.mem_cons.mp h with e | h
      · cases e; simp at hb
      · exact mem_lookup h

theorem cloFrom_mem {cells : List (Str × Addr)} : ∀ {names : List (Str × NameKind)} {acc : List (Str × Addr)} {n : Str} {c : Addr}, (n, c) ∈ cloFrom cells names acc → (n, c) ∈ acc ∨ ((n, .free) ∈ names ∧ c = (cells.lookup n).getD 0)
  | [], _, _, _, h => .inl h
  | (m, k) :: r, acc, n, c, h => by
    unfold cloFrom at h
    split at h
    · rename_i hk
      have hk : k = .free := by simpa using hk
      rcases cloFrom_mem h with h | ⟨h1, h2⟩
      · rcases List.mem_cons.mp h with e | h
        · cases e; exact .inr ⟨hk ▸ List.mem_cons_self, rfl⟩
        · exact .inl h
      · exact .inr ⟨List.mem_cons_of_mem _ h1, h2⟩
    · rcases cloFrom_mem h with h | ⟨h1, h2⟩
      · exact .inl h
      · exact .inr ⟨List.mem_cons_of_mem _ h1, h2⟩
theorem cloFrom_acc {cells : List (Str × Addr)} : ∀ {names : List (Str × NameKind)} {acc : List (Str × Addr)} {p : Str × Addr}, p ∈ acc → p ∈ cloFrom cells names acc
  | [], _, _, h => h
  | (m, k) :: r, acc, p, h => by
    unfold cloFrom
    split
    · exact cloFrom_acc (List.mem_cons_of_mem _ h)
    · exact cloFrom_acc h
theorem cloFrom_has {cells : List (Str × Addr)} : ∀ {names : List (Str × NameKind)} {acc : List (Str × Addr)} {n : Str}, (n, .free) ∈ names → (n, (cells.lookup n).getD 0) ∈ cloFrom cells names acc
  | (m, k) :: r, acc, n, h => by
    unfold cloFrom
    rcases List.mem_cons.mp h with e | h
    · cases e
      exact cloFrom_acc List.mem_cons_self
    · split
      · exact cloFrom_has h
      · exact cloFrom_has h

theorem cells_mem : ∀ {names : List (Str × NameKind)} {h : Heap} {acc : List (Str × Addr)} {x : Str} {c : Addr}, (x, c) ∈ cellsFrom h.objs.size names acc →
    (x, c) ∈ acc ∨ ((x, .cell) ∈ names ∧ h.objs.size ≤ c ∧ CellAt (pushCells h names) c none)
  | [], _, _, _, _, h => .inl h
  | (n, k) :: r, h, acc, x, c, hm => by
    unfold cellsFrom at hm
    unfold pushCells
    split at hm
    · rename_i hk
      rw [if_pos hk]
      have hk : k = .cell := by simpa using hk
      rw [← Heap.size_push h { cls := .type "cell", data := .cell none }] at hm
      rcases cells_mem hm with hm | ⟨h1, h2, h3⟩
      · rcases List.mem_cons.mp hm with e | hm
        · cases e
          exact .inr ⟨hk ▸ List.mem_cons_self, Nat.le_refl _, _, pushCells_keeps r _ _ _ (Heap.get?_push_size _ rfl), rfl⟩
        · exact .inl hm
      · rw [Heap.size_push] at h2
        exact .inr ⟨List.mem_cons_of_mem _ h1, Nat.le_of_succ_le h2, h3⟩
    · rename_i hk
      rw [if_neg hk]
      rcases cells_mem hm with hm | ⟨h1, h2, h3⟩
      · exact .inl hm
      · exact .inr ⟨List.mem_cons_of_mem _ h1, h2, h3⟩
theorem cells_acc : ∀ {names : List (Str × NameKind)} {n : Nat} {acc : List (Str × Addr)} {p : Str × Addr}, p ∈ acc → p ∈ cellsFrom n names acc
  | [], _, _, _, h => h
  | (m, k) :: r, n, acc, p, h => by
    unfold cellsFrom
    split
    · exact cells_acc (List.mem_cons_of_mem _ h)
    · exact cells_acc h
theorem cells_has : ∀ {names : List (Str × NameKind)} {n : Nat} {acc : List (Str × Addr)} {x : Str}, (x, .cell) ∈ names → ∃ c, (x, c) ∈ cellsFrom n names acc
  | (m, k) :: r, n, acc, x, h => by
    unfold cellsFrom
    rcases List.mem_cons.mp h with e | h
    · cases e
      exact ⟨n, cells_acc List.mem_cons_self⟩
    · split
      · exact cells_has h
      · exact cells_has h
theorem cells_inj : ∀ {names : List (Str × NameKind)} {h : Heap} {acc : List (Str × Addr)} {x y : Str} {c : Addr}, (∀ p ∈ acc, p.2 < h.objs.size) → (∀ x y c, (x, c) ∈ acc → (y, c) ∈ acc → x = y) →
    (x, c) ∈ cellsFrom h.objs.size names acc → (y, c) ∈ cellsFrom h.objs.size names acc → x = y
  | [], _, _, _, _, _, _, hi, h1, h2 => hi _ _ _ h1 h2
  | (n, k) :: r, h, acc, x, y, c, hl, hi, h1, h2 => by
    unfold cellsFrom at h1 h2
    split at h1
    · rename_i hk
      rw [if_pos hk] at h2
      rw [← Heap.size_push h { cls := .type "cell", data := .cell none }] at h1 h2
      refine cells_inj (h := h.push _) (fun p hp => ?_) (fun x y c a b => ?_) h1 h2
      · rw [Heap.size_push]
        rcases List.mem_cons.mp hp with rfl | hp
        · exact Nat.lt_succ_self _
        · exact Nat.lt_succ_of_lt (hl p hp)
      · rcases List.mem_cons.mp a with e | a <;> rcases List.mem_cons.mp b with e' | b
        · cases e; cases e'; rfl
        · cases e; exact absurd (hl _ b) (Nat.lt_irrefl _)
        · cases e'; exact absurd (hl _ a) (Nat.lt_irrefl _)
        · exact hi _ _ _ a b
    · rename_i hk
      rw [if_neg hk] at h2
      exact cells_inj hl hi h1 h2

theorem newEnv_comp {M : Model} {A : Around} {E : Value → Shared → Prop} {s : Shared} {scope : Scope} {globals : Addr} {closure : List (Str × Addr)} {qual : Str} {func : Option Addr} {code : Value} {around : Env} {builtins : Addr} {Q : Env → Shared → Prop}
    (h : Q (newEnv scope s.heap.objs.size globals (cellsFrom (s.heap.objs.size + 1) scope.names closure) qual func code (some around) builtins)
      { s with heap := pushCells (s.heap.push { cls := .type "dict", data := .dict #[] }) scope.names }) :
    wpAny M A (newFunctionEnv scope globals closure [] qual func code (some around) builtins) Q E s := by
  simp only [newFunctionEnv, Option.isSome_some, if_true]
  refine wpAny_bind (wpAny_alloc ?_)
  refine wpAny_bind (wpAny_layCells _ (fun n k c => rfl) scope.names closure _ _ ?_)
  rw [show ({ s with heap := s.heap.push { cls := .type "dict", data := .dict #[] } } : Shared).heap.objs.size = s.heap.objs.size + 1 from Heap.size_push ..]
  rw [List.forIn_nil]
  exact wpAny_bind (wpAny_pure (wpAny_pure h))

theorem lookup_relS {sc : Scope} : ∀ {names : List (Str × NameKind)} {x : Str} {k : NameKind},
    (names.map fun (n, k) => if (k == NameKind.free && sc.kind == .function && sc.names.lookup n == some .cell) then (n, NameKind.cell) else (n, k)).lookup x = some k →
    ∃ k', names.lookup x = some k' ∧ (k = k' ∨ (k' = .free ∧ k = .cell))
  | [], _, _, h => by simp at h
  | (n, k₀) :: r, x, k, h => by
    have ih := @lookup_relS sc r x k
    have h' : List.lookup x ((if (k₀ == NameKind.free && sc.kind == .function && sc.names.lookup n == some .cell) = true then (n, NameKind.cell) else (n, k₀)) :: (r.map _)) = some k := h
    cases hx : x == n with
    | true =>
      simp only [List.lookup_cons, hx]
      by_cases hc : (k₀ == NameKind.free && sc.kind == .function && sc.names.lookup n == some .cell) = true
      · rw [if_pos hc] at h'
        simp only [List.lookup_cons, hx] at h'
        cases h'
        simp only [Bool.and_eq_true, beq_iff_eq] at hc
        exact ⟨k₀, rfl, .inr ⟨hc.1.1, rfl⟩⟩
      · rw [if_neg hc] at h'
        simp only [List.lookup_cons, hx] at h'
        cases h'
        exact ⟨_, rfl, .inl rfl⟩
    | false =>
      simp only [List.lookup_cons, hx]
      by_cases hc : (k₀ == NameKind.free && sc.kind == .function && sc.names.lookup n == some .cell) = true
      · rw [if_pos hc] at h'
        simp only [List.lookup_cons, hx] at h'
        exact ih h'
      · rw [if_neg hc] at h'
        simp only [List.lookup_cons, hx] at h'
        exact ih h'
structure BlkOk (N : List Str) (sc scope : Scope) (own : List (Str × Nat)) : Prop where
  kind : scope.kind = .function
  uniq : ∀ y ∈ scope.names, scope.names.lookup y.1 = some y.2
  ix : ∀ p ∈ own, N[p.2]? = some p.1
  free : ∀ y ∈ scope.names, y.2 = .free → sc.names.lookup y.1 = some .cell ∨ sc.names.lookup y.1 = some .free
  own : ∀ y ∈ scope.names, y.2 = .local ∨ y.2 = .cell → y.1 ∈ own.map (·.1) ∨ y.1 ∉ N
noncomputable def wipe (σ : St) : List Nat → St
  | [] => σ
  | v :: vs => (wipe σ vs).set v none
theorem wipe_length (σ : St) : ∀ vs : List Nat, (wipe σ vs).length = σ.length
  | [] => rfl
  | v :: vs => by unfold wipe; rw [List.length_set, wipe_length σ vs]
theorem wipe_some {σ : St} {i : Nat} {x : V} : ∀ {vs : List Nat}, (wipe σ vs)[i]? = some (some x) → σ[i]? = some (some x) ∧ i ∉ vs
  | [], h => ⟨h, by simp⟩
  | v :: vs, h => by
    unfold wipe at h
    by_cases hi : v = i
    · subst hi
      by_cases hv : v < (wipe σ vs).length
      · rw [List.getElem?_set_self hv] at h; cases h
      · rw [List.getElem?_eq_none (by simpa using hv)] at h; cases h
    · rw [List.getElem?_set_ne hi] at h
      obtain ⟨h1, h2⟩ := wipe_some h
      exact ⟨h1, by simp only [List.mem_cons, not_or]; exact ⟨fun e => hi e.symm, h2⟩⟩

noncomputable abbrev Cx.blk (X : Cx) (s : Shared) (H : Hp) (scope : Scope) (cenv : Env) (fp : List Addr) : Cx := { X with s_0 := s, H_0 := H, env := cenv, outer := X.stack, ex := fp, fn := fun x => scope.names.lookup x == some .cell, pn := [], xe := fun _ _ => False }
section
variable {X : Cx} {pins : List (Addr × Obj)} {σ : St} {H : Hp} {s : Shared}
theorem block_start {scope : Scope} {own : List (Str × Nat)} {fp : List Addr} (I : Inv X pins σ H s) (ok : BlkOk X.N X.env.scope scope own) (hN : X.N.Nodup) (hfp : ∀ b ∈ fp, FpOk X pins H b ∧ b < s.heap.objs.size) :
    Inv (X.blk s H scope (compEnvC scope (cellsFrom (s.heap.objs.size + 1) scope.names (cloFrom X.env.cells scope.names [])) s.heap.objs.size X.env) fp) [] (wipe σ (own.map (·.2))) H { s with heap := pushCells (s.heap.push { cls := .type "dict", data := .dict #[] }) scope.names } := by
  have hfree : ∀ y ∈ scope.names, y.2 = .free → ∃ c, X.env.cells.lookup y.1 = some c := fun y hy e => by
    rcases ok.free y hy e with k | k
    · exact I.ok.has _ (.inl k)
    · exact I.ok.has _ (.inr k)
  generalize hcenv : compEnvC scope (cellsFrom (s.heap.objs.size + 1) scope.names (cloFrom X.env.cells scope.names [])) s.heap.objs.size X.env = cenv
  have kp : ∀ b o, s.heap.get? b = some o → (pushCells (s.heap.push { cls := .type "dict", data := .dict #[] }) scope.names).get? b = some o := fun b o e => pushCells_keeps _ _ _ _ (Heap.get?_push_of_some _ e)
  have hL : cenv.locals = s.heap.objs.size := by rw [← hcenv]; rfl
  have hcl : cenv.cells = cellsFrom (s.heap.objs.size + 1) scope.names (cloFrom X.env.cells scope.names []) := by rw [← hcenv]; rfl
  have hsc : cenv.scope = relS scope X.env.scope := by rw [← hcenv]; rfl
  rw [← Heap.size_push s.heap { cls := .type "dict", data := .dict #[] }] at hcl
  have cm : ∀ {y c}, (y, c) ∈ cloFrom X.env.cells scope.names [] → X.env.cells.lookup y = some c ∧ c < s.heap.objs.size := fun {y c} hm => by
    rcases cloFrom_mem hm with hm | ⟨h1, rfl⟩
    · cases hm
    · obtain ⟨c, hc⟩ := hfree _ h1 rfl
      rw [hc]
      obtain ⟨w, z⟩ := I.cell _ _ hc
      exact ⟨rfl, z.lt⟩
  have mem : ∀ {y c}, cenv.cells.lookup y = some c → (X.env.cells.lookup y = some c ∧ c < s.heap.objs.size) ∨ (s.heap.objs.size + 1 ≤ c ∧ CellAt (pushCells (s.heap.push { cls := .type "dict", data := .dict #[] }) scope.names) c none) := fun {y c} e => by
    rw [hcl] at e
    rcases cells_mem (PySem.mem_of_lookup e) with hm | ⟨_, h2, h3⟩
    · exact .inl (cm hm)
    · rw [Heap.size_push] at h2; exact .inr ⟨h2, h3⟩
  have look : ∀ {y}, scope.names.lookup y = some .free → ∃ c, cenv.cells.lookup y = some c ∧ X.env.cells.lookup y = some c := fun {y} hl => by
    have hy : (y, NameKind.free) ∈ scope.names := PySem.mem_of_lookup hl
    obtain ⟨c', e'⟩ := mem_lookup (cells_acc (names := scope.names) (n := (s.heap.push { cls := .type "dict", data := .dict #[] }).objs.size) (cloFrom_has (cells := X.env.cells) (acc := []) hy))
    rw [← hcl] at e'
    refine ⟨c', e', ?_⟩
    rw [hcl] at e'
    rcases cells_mem (PySem.mem_of_lookup e') with hm | ⟨h1, _, _⟩
    · exact (cm hm).1
    · have := ok.uniq _ h1
      rw [hl] at this; cases this
  have okB : (X.blk s H scope cenv fp).Ok := by
    refine ⟨I.ok.mod, by show cenv.scope.kind = _; rw [hsc]; exact ok.kind, by show cenv.globals = _; rw [← hcenv]; exact I.ok.glob, by show cenv.builtins = _; rw [← hcenv]; exact I.ok.blt, by show s.heap.objs.size ≤ cenv.locals; rw [hL]; exact Nat.le_refl _,
      fun y z c e1 e2 => ?_, fun y hy => ?_, fun y c z e => ?_, I.ok.hd, I.ok.frames, .inl rfl, fun b hb => ⟨?_, fun y c e z => ?_⟩, I.bs, Nat.le_trans I.ok.bsz I.sz, fun b o e hb => ?_, fun b hb z => ?_, I.stack, I.stkFree⟩
    · have e1 : cenv.cells.lookup y = some c := e1
      have e2 : cenv.cells.lookup z = some c := e2
      rw [hcl] at e1 e2
      refine cells_inj (fun p hp => ?_) (fun y z c a b => I.ok.inj y z c (cm a).1 (cm b).1) (PySem.mem_of_lookup e1) (PySem.mem_of_lookup e2)
      rw [Heap.size_push]
      exact Nat.lt_succ_of_lt (cm (y := p.1) (c := p.2) hp).2
    · show ∃ c, cenv.cells.lookup y = some c
      have key : ∀ k, cenv.kindOf y = some k → (k = .cell ∨ k = .free) → ∃ c, cenv.cells.lookup y = some c := fun k hk hk' => by
        unfold Env.kindOf at hk
        rw [hsc] at hk
        obtain ⟨k', e, r⟩ := lookup_relS hk
        have : k' = .cell ∨ k' = .free := by
          rcases r with rfl | ⟨rfl, _⟩
          · exact hk'
          · exact .inr rfl
        rcases this with rfl | rfl
        · obtain ⟨c, hm⟩ := cells_has (n := (s.heap.push { cls := .type "dict", data := .dict #[] }).objs.size) (acc := cloFrom X.env.cells scope.names []) (PySem.mem_of_lookup e)
          obtain ⟨c', e'⟩ := mem_lookup hm
          exact ⟨c', by rw [hcl]; exact e'⟩
        · obtain ⟨c, h1, _⟩ := look e
          exact ⟨c, h1⟩
      rcases hy with hy | hy
      · exact key _ hy (.inl rfl)
      · exact key _ hy (.inr rfl)
    · have z : (scope.names.lookup y == some NameKind.cell) = true := z
      have z : scope.names.lookup y = some .cell := by simpa using z
      have e : cenv.cells.lookup y = some c := e
      rw [hcl] at e
      rcases cells_mem (PySem.mem_of_lookup e) with hm | ⟨_, h2, _⟩
      · rcases cloFrom_mem hm with hm | ⟨h1, _⟩
        · cases hm
        · have q := ok.uniq _ h1
          rw [z] at q; cases q
      · rw [Heap.size_push] at h2
        exact Nat.le_of_succ_le h2
    · show b ≠ cenv.locals
      rw [hL]; exact Nat.ne_of_lt (hfp b hb).2
    · have e : cenv.cells.lookup y = some c := e
      rcases mem e with ⟨h1, _⟩ | ⟨h1, _⟩
      · exact (hfp b hb).1.2.2.2.2.1 y c h1 z
      · have h2 : s.heap.objs.size + 1 ≤ b := by rw [← z]; exact h1
        exact absurd (Nat.lt_of_lt_of_le (hfp b hb).2 (Nat.le_of_succ_le h2)) (Nat.lt_irrefl _)
    · rcases (hfp b hb).1.2.2.2.1 with z | z
      · exact I.ok.noex b o e z
      · exact absurd (Nat.lt_of_lt_of_le (Heap.lt_size e) (Nat.le_trans I.ok.bsz z)) (Nat.lt_irrefl _)
    · rcases List.mem_cons.mp (I.stkSub b z) with z | z
      · exact (hfp b hb).1.2.1 z
      · exact (hfp b hb).1.2.2.1 z
  refine ⟨okB, rfl, I.bare, Un.kept kp, ⟨fun _ => none, ?_, fun i y av e1 e2 e3 => ?_⟩, fun y c e => ?_, ?_, fun y c e => ?_, fun p hp => ?_, I.hok.kept kp, by rw [wipe_length]; exact I.len⟩
  · show Heap.Ns _ cenv.locals _
    rw [hL]
    exact Heap.Ns.keeps (Heap.Ns.new ..) fun b o e => pushCells_keeps _ _ _ _ e
  · obtain ⟨e2, hne⟩ := wipe_some e2
    have hfr : scope.names.lookup y = some .free ∧ (cenv.kindOf y = some .cell ∨ cenv.kindOf y = some .free) := by
      have key : ∀ k, cenv.scope.names.lookup y = some k → k = .local ∨ k = .cell ∨ k = .free → scope.names.lookup y = some .free ∧ (cenv.kindOf y = some .cell ∨ cenv.kindOf y = some .free) := fun k hk hk' => by
        have hk0 := hk
        rw [hsc] at hk
        obtain ⟨k', e, r⟩ := lookup_relS hk
        have no : ¬ (k' = .local ∨ k' = .cell) := fun hh => by
          rcases ok.own _ (PySem.mem_of_lookup e) hh with e' | e'
          · obtain ⟨p, hp, hpy⟩ := List.mem_map.mp e'
            have e3 := ok.ix p hp
            have : p.1 = y := hpy
            rw [this] at e3
            exact hne (List.mem_map.mpr ⟨p, hp, nodup_ix hN e3 e1⟩)
          · exact e' (List.mem_of_getElem? e1)
        rcases r with rfl | ⟨rfl, rfl⟩
        · rcases hk' with rfl | rfl | rfl
          · exact absurd (.inl rfl) no
          · exact absurd (.inr rfl) no
          · exact ⟨e, .inr hk0⟩
        · exact ⟨e, .inl hk0⟩
      have e3 : Vis cenv.scope y := e3
      rcases e3 with e3 | e3 | e3
      · exact key _ e3 (.inl rfl)
      · exact key _ e3 (.inr (.inl rfl))
      · exact key _ e3 (.inr (.inr rfl))
    obtain ⟨m, hn, hl⟩ := I.loc
    have hvis : Vis X.env.scope y := (ok.free _ (PySem.mem_of_lookup hfr.1) rfl).elim (fun k => .inr (.inl k)) (fun k => .inr (.inr k))
    obtain ⟨w, r, q⟩ := hl i y av e1 e2 hvis
    refine ⟨w, r, .inr ⟨hfr.2, ?_⟩⟩
    obtain ⟨c, h1, h2⟩ := look hfr.1
    rcases q with ⟨k, _⟩ | ⟨_, c', e', z⟩
    · have k : X.env.scope.names.lookup y = some .local := k
      rcases ok.free _ (PySem.mem_of_lookup hfr.1) rfl with k' | k' <;> rw [show X.env.scope.names.lookup y = _ from k'] at k <;> cases k
    · rw [h2] at e'; cases e'
      exact ⟨c, h1, z.keeps kp⟩
  · have e : cenv.cells.lookup y = some c := e
    rcases mem e with ⟨h1, _⟩ | ⟨_, z⟩
    · obtain ⟨w, z⟩ := I.cell y c h1
      exact ⟨w, z.keeps kp⟩
    · exact ⟨_, z⟩
  · show H cenv.locals = none
    rw [hL]; exact I.hok.fresh (Nat.le_refl _)
  · have e : cenv.cells.lookup y = some c := e
    rcases mem e with ⟨h1, _⟩ | ⟨h1, _⟩
    · exact I.freeC y c h1
    · exact I.hok.fresh (Nat.le_of_succ_le h1)
  · exact absurd (show p ∈ ([] : List (Addr × Obj)) ++ [] from hp) (by simp)

theorem app_ok {E : Value → Shared → Prop} {D : Addr} {xs : List V} {y : V} {v : Value} {Q : Value → Shared → Prop} (I : Inv X pins σ H s) (hD : H D = some (.lst xs)) (hz : xs.length < sizeLine) (r : RelV y v)
    (h : ∀ s', Inv X pins σ (upd H D (.lst (xs ++ [y]))) s' → Q .none s') : wpAny (model X.prog X.w) X.A (call (.builtin "list.append") [.ref D, v]) Q E s := by
  obtain ⟨hz', its, n, ri, e⟩ := I.hok D _ hD
  have hl := ri.length
  refine append_at (hsz := by rw [List.size_toArray]; omega) e fun h' sb ho' => ?_
  refine h { s with heap := h' } (I.write (t' := s.toks) (by rw [hD]; trivial) (.inl rfl) (fun b u hb q => (sb.2 b hb).trans q) ⟨_, ho'⟩ ⟨by rw [List.length_append]; exact hz, its ++ [v], n + 1, ri.append (.cons r .nil), ?_⟩)
  rw [ho']
  simp

noncomputable def PTs (X : Cx) (ifs : List Expr) (t : TT) : Prop :=
  ∀ (pins : List (Addr × Obj)) (s : Shared) (σ : St) (H : Hp) (Q : Bool → Hp → Prop), Inv X pins σ H s → t σ H Q →
    wpAny (model X.prog X.w) X.A (forIn ifs true fun c r => if r = true then do let ok ← isTrue c X.env (eval c X.env); pure (ForInStep.yield ok) else pure (ForInStep.yield r)) (TP X pins σ Q) X.xe s
noncomputable def tYes : TT := fun _ H Q => Q true H
theorem pts_nil : PTs X [] tYes := fun _ _ _ H _ I h => wpAny_tests_nil ⟨H, I, h⟩
theorem pts_one {c : Expr} {t : TT} (h : PT X c t) : PTs X [c] t := fun pins s σ H Q I hw => wpAny_tests_one (h pins s σ H Q I hw)
end

theorem thnF {α : Type} {t : Sem α} {Q Q' : α → Shared → Prop} {M : Model} {A : Around} {E : Value → Shared → Prop} {s : Shared} (h : wpAny M A t Q (fun _ _ => False) s) (hQ : ∀ a s, Q a s → Q' a s) : wpAny M A t Q' E s := wpAny_mono h hQ fun _ _ z => False.elim z

theorem compLoop_any {prog : Program} {w : World} {A : Around} {R : Result → Shared → Prop} {s : Shared} {elt target iter : Expr} {ifs : List Expr} {scope : Scope} {pos : Pos} {it acc : Value} {env : Env} (I : Nat → Shared → Prop)
    (turn : ∀ n s, I n s → wpAny (model prog w) A (pyNext it) (fun r s₁ => match r with
      | none => R (.ok .next) s₁
      | some v => wpAny (model prog w) A (letOwnedTupleGo target it v) (fun _ s₁' => wpAny (model prog w) A (assign target env v) (fun _ s₂ =>
          wpAny (model prog w) A (forIn ifs true fun c r => if r = true then do let ok ← isTrue c env (eval c env); pure (ForInStep.yield ok) else pure (ForInStep.yield r)) (fun ok s₃ =>
            if ok = true then wpAny (model prog w) A (eval elt env) (fun x s₄ =>
              wpAny (model prog w) A (call (.builtin "list.append") [acc, x]) (fun _ s₅ => ∃ m, m < n ∧ I m s₅) (notedBy (model prog w) A env fun e s' => R (.error e) s') s₄) (notedBy (model prog w) A env fun e s' => R (.error e) s') s₃
            else ∃ m, m < n ∧ I m s₃) (notedBy (model prog w) A env fun e s' => R (.error e) s') s₂) (notedBy (model prog w) A env fun e s' => R (.error e) s') s₁') (notedBy (model prog w) A env fun e s' => R (.error e) s') s₁) (notedBy (model prog w) A env fun e s' => R (.error e) s') s)
    (n : Nat) (h : I n s) :
    codeAny (model prog w) A (.compLoop (.ListComp elt [⟨target, iter, ifs, 0⟩] scope pos) 0 it acc env) R s := by
  refine codeAny_loop rfl I (fun n s hI => ?_) n h
  show wpAny _ A ((compTurn (.ListComp elt [⟨target, iter, ifs, 0⟩] scope pos) 0 it acc env).onRaise (fun x => do noteFrame x env; theTreesLotGoes x)) _ _ s
  refine wpAny_noted ?_
  rw [compTurn_list]
  refine wpAny_bind (wpAny_standAt (wpAny_bind (wpAny_mono (turn n s hI) (fun r s₁ h₁ => ?_) fun _ _ h' => h')))
  cases r with
  | none => exact wpAny_pure h₁
  | some v =>
    refine wpAny_bind (wpAny_mono h₁ (fun _ s₁' h₁' => ?_) fun _ _ h' => h')
    refine wpAny_bind (wpAny_mono h₁' (fun _ s₂ h₂ => wpAny_bind (wpAny_mono h₂ (fun ok s₃ h₃ => ?_) fun _ _ h' => h')) fun _ _ h' => h')
    cases ok with
    | false => exact wpAny_pure ⟨rfl, h₃⟩
    | true =>
      exact wpAny_bind (wpAny_bind (wpAny_mono h₃ (fun x s₄ h₄ => wpAny_bind (wpAny_mono h₄ (fun _ s₅ h₅ => wpAny_pure (wpAny_pure ⟨rfl, h₅⟩)) fun _ _ h' => h')) fun _ _ h' => h'))

section
variable {X : Cx}
noncomputable def tLc (wi : TI) (g : TG) (tt : TT) (te : TE) (vs : List Nat) : TE := fun σ H Q => wi σ H fun J H1 => ∀ D, H1 D = none → ∃ W : Nat → Nat → Hp → Prop, (∃ m, W 0 m (upd H1 D (.lst []))) ∧ ∀ i m H, W i m H →
  (J.stop i H ∧ Q (.ref D) H) ∨ (J.go i H ∧ ∃ Nx : Hp → Prop, (∀ H', Nx H' → ∃ m', m' < m ∧ W (i + 1) m' H') ∧ ∀ x H', J.yld i H x H' → g x (wipe σ vs) H' fun σ2 H2 => wipe σ2 vs = wipe σ vs ∧ tt σ2 H2 fun b H3 =>
    if b = true then te σ2 H3 fun y H4 => ∃ acc, H4 D = some (.lst acc) ∧ acc.length < sizeLine ∧ Nx (upd H4 D (.lst (acc ++ [y]))) else Nx H3)
theorem lc_core {pins : List (Addr × Obj)} {s : Shared} {σ : St} {H : Hp} {Q : VK} {elt tg iter : Expr} {ifs : List Expr} {scope : Scope} {own : List (Str × Nat)} {pos pos' : Pos} {wi : TI} {g : TG} {tt : TT} {te : TE} {use : Option (Value → Sem Unit)} {Qf : Value → Shared → Prop}
    (hc : X.calm = true) (hN : X.N.Nodup) (I : Inv X pins σ H s) (hi : PI X tg iter wi) (ok : BlkOk X.N X.env.scope scope own)
    (hg : ∀ (s : Shared) (H : Hp) (C : Addr) (cl : List (Str × Addr)) (fp : List Addr), PG (X.blk s H scope (compEnvC scope cl C X.env) fp) tg g) (ht : ∀ (s : Shared) (H : Hp) (C : Addr) (cl : List (Str × Addr)) (fp : List Addr), PTs (X.blk s H scope (compEnvC scope cl C X.env) fp) ifs tt)
    (he : ∀ (s : Shared) (H : Hp) (C : Addr) (cl : List (Str × Addr)) (fp : List Addr), PE (X.blk s H scope (compEnvC scope cl C X.env) fp) elt te) (hs : ∀ x, foldedSetIterable iter X.env x = pure x)
    (h : tLc wi g tt te (own.map (·.2)) σ H Q)
    (hRR : ∀ D C s' m H', Inv X pins σ H' s' → Q (.ref D) H' → s'.heap.Ns C m → FpOk X pins H' C → compPost (model X.prog X.w) X.A X.xe use Qf (.ref D) C (.ok .next) s') :
    wpAny (model X.prog X.w) X.A (comprehension (.ListComp elt [⟨tg, iter, ifs, 0⟩] scope pos) scope X.env pos' (newList []) false (eval iter X.env) use) Qf X.xe s := by
  have hfree : ∀ y ∈ scope.names, y.2 = .free → ∃ c, X.env.cells.lookup y.1 = some c := fun y hy e => by
    rcases ok.free y hy e with k | k
    · exact I.ok.has _ (.inl k)
    · exact I.ok.has _ (.inr k)
  refine wpAny_comprehension_free (use := use) rfl hs (closure_ok hfree) ok.kind (fun y hy e => by rw [ok.uniq y hy, e])
    (thn (hi pins s σ H _ I h) fun xv s1 hx => thn hx fun itv s2 h2 => ?_)
  obtain ⟨it, fp, tn, J, H2, e, I2, T, st2, f2, q⟩ := h2
  subst e
  refine wpAny_newObj_type (newEnv_comp ?_) (by show 0 ≤ sizeLine; decide)
  generalize hD : s2.heap.objs.size = D
  have hDn : H2 D = none := I2.hok.fresh (Nat.le_of_eq hD)
  obtain ⟨W, ⟨m0, w0⟩, turn⟩ := q D hDn
  generalize hs3 : ({ s2 with heap := s2.heap.push { cls := .type "list", data := .seq ([] : List Value).toArray } } : Shared) = s3
  have I3 : Inv X pins σ (upd H2 D (.lst [])) s3 := by
    rw [← hs3]
    refine I2.laid (t' := s2.toks) (fun b o e => Heap.get?_push_of_some _ e) (Nat.le_of_eq hD) ⟨Nat.zero_le _, [], 0, .nil, ?_⟩
    rw [← hD]
    exact Heap.get?_push_size _ rfl
  have h3 : s3.heap = s2.heap.push { cls := .type "list", data := .seq ([] : List Value).toArray } := by rw [← hs3]
  have sz : ∀ b ∈ fp, b < s2.heap.objs.size := fun b hb => by
    obtain ⟨o, e, _⟩ := T.obj _ _ st2 b hb
    exact Heap.lt_size e
  have f3 : ∀ b ∈ fp, FpOk X pins (upd H2 D (.lst [])) b ∧ b < s3.heap.objs.size := fun b hb => by
    have hlt := sz b hb
    refine ⟨⟨?_, (f2 b hb).2⟩, by rw [h3, Heap.size_push]; exact Nat.lt_succ_of_lt hlt⟩
    rw [upd_ne (by rw [← hD]; exact Nat.ne_of_lt hlt)]
    exact (f2 b hb).1
  have st3 : tn 0 s3.heap := T.keep _ _ _ st2 fun b _ o e => by rw [h3]; exact Heap.get?_push_of_some _ e
  have I4 := block_start I3 ok hN f3
  have pg := hg s3 (upd H2 D (.lst [])) s3.heap.objs.size (cellsFrom (s3.heap.objs.size + 1) scope.names (cloFrom X.env.cells scope.names [])) fp
  have pt := ht s3 (upd H2 D (.lst [])) s3.heap.objs.size (cellsFrom (s3.heap.objs.size + 1) scope.names (cloFrom X.env.cells scope.names [])) fp
  have pe := he s3 (upd H2 D (.lst [])) s3.heap.objs.size (cellsFrom (s3.heap.objs.size + 1) scope.names (cloFrom X.env.cells scope.names [])) fp
  show codeAny _ _ (.compStart (.ListComp elt [⟨tg, iter, ifs, 0⟩] scope pos) 0 (.ref it) (.ref D) (compEnvC scope (cellsFrom (s3.heap.objs.size + 1) scope.names (cloFrom X.env.cells scope.names [])) s3.heap.objs.size X.env)) (compPost (model X.prog X.w) X.A X.xe use Qf (.ref D) s3.heap.objs.size) { s3 with heap := pushCells (s3.heap.push { cls := .type "dict", data := .dict #[] }) scope.names }
  have nfp : ∀ b ∈ fp, (upd H2 D (.lst [])) b = none := fun b hb => (f3 b hb).1.1
  generalize hce : compEnvC scope (cellsFrom (s3.heap.objs.size + 1) scope.names (cloFrom X.env.cells scope.names [])) s3.heap.objs.size X.env = ce at I4 pg pt pe ⊢
  have cL : ce.locals = s3.heap.objs.size := by subst hce; rfl
  generalize hH3 : upd H2 D (.lst []) = H3 at I3 I4 pg pt pe w0 nfp f3
  generalize hs4 : ({ s3 with heap := pushCells (s3.heap.push { cls := .type "dict", data := .dict #[] }) scope.names } : Shared) = s4 at I4 ⊢
  have st4 : tn 0 s4.heap := T.keep _ _ _ st3 fun b _ o e => by rw [← hs4]; exact pushCells_keeps _ _ _ _ (Heap.get?_push_of_some _ e)
  have stat : ∀ {σ' : St} {H' : Hp} {s' : Shared}, Inv (X.blk s3 H3 scope ce fp) [] σ' H' s' → (∀ b ∈ fp, H' b = none) → ∀ b ∈ fp, FpOk (X.blk s3 H3 scope ce fp) [] H' b := fun {σ' H' s'} I' hn b hb =>
    ⟨hn b hb, (I'.ok.exf b hb).1, I'.ok.exfs b hb, .inl hb, fun x c e => (I'.ok.exf b hb).2 x c e, fun p hp => absurd (show p ∈ ([] : List (Addr × Obj)) ++ [] from hp) (by simp)⟩
  have loop : codeAny (model X.prog X.w) X.A (.compLoop (.ListComp elt [⟨tg, iter, ifs, 0⟩] scope pos) 0 (.ref it) (.ref D) ce) (compPost (model X.prog X.w) X.A X.xe use Qf (.ref D) s3.heap.objs.size) s4 := by
    refine compLoop_any (fun n s' => ∃ i H', Inv (X.blk s3 H3 scope ce fp) [] (wipe σ (own.map (·.2))) H' s' ∧ tn i s'.heap ∧ (∀ b ∈ fp, H' b = none) ∧ W i n H') ?_ m0 ⟨0, H3, I4, st4, nfp, w0⟩
    rintro n s5 ⟨i, H5, I5, st5, n5, w5⟩
    rcases turn i n H5 w5 with ⟨stop, qq⟩ | ⟨go, Nx, hNx, step⟩
    · have td := T.done (X.blk s3 H3 scope ce fp) rfl rfl rfl hc i [] s5 _ H5 (fun _ _ => False) I5 (stat I5 n5) st5 stop
      refine thnF td fun r s6 zq => ?_
      obtain ⟨hr, I6⟩ := zq
      subst hr
      have I7 : Inv X pins σ H5 s6 := I3.call' (ch := fp) I6.os I6.base I6.hok I6.bare fun b hb => ⟨(f3 b hb).1.2.2.2.1, (f3 b hb).1.2.1, (f3 b hb).1.2.2.2.2.1, (f3 b hb).1.2.2.2.2.2⟩
      have nC : H5 s3.heap.objs.size = none := by
        have z : H5 ce.locals = none := I6.free
        rw [cL] at z
        exact z
      obtain ⟨m, hn, _⟩ := I6.loc
      have hn : s6.heap.Ns ce.locals m := hn
      rw [cL] at hn
      exact hRR D s3.heap.objs.size s6 m H5 I7 qq hn (I3.fpOk (Nat.le_refl _) nC)
    · have ti := T.item (X.blk s3 H3 scope ce fp) rfl rfl rfl hc i [] s5 _ H5 (fun _ _ => False) I5 (stat I5 n5) st5 go
      refine thnF ti fun r s6 zq => ?_
      obtain ⟨u, hr, h6⟩ := zq
      subst hr
      refine thnF h6 fun _ s7 zq => ?_
      obtain ⟨x, H7, I7, r7, y7, st7, n7⟩ := zq
      have I7' := I7.pinned (stat I7 n7) (T.obj _ _ st7)
      refine thnF (pg _ s7 _ H7 x u _ I7' r7 (step x H7 y7)) fun _ s8 zq => ?_
      obtain ⟨σ8, H8, I8, hw8, q8⟩ := zq
      refine thnF (pt _ s8 σ8 H8 _ I8 q8) fun b s9 zq => ?_
      obtain ⟨H9, I9, q9⟩ := zq
      have fin : ∀ {s' : Shared} {H' : Hp}, Inv (X.blk s3 H3 scope ce fp) ([] ++ pinsAt fp s7.heap) σ8 H' s' → Nx H' → ∃ m, m < n ∧ ∃ i H', Inv (X.blk s3 H3 scope ce fp) [] (wipe σ (own.map (·.2))) H' s' ∧ tn i s'.heap ∧ (∀ b ∈ fp, H' b = none) ∧ W i m H' := fun {s' H'} I' nx => by
        obtain ⟨m', hm, w'⟩ := hNx H' nx
        have pin' : ∀ b ∈ fp, ∀ o, s7.heap.get? b = some o → s'.heap.get? b = some o ∧ H' b = none := fun b hb o e =>
          let z := I'.pin (b, o) (List.mem_append_right _ (List.mem_append_right _ (mem_pinsAt hb e)))
          ⟨z.1, z.2.1⟩
        have hl : (wipe σ (own.map (·.2))).length = σ8.length := by rw [← hw8, wipe_length]
        refine ⟨m', hm, i + 1, H', (I'.unpinned (pins := [])).weak hl (fun j v e => ?_), T.keep _ _ _ st7 fun b hb o e => (pin' b hb o e).1, fun b hb => ?_, w'⟩
        · rw [← hw8] at e
          exact (wipe_some e).1
        · obtain ⟨o, e, _⟩ := T.obj _ _ st7 b hb
          exact (pin' b hb o e).2
      cases b with
      | false =>
        simp only [Bool.false_eq_true, if_false] at q9 ⊢
        exact fin I9 q9
      | true =>
        simp only [if_true] at q9 ⊢
        refine thnF (pe _ s9 σ8 H9 _ I9 q9) fun z s10 zq => ?_
        obtain ⟨yv, H10, I10, r10, acc, hD10, hz10, nx⟩ := zq
        exact app_ok (X := X.blk s3 H3 scope ce fp) I10 hD10 hz10 r10 fun s11 I11 => fin I11 nx
  exact codeAny_compStart_list loop (T.self X.A 0 _ _ _ st4 loop)
theorem pe_lc {elt tg iter : Expr} {ifs : List Expr} {scope : Scope} {own : List (Str × Nat)} {pos : Pos} {wi : TI} {g : TG} {tt : TT} {te : TE} (hc : X.calm = true) (hN : X.N.Nodup) (hi : PI X tg iter wi) (ok : BlkOk X.N X.env.scope scope own)
    (hg : ∀ (s : Shared) (H : Hp) (C : Addr) (cl : List (Str × Addr)) (fp : List Addr), PG (X.blk s H scope (compEnvC scope cl C X.env) fp) tg g) (ht : ∀ (s : Shared) (H : Hp) (C : Addr) (cl : List (Str × Addr)) (fp : List Addr), PTs (X.blk s H scope (compEnvC scope cl C X.env) fp) ifs tt)
    (he : ∀ (s : Shared) (H : Hp) (C : Addr) (cl : List (Str × Addr)) (fp : List Addr), PE (X.blk s H scope (compEnvC scope cl C X.env) fp) elt te) (hs : ∀ x, foldedSetIterable iter X.env x = pure x := by intro _; rfl) :
    PE X (.ListComp elt [⟨tg, iter, ifs, 0⟩] scope pos) (tLc wi g tt te (own.map (·.2))) := by
  intro pins s σ H Q I h
  rw [eval_ListComp]
  refine lc_core hc hN I hi ok hg ht he hs h fun D C s' m H' I' q hn f => ⟨m, hn, fun h'' sb => ?_⟩
  obtain ⟨f0, f1, f2, f3, f4, f5⟩ := f
  exact ⟨.ref D, H', I'.turned (t' := s'.toks) (fun b o hb e => (sb.2 b hb).trans e) f0 f1 f3 f4 f5, rfl, q⟩
theorem ps_setLc {i : Nat} {y : Str} {py : Pos} {elt tg iter : Expr} {ifs : List Expr} {scope : Scope} {own : List (Str × Nat)} {pos spos : Pos} {wi : TI} {g : TG} {tt : TT} {te : TE} (hc : X.calm = true) (hN : X.N.Nodup) (hy : X.N[i]? = some y) (hyl : X.env.scope.names.lookup y = some .local)
    (hsw : swapsWith (.ListComp elt [⟨tg, iter, ifs, 0⟩] scope pos) (some (.Name y py)) spos.line X.env = pure true) (hi : PI X tg iter wi) (ok : BlkOk X.N X.env.scope scope own)
    (hg : ∀ (s : Shared) (H : Hp) (C : Addr) (cl : List (Str × Addr)) (fp : List Addr), PG (X.blk s H scope (compEnvC scope cl C X.env) fp) tg g) (ht : ∀ (s : Shared) (H : Hp) (C : Addr) (cl : List (Str × Addr)) (fp : List Addr), PTs (X.blk s H scope (compEnvC scope cl C X.env) fp) ifs tt)
    (he : ∀ (s : Shared) (H : Hp) (C : Addr) (cl : List (Str × Addr)) (fp : List Addr), PE (X.blk s H scope (compEnvC scope cl C X.env) fp) elt te) (hs : ∀ x, foldedSetIterable iter X.env x = pure x := by intro _; rfl) :
    PS X (.Assign [.Name y py] (.ListComp elt [⟨tg, iter, ifs, 0⟩] scope pos) spos) (tAsg (tLc wi g tt te (own.map (·.2))) (gName i)) := by
  intro pins s σ H D I h
  rw [exec_Assign_Name_used _ _ _ _ hsw]
  refine wpAny_bind (wpAny_standAt (wpAny_bind ?_))
  show wpAny _ X.A (do let _ ← comprehension (.ListComp elt [⟨tg, iter, ifs, 0⟩] scope pos) scope X.env (firstIterPos [⟨tg, iter, ifs, 0⟩] pos) (newList []) false (eval iter X.env) (some (assign (.Name y py) X.env))) _ _ s
  have h : tLc wi g tt te (own.map (·.2)) σ H (fun x H1 => gName i x σ H1 D.nx) := h
  refine wpAny_bind (thn (lc_core (Qf := fun _ s' => SP X pins D .next s') hc hN I hi ok hg ht he hs h fun L C s' m H' I' q hn f => ?_) fun _ s' hq => wpAny_pure (wpAny_pure hq))
  show wpAny _ _ (assign (.Name y py) X.env (.ref L)) _ _ _
  refine wpAny_assign_Name (store_ok2 (v := V.ref L) I' hN hy (.inl hyl) rfl (fun s2 I2 zq => ?_) (.inr hyl))
  obtain ⟨a, sb, ha⟩ := zq
  obtain ⟨f0, f1, f2, f3, f4, f5⟩ := f
  have haC : C ≠ a := by
    rcases ha with z | z
    · rw [z]; exact f1
    · exact fun e => f4 y a z e.symm
  refine ⟨m, hn.sameBut sb haC, fun h3 sb3 => ?_⟩
  exact ⟨_, H', I2.turned (t' := s2.toks) (fun b o hb e => (sb3.2 b hb).trans e) f0 f1 f3 f4 f5, q⟩
theorem sw_true {elt : Expr} {gs : List Comprehension} {scope : Scope} {pos py : Pos} {y : Str} {l : Nat} {env : Env} (hk : env.scope.kind = .function) (hy : env.scope.names.lookup y = some .local) (hl : (py.line == pos.line) = true)
    (ha : (scope.names.any fun (n, k) => n == y && (k == .local || k == .cell)) = false) : swapsWith (.ListComp elt gs scope pos) (some (.Name y py)) l env = pure true := by
  have ky : env.kindOf y = some .local := hy
  have hb : env.blockKind = .function := by unfold Env.blockKind; rw [hk]; rfl
  unfold swapsWith
  simp only [hb, ky, ha, Expr.pos, hl]
  rfl
end

theorem lc_range {lo : Int} {n : Nat} {g : TG} {tt : TT} {te : TE} {vs : List Nat} {σ : St} {H1 : Hp} {D : Addr} {Qd : Hp → Prop} (Pv : Nat → Hp → Prop) (h0 : Pv 0 (upd H1 D (.lst [])))
    (hs : ∀ i H, i < n → Pv i H → g (.int (lo + i)) (wipe σ vs) H fun σ2 H2 => wipe σ2 vs = wipe σ vs ∧ tt σ2 H2 fun b H3 =>
      if b = true then te σ2 H3 fun y H4 => ∃ acc, H4 D = some (.lst acc) ∧ acc.length < sizeLine ∧ Pv (i + 1) (upd H4 D (.lst (acc ++ [y]))) else Pv (i + 1) H3) (hd : ∀ H, Pv n H → Qd H) :
    ∃ W : Nat → Nat → Hp → Prop, (∃ m, W 0 m (upd H1 D (.lst []))) ∧ ∀ i m H, W i m H →
      ((Itr lo n).stop i H ∧ Qd H) ∨ ((Itr lo n).go i H ∧ ∃ Nx : Hp → Prop, (∀ H', Nx H' → ∃ m', m' < m ∧ W (i + 1) m' H') ∧ ∀ x H', (Itr lo n).yld i H x H' → g x (wipe σ vs) H' fun σ2 H2 => wipe σ2 vs = wipe σ vs ∧ tt σ2 H2 fun b H3 =>
        if b = true then te σ2 H3 fun y H4 => ∃ acc, H4 D = some (.lst acc) ∧ acc.length < sizeLine ∧ Nx (upd H4 D (.lst (acc ++ [y]))) else Nx H3) := by
  refine ⟨fun i m H => m = n - i ∧ i ≤ n ∧ Pv i H, ⟨n, by simp, Nat.zero_le _, h0⟩, ?_⟩
  rintro i m H ⟨rfl, hi, p⟩
  by_cases hlt : i < n
  · refine .inr ⟨hlt, Pv (i + 1), fun H' p' => ⟨n - (i + 1), by omega, rfl, hlt, p'⟩, fun x H' y => ?_⟩
    obtain ⟨e, y⟩ := y
    subst e y
    exact hs i _ hlt p
  · have e : i = n := by omega
    subst e
    exact .inl ⟨Nat.le_refl _, hd H p⟩
theorem lc_list {K : PySem.W.Frag} {a : Addr} {xs : List V} {g : TG} {tt : TT} {te : TE} {vs : List Nat} {σ : St} {H1 : Hp} {D : Addr} {Qd : Hp → Prop} (Pv : Nat → Hp → Prop) (h0 : Pv 0 (upd H1 D (.lst []))) (hl : ∀ i H, i ≤ xs.length → Pv i H → SqL K H a xs)
    (hs : ∀ i x H, xs[i]? = some x → Pv i H → g x (wipe σ vs) H fun σ2 H2 => wipe σ2 vs = wipe σ vs ∧ tt σ2 H2 fun b H3 =>
      if b = true then te σ2 H3 fun y H4 => ∃ acc, H4 D = some (.lst acc) ∧ acc.length < sizeLine ∧ Pv (i + 1) (upd H4 D (.lst (acc ++ [y]))) else Pv (i + 1) H3) (hd : ∀ H, Pv xs.length H → Qd H) :
    ∃ W : Nat → Nat → Hp → Prop, (∃ m, W 0 m (upd H1 D (.lst []))) ∧ ∀ i m H, W i m H →
      ((Itl K a).stop i H ∧ Qd H) ∨ ((Itl K a).go i H ∧ ∃ Nx : Hp → Prop, (∀ H', Nx H' → ∃ m', m' < m ∧ W (i + 1) m' H') ∧ ∀ x H', (Itl K a).yld i H x H' → g x (wipe σ vs) H' fun σ2 H2 => wipe σ2 vs = wipe σ vs ∧ tt σ2 H2 fun b H3 =>
        if b = true then te σ2 H3 fun y H4 => ∃ acc, H4 D = some (.lst acc) ∧ acc.length < sizeLine ∧ Nx (upd H4 D (.lst (acc ++ [y]))) else Nx H3) := by
  refine ⟨fun i m H => m = xs.length - i ∧ i ≤ xs.length ∧ Pv i H, ⟨xs.length, by simp, Nat.zero_le _, h0⟩, ?_⟩
  rintro i m H ⟨rfl, hi, p⟩
  have q := hl i H hi p
  by_cases hlt : i < xs.length
  · refine .inr ⟨⟨xs, xs[i], q, by simp [hlt]⟩, Pv (i + 1), fun H' p' => ⟨xs.length - (i + 1), by omega, rfl, hlt, p'⟩, fun x H' y => ?_⟩
    obtain ⟨e, y⟩ := y
    subst e
    exact hs i x _ (y xs q) p
  · have e : i = xs.length := by omega
    subst e
    exact .inl ⟨⟨xs, q, Nat.le_refl _⟩, hd H p⟩
noncomputable def blkC (N : List Str) (sc scope : Scope) (own : List (Str × Nat)) : Bool :=
  (match scope.kind with | .function => true | _ => false) && (scope.names.all fun y => decide (scope.names.lookup y.1 = some y.2)) && (own.all fun p => decide (N[p.2]? = some p.1)) &&
    (scope.names.all fun y => match y.2 with
      | .free => (match sc.names.lookup y.1 with | some .cell => true | some .free => true | _ => false)
      | .local => decide (y.1 ∈ own.map (·.1)) || decide (y.1 ∉ N)
      | .cell => decide (y.1 ∈ own.map (·.1)) || decide (y.1 ∉ N)
      | _ => true)
theorem blkOk_by {N : List Str} {sc scope : Scope} {own : List (Str × Nat)} (h : blkC N sc scope own = true) : BlkOk N sc scope own := by
  unfold blkC at h
  simp only [Bool.and_eq_true, List.all_eq_true, decide_eq_true_eq] at h
  obtain ⟨⟨⟨h1, h2⟩, h3⟩, h4⟩ := h
  refine ⟨?_, h2, h3, fun y hy e => ?_, fun y hy e => ?_⟩
  · split at h1
    · assumption
    · cases h1
  · have q := h4 y hy
    simp only [e] at q
    split at q <;> first | exact .inl (by assumption) | exact .inr (by assumption) | cases q
  · have q := h4 y hy
    rcases e with e | e <;> (simp only [e, Bool.or_eq_true, decide_eq_true_eq] at q; exact q)
end L2

namespace L2
open PySem PySem.Spec PyProof.Rows

section
variable {prog : Program} {w : World} {A : Around} {R : Result → Shared → Prop} {s : Shared} {elt t0 i0 t1 i1 : Expr} {ifs0 ifs1 : List Expr} {scope : Scope} {pos : Pos} {it acc : Value} {env : Env}
end

section
variable {X : Cx}
end
end L2

namespace L2
open PySem PySem.Spec PyProof.Rows

section
variable {κ : Type} [DecidableEq κ]
noncomputable def valV (kvs : List (κ × V)) (k : κ) : Option V := (kvs.find? fun kv => decide (kv.1 = k)).map (·.2)
noncomputable def putK (kvs : List (κ × V)) (k : κ) (v : V) : List (κ × V) :=
  if (kvs.any fun kv => decide (kv.1 = k)) = true then kvs.map (fun kv => if kv.1 = k then (kv.1, v) else kv) else kvs ++ [(k, v)]
theorem valV_nil {k : κ} : valV ([] : List (κ × V)) k = none := rfl
theorem valV_pos {p : κ × V} {r : List (κ × V)} {k : κ} (e : p.1 = k) : valV (p :: r) k = some p.2 := by simp [valV, List.find?_cons, e]
theorem valV_neg {p : κ × V} {r : List (κ × V)} {k : κ} (e : ¬ p.1 = k) : valV (p :: r) k = valV r k := by simp [valV, List.find?_cons, e]
theorem valV_any (k : κ) : ∀ kvs : List (κ × V), (kvs.any fun kv => decide (kv.1 = k)) = (valV kvs k).isSome
  | [] => rfl
  | p :: r => by
    rw [List.any_cons]
    by_cases e : p.1 = k
    · simp only [valV_pos e, decide_eq_true e, Bool.true_or, Option.isSome_some]
    · rw [valV_neg e, decide_eq_false e, Bool.false_or]; exact valV_any k r
theorem valV_map (k j : κ) (y : V) : ∀ kvs : List (κ × V), valV (kvs.map fun kv => if kv.1 = k then (kv.1, y) else kv) j = (valV kvs j).map fun x => if j = k then y else x
  | [] => rfl
  | p :: r => by
    have ih := valV_map k j y r
    rw [List.map_cons]
    by_cases h : p.1 = k
    · rw [if_pos h]
      by_cases e : p.1 = j
      · rw [valV_pos (p := (p.1, y)) e, valV_pos e, Option.map_some, if_pos (e.symm.trans h)]
      · rw [valV_neg (p := (p.1, y)) e, valV_neg e, ih]
    · rw [if_neg h]
      by_cases e : p.1 = j
      · rw [valV_pos (p := p) e, valV_pos e, Option.map_some, if_neg (fun z => h (e.trans z))]
      · rw [valV_neg (p := p) e, valV_neg e, ih]
theorem valV_snoc (k j : κ) (y : V) : ∀ kvs : List (κ × V), valV kvs k = none → valV (kvs ++ [(k, y)]) j = if j = k then some y else valV kvs j
  | [], _ => by
    by_cases e : k = j
    · rw [if_pos e.symm]; exact valV_pos (p := (k, y)) e
    · rw [if_neg (fun z => e z.symm)]; exact valV_neg (p := (k, y)) e
  | p :: r, hn => by
    rw [List.cons_append]
    have hk : ¬ p.1 = k := fun z => by rw [valV_pos z] at hn; cases hn
    rw [valV_neg hk] at hn
    have ih := valV_snoc k j y r hn
    by_cases e : p.1 = j
    · rw [valV_pos e, valV_pos e, if_neg (fun z => hk (e.trans z))]
    · rw [valV_neg e, valV_neg e, ih]
theorem valV_put (kvs : List (κ × V)) (k j : κ) (y : V) : valV (putK kvs k y) j = if j = k then some y else valV kvs j := by
  unfold putK
  by_cases a : (kvs.any fun kv => decide (kv.1 = k)) = true
  · rw [if_pos a, valV_map]
    rw [valV_any] at a
    by_cases e : j = k
    · obtain ⟨x, hx⟩ := Option.isSome_iff_exists.mp a
      rw [if_pos e, e, hx, Option.map_some, if_pos rfl]
    · rw [if_neg e]
      cases valV kvs j with
      | none => rfl
      | some x => rw [Option.map_some, if_neg e]
  · rw [if_neg a]
    refine valV_snoc k j y kvs ?_
    rw [valV_any] at a
    cases q : valV kvs k with
    | none => rfl
    | some x => rw [q] at a; exact (a rfl).elim
theorem length_putK (kvs : List (κ × V)) (k : κ) (v : V) : (putK kvs k v).length ≤ kvs.length + 1 := by
  unfold putK
  split
  · rw [List.length_map]; omega
  · rw [List.length_append, List.length_cons, List.length_nil]; omega
theorem RelO.isSome_eq {o : Option V} {u : Option Value} (r : RelO o u) : o.isSome = u.isSome := by
  cases o with
  | none => cases u with
    | none => rfl
    | some _ => exact (show False from r).elim
  | some _ => cases u with
    | none => exact (show False from r).elim
    | some _ => rfl
theorem KV.val {kvs : List (κ × V)} {vs : List (κ × Value)} (r : KV kvs vs) (k : κ) : RelO (valV kvs k) (valueAt vs k) := by
  unfold KV at r
  induction r with
  | nil => exact True.intro
  | @cons p q ps qs h t ih =>
    obtain ⟨h1, h2⟩ := h
    by_cases e : p.1 = k
    · have e' : q.1 = k := h1.symm.trans e
      have b : valueAt (q :: qs) k = some q.2 := by simp [valueAt, List.find?_cons, e']
      rw [valV_pos e, b]; exact h2
    · have e' : ¬ q.1 = k := fun z => e (h1.trans z)
      have b : valueAt (q :: qs) k = valueAt qs k := by simp [valueAt, List.find?_cons, e']
      rw [valV_neg e, b]; exact ih
theorem KV.any {kvs : List (κ × V)} {vs : List (κ × Value)} (r : KV kvs vs) (k : κ) : (kvs.any fun kv => decide (kv.1 = k)) = vs.any fun kv => decide (kv.1 = k) := by
  unfold KV at r
  induction r with
  | nil => rfl
  | cons h t ih => rw [List.any_cons, List.any_cons, ih, h.1]
theorem KV.repl {kvs : List (κ × V)} {vs : List (κ × Value)} (r : KV kvs vs) (k : κ) {y : V} {u : Value} (ry : RelV y u) :
    KV (kvs.map fun kv => if kv.1 = k then (kv.1, y) else kv) (vs.map fun kv => if kv.1 = k then (kv.1, u) else kv) := by
  unfold KV at r ⊢
  induction r with
  | nil => exact .nil
  | @cons p q ps qs h t ih =>
    rw [List.map_cons, List.map_cons]
    refine .cons ?_ ih
    obtain ⟨h1, h2⟩ := h
    by_cases e : p.1 = k
    · rw [if_pos e, if_pos (h1.symm.trans e)]; exact ⟨h1, ry⟩
    · rw [if_neg e, if_neg (fun z => e (h1.trans z))]; exact ⟨h1, h2⟩
theorem KV.put {kvs : List (κ × V)} {vs : List (κ × Value)} (r : KV kvs vs) (k : κ) {y : V} {u : Value} (ry : RelV y u) : KV (putK kvs k y) (stored vs k u) := by
  unfold putK stored
  rw [r.any k]
  by_cases e : (vs.any fun kv => decide (kv.1 = k)) = true
  · rw [if_pos e, if_pos e]; exact r.repl k ry
  · rw [if_neg e, if_neg e]; exact Paired.snoc r ⟨rfl, ry⟩
theorem KV.length {kvs : List (κ × V)} {vs : List (κ × Value)} (r : KV kvs vs) : kvs.length = vs.length := Paired.length r
end


theorem kV_is {P : Program} {w : World} {k : Key} {u : Value} (r : RelV (kV k) u) : (mixKind P w).is k u = true := by
  cases k with
  | inl i => obtain ⟨t, e⟩ := (show ∃ t, u = Value.int i t from r); subst e; exact mixKind_int P w i t
  | inr x => obtain ⟨t, e⟩ := (show ∃ t, u = Value.str x t from r); subst e; exact mixKind_str P w x t
theorem items_are {P : Program} {w : World} : ∀ {ks : List Key} {us : List Value}, Vals (ks.map kV) us → ItemsAre (mixKind P w) ks us
  | [], _, r => by rw [List.map_nil] at r; cases r; exact .nil
  | k :: ks, _, r => by
    rw [List.map_cons] at r
    cases r with
    | cons h t => exact .cons (kV_is h) (items_are t)

noncomputable abbrev KT (H : Hp) : List (List Key × V) → List (List Key × Addr × Value) → Prop := Paired fun p q => p.1 = q.1 ∧ H q.2.1 = some (.tup (p.1.map kV)) ∧ RelV p.2 q.2.2
theorem KT.val {H : Hp} {kvs : List (List Key × V)} {xs : List (List Key × Addr × Value)} (r : KT H kvs xs) (k : List Key) : RelO (valV kvs k) ((atKey xs k).map (·.2)) := by
  induction r with
  | nil => exact True.intro
  | @cons p q ps qs h t ih =>
    obtain ⟨h1, _, h2⟩ := h
    by_cases e : p.1 = k
    · have e' : q.1 = k := h1.symm.trans e
      have b : atKey (q :: qs) k = some q.2 := by simp [atKey, List.find?_cons, e']
      rw [valV_pos e, b]; exact h2
    · have e' : ¬ q.1 = k := fun z => e (h1.trans z)
      have b : atKey (q :: qs) k = atKey qs k := by simp [atKey, List.find?_cons, e']
      rw [valV_neg e, b]; exact ih
theorem KT.repl {H : Hp} {kvs : List (List Key × V)} {xs : List (List Key × Addr × Value)} (r : KT H kvs xs) (k : List Key) {y : V} {u : Value} (ry : RelV y u) :
    KT H (kvs.map fun kv => if kv.1 = k then (kv.1, y) else kv) (xs.map (putAt k u)) := by
  induction r with
  | nil => exact .nil
  | @cons p q ps qs h t ih =>
    rw [List.map_cons, List.map_cons]
    refine .cons ?_ ih
    obtain ⟨h1, h2, h3⟩ := h
    unfold putAt
    by_cases e : p.1 = k
    · rw [if_pos e, if_pos (h1.symm.trans e)]; exact ⟨h1, h2, ry⟩
    · rw [if_neg e, if_neg (fun z => e (h1.trans z))]; exact ⟨h1, h2, h3⟩
theorem KT.put {H : Hp} {kvs : List (List Key × V)} {xs : List (List Key × Addr × Value)} (r : KT H kvs xs) (k : List Key) {b : Addr} {y : V} {u : Value} (hb : H b = some (.tup (k.map kV))) (ry : RelV y u) :
    KT H (putK kvs k y) (storedH xs k b u) := by
  have e : (kvs.any fun kv => decide (kv.1 = k)) = (atKey xs k).isSome := by
    rw [valV_any, (r.val k).isSome_eq, Option.isSome_map]
  unfold putK storedH
  rw [e]
  by_cases q : (atKey xs k).isSome = true
  · rw [if_pos q, if_pos q]; exact r.repl k ry
  · rw [if_neg q, if_neg q]; exact Paired.snoc r ⟨rfl, hb, ry⟩
theorem KT.keeps {H H' : Hp} {kvs : List (List Key × V)} {xs : List (List Key × Addr × Value)} (r : KT H kvs xs) (ht : ∀ b ys, H b = some (.tup ys) → H' b = some (.tup ys)) : KT H' kvs xs :=
  Paired.mapP r fun _ _ z => ⟨z.1, ht _ _ z.2.1, z.2.2⟩

section
variable {P : Program} {w : World} {H : Hp} {h : Heap} {a : Addr}
theorem rd_of {u : HO} (ok : HOk P w H h) (e : Rd H a u) : ObjOk P w H h a u := e.ok ok
theorem dk_rd {kvs : List (Key × V)} (ok : HOk P w H h) (e : Rd H a (.dK kvs)) : kvs.length ≤ sizeLine ∧ (a == sysModules) = false ∧ ∃ vs, KV kvs vs ∧ h.DictOf (mixKind P w) a vs :=
  show ObjOk P w H h a (.dK kvs) from rd_of ok e
theorem dk_of {kvs : List (Key × V)} (ok : HOk P w H h) (e : H a = some (.dK kvs)) : kvs.length ≤ sizeLine ∧ (a == sysModules) = false ∧ ∃ vs, KV kvs vs ∧ h.DictOf (mixKind P w) a vs := dk_rd ok (.inl e)
theorem key_of {ks : List Key} (ok : HOk P w H h) (e : H a = some (.tup (ks.map kV))) : (tupleKind (mixKind P w)).is h ks a := by
  obtain ⟨_, its, r, o, h1, h2, n, h3⟩ := (show ObjOk P w H h a (.tup (ks.map kV)) from ok a _ e)
  exact ⟨o, its.toArray, n, h1, h2, h3, by simpa using items_are r⟩
theorem dt_rd {kvs : List (List Key × V)} (ok : HOk P w H h) (e : Rd H a (.dT kvs)) : kvs.length ≤ sizeLine ∧ (a == sysModules) = false ∧
    ∃ xs, KT H kvs xs ∧ h.DictOfH (tupleKind (mixKind P w)) a xs := by
  obtain ⟨z, y, xs, r, o, es, ep, h1, h2, h3, h4, h5⟩ := (show ObjOk P w H h a (.dT kvs) from rd_of ok e)
  refine ⟨z, y, xs, r, o, es, ep, h1, h2, h3, h4, fun x hx => ?_, h5⟩
  have all : ∀ {l : List (List Key × V)} {m : List (List Key × Addr × Value)}, KT H l m → ∀ x ∈ m, (tupleKind (mixKind P w)).is h x.1 x.2.1 := by
    intro l m q
    induction q with
    | nil => intro x hx; exact nomatch hx
    | @cons p q ps qs hq t ih =>
      intro x hx
      rcases List.mem_cons.mp hx with e | hx
      · subst e
        exact key_of ok (by rw [← hq.1]; exact hq.2.1)
      · exact ih x hx
  exact all r x hx
theorem dt_of {kvs : List (List Key × V)} (ok : HOk P w H h) (e : H a = some (.dT kvs)) : kvs.length ≤ sizeLine ∧ (a == sysModules) = false ∧
    ∃ xs, KT H kvs xs ∧ h.DictOfH (tupleKind (mixKind P w)) a xs := dt_rd ok (.inl e)
end

noncomputable def DGet (H : Hp) (a : Addr) (y : V) (r : Option V) : Prop :=
  (∃ kvs k, Rd H a (.dK kvs) ∧ y = kV k ∧ r = valV kvs k) ∨ ∃ kvs k b, Rd H a (.dT kvs) ∧ y = .ref b ∧ H b = some (.tup (k.map kV)) ∧ r = valV kvs k
noncomputable def DPut (H : Hp) (a : Addr) (y v : V) (H' : Hp) : Prop :=
  (∃ kvs k, H a = some (.dK kvs) ∧ y = kV k ∧ kvs.length < sizeLine ∧ H' = upd H a (.dK (putK kvs k v))) ∨
  ∃ kvs k b, H a = some (.dT kvs) ∧ y = .ref b ∧ H b = some (.tup (k.map kV)) ∧ kvs.length < sizeLine ∧ H' = upd H a (.dT (putK kvs k v))
theorem DGet.k {H : Hp} {a : Addr} {kvs : List (Key × V)} {k : Key} (e : H a = some (.dK kvs)) : DGet H a (kV k) (valV kvs k) := .inl ⟨kvs, k, .inl e, rfl, rfl⟩
theorem DPut.k {H : Hp} {a : Addr} {kvs : List (Key × V)} {k : Key} {v : V} (e : H a = some (.dK kvs)) (hl : kvs.length < sizeLine) : DPut H a (kV k) v (upd H a (.dK (putK kvs k v))) := .inl ⟨kvs, k, e, rfl, hl, rfl⟩
section
variable {X : Cx} {pins : List (Addr × Obj)} {σ : St} {H : Hp} {s : Shared} {a : Addr} {y v : V} {u r : Value} {o : Option V} {A : Around} {E : Value → Shared → Prop}

theorem Inv.big (I : Inv X pins σ H s) : sysModules < s.heap.objs.size := by
  have h : mainGlobals < s.heap.objs.size := (I.mod.glob.keeps I.bk).lt
  exact Nat.lt_trans (by decide) h

theorem d_getItem {Q : Value → Shared → Prop} (hu : A.units + 1 < cLine) (I : Inv X pins σ H s) (g : DGet H a y (some v)) (ry : RelV y u) (h : ∀ w' s', Inv X pins σ H s' → RelV v w' → Q w' s') :
    wpAny (model X.prog X.w) A (getItem (.ref a) u) Q E s := by
  rcases g with ⟨kvs, k, e, ey, l⟩ | ⟨kvs, k, b, e, ey, eb, l⟩
  · subst ey
    obtain ⟨z, hd, vs, rel, dd⟩ := dk_rd I.hok e
    obtain ⟨w', hw, rw'⟩ := RelO.some_of (v := v) (o := valueAt vs k) (by rw [l]; exact rel.val k)
    exact wpAny_getItem_of (kV_is ry) dd.mapOf hw (h w' _ (I.tok _) rw')
  · subst ey
    cases (show u = Value.ref b from ry)
    obtain ⟨z, hd, xs, rel, dd⟩ := dt_rd I.hok e
    obtain ⟨w', hw, rw'⟩ := RelO.some_of (v := v) (o := (atKey xs k).map (·.2)) (by rw [l]; exact rel.val k)
    obtain ⟨p, hp, hp2⟩ := Option.map_eq_some_iff.mp hw
    refine wpAny_getItem_heap (tupleKind_room_in1 hu) (key_of I.hok eb) dd hp ?_
    rw [hp2]
    exact h w' _ (I.tok _) rw'
theorem d_notIn {Q : Value → Shared → Prop} (hu : A.units + 1 < cLine) (I : Inv X pins σ H s) (g : DGet H a y o) (ry : RelV y u) (h : ∀ s', Inv X pins σ H s' → Q (.bool (!o.isSome)) s') :
    wpAny (model X.prog X.w) A (compareOp .NotIn u (.ref a)) Q E s := by
  rcases g with ⟨kvs, k, e, ey, l⟩ | ⟨kvs, k, b, e, ey, eb, l⟩
  · subst ey
    obtain ⟨z, hd, vs, rel, dd⟩ := dk_rd I.hok e
    refine wpAny_notIn_of (kV_is ry) hd dd.mapOf ?_
    rw [← (rel.val k).isSome_eq, ← l]
    exact h _ (I.tok _)
  · subst ey
    cases (show u = Value.ref b from ry)
    obtain ⟨z, hd, xs, rel, dd⟩ := dt_rd I.hok e
    refine wpAny_notIn_heap (tupleKind_room_in1 hu) (key_of I.hok eb) hd dd ?_
    have q := (rel.val k).isSome_eq
    rw [Option.isSome_map] at q
    rw [← q, ← l]
    exact h _ (I.tok _)
theorem d_write {h' : Heap} {t' : Nat} {ob : HO} (I : Inv X pins σ H s) (mu : Mut (H a)) (hs : Heap.SameBut a s.heap h') (he : ∃ q, h'.get? a = some q) (new : ObjOk X.prog X.w (upd H a ob) h' a ob) :
    Inv X pins σ (upd H a ob) { s with heap := h', toks := t' } :=
  I.write (x := a) (e := a) mu (.inl rfl) (fun b q hb z => (hs.2 b hb).trans z) he new
theorem dk_new {P : Program} {w : World} {H' : Hp} {h' : Heap} {kvs : List (Key × V)} {vs : List (Key × Value)} (z : kvs.length ≤ sizeLine) (hd : (a == sysModules) = false) (rel : KV kvs vs) (dd : h'.DictOf (mixKind P w) a vs) :
    ObjOk P w H' h' a (.dK kvs) := ⟨z, hd, vs, rel, dd⟩
theorem d_setItem {H' : Hp} {Q : Unit → Shared → Prop} (hu : A.units + 1 < cLine) (I : Inv X pins σ H s) (g : DPut H a y v H') (ry : RelV y u) (rv : RelV v r) (h : ∀ s', Inv X pins σ H' s' → Q () s') :
    wpAny (model X.prog X.w) A (setItem (.ref a) u r) Q E s := by
  rcases g with ⟨kvs, k, e, ey, l, eH⟩ | ⟨kvs, k, b, e, ey, eb, l, eH⟩
  · subst ey eH
    obtain ⟨z, hd, vs, rel, dd⟩ := dk_of I.hok e
    have hz : vs.length ≤ sizeLine := by rw [← rel.length]; exact z
    have hl : (putK kvs k v).length ≤ sizeLine := by have := length_putK kvs k v; omega
    refine wpAny_setItem_pairs (hsz := hz) (kV_is ry) dd fun h' dd' hs => h _ ?_
    have he : ∃ q, h'.get? a = some q := let ⟨q, _, _, hq, _⟩ := dd'; ⟨q, hq⟩
    exact d_write I (by rw [e]; exact True.intro) hs he (dk_new hl hd (rel.put k rv) dd')
  · subst ey eH
    cases (show u = Value.ref b from ry)
    obtain ⟨z, hd, xs, rel, dd⟩ := dt_of I.hok e
    have hz : xs.length ≤ sizeLine := by rw [← Paired.length rel]; exact z
    have hl : (putK kvs k v).length ≤ sizeLine := by have := length_putK kvs k v; omega
    refine wpAny_setItem_heap (hsz := hz) (tupleKind_room_in1 hu) (key_of I.hok eb) dd fun h' dd' hs => h _ ?_
    obtain ⟨q, es, ep, hq, h2, h3, h4, _, h5⟩ := dd'
    refine d_write I (by rw [e]; exact True.intro) hs ⟨q, hq⟩ ⟨hl, hd, _, (rel.put k eb rv).keeps fun c ys ec => ?_, q, es, ep, hq, h2, h3, h4, h5⟩
    rw [upd_ne (ne_of ec e (fun z => nomatch z))]
    exact ec
end

section
variable {X : Cx} {pins : List (Addr × Obj)} {σ : St} {H : Hp} {s : Shared} {a : Addr} {kvs : List (Key × V)} {k : Key} {u : Value} {A : Around} {E : Value → Shared → Prop}
end


noncomputable def NoSl (i : Expr) : Prop := ∀ ov iv, subscripted i false ov iv = operate [ov, iv] (getItem ov iv)
theorem subD_of {prog : Program} {w : World} {A : Around} {E : Value → Shared → Prop} {s : Shared} {env : Env} {value slice : Expr} {pos : Pos} {T id : String} {Q : Value → Shared → Prop}
    (hl : typeLookup (.type T) "__getitem__" = pure (some (.builtin id))) (hs : NoSl slice)
    (h : wpAny (model prog w) A (eval value env) (fun o s₁ => wpAny (model prog w) A (eval slice env) (fun i s₂ => s₂.TypeIs o T ∧ wpAny (model prog w) A (getItem o i) Q E s₂) E s₁) E s) :
    wpAny (model prog w) A (eval (.Subscript value slice pos) env) Q E s := by
  refine Subscript_ (wpAny_mono h (fun o s₁ h₁ => wpAny_mono h₁ (fun i s₂ h₂ => ?_) fun _ _ x => x) fun _ _ x => x)
  obtain ⟨hT, h₂⟩ := h₂
  unfold subscriptTail
  refine wpAny_bind ?_
  rw [getitemInPython_of_ne hT.not_modules]
  refine wpAny_bind (wpAny_specialOf hT hl ?_)
  have fin : wpAny (model prog w) A (subscripted slice false o i) (fun r s₃ => wpAny (model prog w) A (letTemporaryGo value o r >>= fun _ => pure r) Q E s₃) E s₂ := by
    rw [hs o i]
    exact wpAny_operating (wpAny_mono h₂ (fun r s₃ h₃ => wpAny_bind (wpAny_letTemporaryGo (wpAny_pure h₃))) fun _ _ x => x)
  first
    | exact wpAny_pure (wpAny_bind fin)
    | exact wpAny_bind (wpAny_pure (wpAny_bind fin))
    | exact wpAny_bind fin

theorem dict_typeIs {X : Cx} {pins : List (Addr × Obj)} {σ : St} {H : Hp} {s : Shared} {a : Addr} {y : V} {o : Option V} (I : Inv X pins σ H s) (g : DGet H a y o) : s.TypeIs (.ref a) "dict" := by
  rcases g with ⟨kvs, k, e, _, _⟩ | ⟨kvs, k, b, e, _, _, _⟩
  · obtain ⟨_, _, vs, _, dd⟩ := dk_rd I.hok e
    exact dd.typeIs
  · obtain ⟨_, _, xs, _, dd⟩ := dt_rd I.hok e
    exact dd.typeIs
noncomputable def tDGet (td ty : TE) : TE := fun σ H Q => td σ H fun x H1 => ty σ H1 fun y H2 => ∃ a v, x = .ref a ∧ DGet H2 a y (some v) ∧ Q v H2
noncomputable def tDNotIn (ty td : TE) : TE := fun σ H Q => ty σ H fun y H1 => td σ H1 fun x H2 => ∃ a o, x = .ref a ∧ DGet H2 a y o ∧ Q (.bl (!o.isSome)) H2
noncomputable def sDPut (td ty tv : TE) : TS := fun D σ H => tv σ H fun v H1 => td σ H1 fun x H2 => ty σ H2 fun y H3 => ∃ a H4, x = .ref a ∧ DPut H3 a y v H4 ∧ D.nx σ H4
section
variable {X : Cx} {o i e value : Expr} {pos pos' tpos : Pos} {td ty tv : TE}
theorem pe_dget (hu : X.A.units + 1 < cLine) (ho : PE X o td) (hi : PE X i ty) (hs : NoSl i) : PE X (.Subscript o i pos) (tDGet td ty) := by
  intro pins s σ H Q I h
  refine subD_of PySem.F.slot_dict_getitem.lookup hs (thn (ho pins s σ H _ I h) fun u s1 ⟨x, H1, I1, rx, q1⟩ => thn (hi pins s1 σ H1 _ I1 q1) fun iv s2 zq => ?_)
  obtain ⟨y, H2, I2, ry, a, v, ex, g, q2⟩ := zq
  subst ex
  obtain rfl : u = Value.ref a := rx
  exact ⟨dict_typeIs I2 g, d_getItem hu I2 g ry fun w' s3 I3 rw' => ⟨v, H2, I3, rw', q2⟩⟩
theorem pc_dnotin (hu : X.A.units + 1 < cLine) (hi : PE X i ty) (ho : PE X o td) : PC X .NotIn i o (tDNotIn ty td) := by
  intro pins s σ H Q I h
  refine thn (hi pins s σ H _ I h) fun iv s1 ⟨y, H1, I1, ry, q1⟩ => thn (ho pins s1 σ H1 _ I1 q1) fun u s2 zq => ?_
  obtain ⟨x, H2, I2, rx, a, ov, ex, g, q2⟩ := zq
  subst ex
  obtain rfl : u = Value.ref a := rx
  exact d_notIn hu I2 g ry fun s3 I3 => ⟨.bl (!ov.isSome), H2, I3, rfl, q2⟩
theorem ps_dput (hu : X.A.units + 1 < cLine) (ho : PE X o td) (hi : PE X i ty) (hv : PE X value tv) (hs : swapsWith value (some (.Subscript o i pos')) pos.line X.env = pure false) :
    PS X (.Assign [.Subscript o i pos'] value pos) (sDPut td ty tv) := by
  intro pins s σ H D I h
  refine wpAny_Assign_Subscript (thn (hv pins s σ H _ I h) fun r s1 ⟨v, H1, I1, rv, q1⟩ => thn (ho pins s1 σ H1 _ I1 q1) fun u s2 ⟨x, H2, I2, rx, q2⟩ => thn (hi pins s2 σ H2 _ I2 q2) fun iv s3 zq => ?_) hs
  obtain ⟨y, H3, I3, ry, a, H4, ex, g, q3⟩ := zq
  subst ex
  obtain rfl : u = Value.ref a := rx
  exact d_setItem hu I3 g ry rv fun s4 I4 => ⟨σ, H4, I4, q3⟩
end


theorem dk_empty {P : Program} {w : World} {H : Hp} (h : Heap) (hb : sysModules < h.objs.size) : ObjOk P w H (h.push { cls := .type "dict", data := .dict #[] }) h.objs.size (.dK []) :=
  ⟨Nat.zero_le _, beq_eq_false_iff_ne.mpr (Ne.symm (Nat.ne_of_lt hb)), [], .nil, Heap.DictOf.new h⟩
noncomputable def tDNewK : TE := fun _ H Q => ∀ p, H p = none → Q (.ref p) (upd H p (.dK []))
section
variable {X : Cx} {pos : Pos}
theorem pe_dnewK : PE X (.Dict [] [] pos) tDNewK := fun pins s σ H Q I h =>
  wpAny_Dict_empty ⟨.ref s.heap.objs.size, _, I.laid (a := s.heap.objs.size) (o := .dK []) (t' := s.toks) (fun _ _ q => Heap.get?_push_of_some _ q) (Nat.le_refl _) (dk_empty s.heap I.big), rfl, h _ (I.hok.fresh (Nat.le_refl _))⟩
end

section
variable {X : Cx} {pins : List (Addr × Obj)} {σ : St} {H : Hp} {s : Shared} {a : Addr} {y d : V} {u r : Value} {o : Option V} {A : Around} {E : Value → Shared → Prop}
end

section
variable {X : Cx} {o e f : Expr} {apos cpos : Pos} {td ty tx : TE}
end

section
variable {X : Cx} {pins : List (Addr × Obj)} {σ : St} {H : Hp} {s : Shared} {a : Addr} {kvs : List (Key × V)} {A : Around} {E : Value → Shared → Prop}
end


section
variable {X : Cx} {pins : List (Addr × Obj)} {σ : St} {H : Hp} {s : Shared} {a : Addr} {y : V} {u : Value} {A : Around} {E : Value → Shared → Prop}
end
end L2

namespace L2
open PySem PySem.Spec PyProof.Rows

section
variable {prog : Program} {w : World} {A : Around} {E : Value → Shared → Prop}
end

section
variable {X : Cx}
end
end L2

namespace L2
open PySem PySem.Spec PyProof.Rows

theorem boot_reversed5 : bootBuiltins "reversed" = some (.type "reversed") := by decide +kernel

section
variable {X : Cx} {pins : List (Addr × Obj)} {σ : St} {H : Hp} {s : Shared} {h' : Heap}
end
section
variable {X : Cx}
theorem pi_one {tg : Expr} {pins : List (Addr × Obj)} {σ : St} {H : Hp} {s : Shared} {R : It → Hp → Prop} {J : It} {tn : Nat → Heap → Prop} {tk : Nat} (I : Inv X pins σ H s) (o : Obj)
    (T : Turn X.prog X.w X.K tg J [s.heap.objs.size] s.heap.objs.size tn) (st : tn 0 (s.heap.push o)) (q : R J H) : PIE X pins σ tg R (.ref s.heap.objs.size) { s with heap := s.heap.push o, toks := tk } := by
  refine ⟨s.heap.objs.size, [s.heap.objs.size], tn, J, H, rfl, I.kept fun b ob e => Heap.get?_push_of_some _ e, T, st, fun b hb => ?_, q⟩
  have e : b = s.heap.objs.size := by simpa using hb
  subst e
  exact I.fpOk (Nat.le_refl _) (I.hok.fresh (Nat.le_refl _))
end

noncomputable def Itc (lo c : Int) (n : Nat) : It := ⟨fun i _ => i < n, fun i H x H' => H' = H ∧ x = .int (lo + (i : Nat) * c), fun i _ => n ≤ i⟩
theorem turn_rangeC {P : Program} {w : World} {K : PySem.W.Frag} {tg : Expr} (it : Addr) (lo c : Int) (n : Nat) : Turn P w K tg (Itc lo c n) [it] it (fun i h => IsRangeIter h it (lo + (i : Nat) * c) ((n : Int) - (i : Nat)) c) where
  mem := by simp
  obj := fun i h st b hb => by
    have e : b = it := by simpa using hb
    subst e
    exact ⟨_, st, fun v z => nomatch z⟩
  keep := fun i h h' st k => k it (by simp) _ st
  item := by
    intro X hP hw hK hc i pins s σ H E I hf st hg
    subst hP hw hK
    obtain ⟨f0, f1, f2, f3, f4, f5⟩ := hf it (by simp)
    have W := Walks.range (prog := X.prog) (w := X.w) (I.ok.hd hc) it lo c n
    refine W.item i s _ _ hg st fun v h' tk hv st' kk => ?_
    obtain ⟨t, rfl⟩ := hv
    have I1 : Inv X pins σ H { s with heap := h', toks := tk } := I.turned (fun b o hb e => kk b o (by simpa using hb) e) f0 f1 f3 f4 f5
    exact ⟨_, rfl, go_of (s := { s with heap := h', toks := tk }) (n := "range_iterator") st' rfl rfl (by decide) ⟨.int (lo + (i : Nat) * c), H, I1, ⟨t, rfl⟩, ⟨rfl, rfl⟩, st', fun b hb => (hf b hb).1⟩⟩
  done := by
    intro X hP hw hK hc i pins s σ H E I hf st hg
    subst hP hw hK
    obtain ⟨f0, f1, f2, f3, f4, f5⟩ := hf it (by simp)
    exact wpAny_pyNext_range_end (I.ok.hd hc) st (by have : n ≤ i := hg; omega) fun h' eb => ⟨rfl, I.turned (t' := s.toks) (fun b o hb e => eb b o hb e) f0 f1 f3 f4 f5⟩
  self := fun A i s Q E st h => wpAny_pyIter_rangeiter st h
noncomputable def RgC (i j c : Int) (n : Nat) : Prop := c ≠ 0 ∧ c.natAbs < 1073741824 ∧ Builtin.Range.small i j c = true ∧ Builtin.Range.rangeSize i j c = n
theorem RgC.neg {i j : Int} (ha : -(2 ^ 62) ≤ i) (ha' : i < 2 ^ 62) (hb : -(2 ^ 62) ≤ j) (hb' : j < 2 ^ 62) : RgC i j (-1) (i - j).toNat :=
  ⟨by decide, by decide, PySem.W.small_down ha ha' hb hb', PySem.W.rangeSize_downNat i j⟩
noncomputable def iRng3 (ta : TA) : TI := fun σ H R => ta σ H fun vs H1 => ∃ (i j c : Int) (n : Nat), vs = [.int i, .int j, .int c] ∧ RgC i j c n ∧ R (Itc i c n) H1
section
variable {X : Cx} {tg : Expr}
theorem pi_range3 {a b c : Expr} {ta : TA} {p pos : Pos} (hg : Gl X "range") (hm : X.mg "range" = none) (ha : PA X [a, b, c] ta)
    (hs : starEach [a, b, c] X.env = (false, eval a X.env) :: starEach [b, c] X.env := by rfl) (hpl : (backTo pos (starEach [b, c] X.env)).any (·.1) = false := by rfl) :
    PI X tg (.Call (.Name "range" p) [a, b, c] [] pos) (iRng3 ta) := by
  intro pins s σ H R I h
  refine Call_ (ld_blt I hg hm boot_range (PyProof.Rows.callWith_type1 (thn (ha pos pins s σ H _ I h) fun us s1 zq => ?_) hs hpl))
  obtain ⟨vs, H1, I1, r1, q1⟩ := zq
  obtain ⟨i, j, k, n, e, ⟨c0, c1, c2, c3⟩, q⟩ := q1
  subst e
  cases r1 with
  | cons r rr =>
    cases rr with
    | cons r' rr =>
      cases rr with
      | cons r'' rr =>
        cases rr
        obtain ⟨t, rfl⟩ := r
        obtain ⟨t', rfl⟩ := r'
        obtain ⟨t'', rfl⟩ := r''
        refine call_range_3 c0 ?_ (.inl (PyProof.noPylong_small c1))
        refine wpAny_pyIter_range (IsRange.new ..) c2 ?_
        have I2 : Inv X pins σ H1 { s1 with heap := s1.heap.push { cls := .type "range", data := .fields #[.int i t, .int j t', .int k t''] } } := I1.kept (t' := s1.toks) fun b o e => Heap.get?_push_of_some _ e
        refine pi_one (tk := s1.toks) I2 _ (turn_rangeC _ i k n) ?_ q
        have e1 : i + ((0 : Nat) : Int) * k = i := by simp
        have e2 : (n : Int) - ((0 : Nat) : Int) = Builtin.Range.rangeSize i j k := by rw [c3]; simp
        show IsRangeIter _ _ (i + ((0 : Nat) : Int) * k) ((n : Int) - ((0 : Nat) : Int)) k
        rw [e1, e2]
        exact Heap.get?_push_size _ rfl
end
theorem for_rangeC {lo c : Int} {n : Nat} {g : TG} {tb : TS} {D : Ends} {σ : St} {H : Hp} (Pv : Nat → St → Hp → Prop) (h0 : Pv 0 σ H)
    (hs : ∀ i σ H, i < n → Pv i σ H → g (.int (lo + (i : Nat) * c)) σ H fun σ2 H2 => tb { D with nx := Pv (i + 1), ct := Pv (i + 1), bk := D.nx } σ2 H2) (hd : ∀ σ H, Pv n σ H → D.nx σ H) :
    ∃ W : Nat → Nat → St → Hp → Prop, (∃ m, W 0 m σ H) ∧ ∀ i m σ H, W i m σ H →
      ((Itc lo c n).stop i H ∧ D.nx σ H) ∨ ((Itc lo c n).go i H ∧ ∃ N : St → Hp → Prop, (∀ σ' H', N σ' H' → ∃ m', m' < m ∧ W (i + 1) m' σ' H') ∧ ∀ x H', (Itc lo c n).yld i H x H' → g x σ H' fun σ2 H2 => tb { D with nx := N, ct := N, bk := D.nx } σ2 H2) := by
  refine ⟨fun i m σ H => m = n - i ∧ i ≤ n ∧ Pv i σ H, ⟨n, by simp, Nat.zero_le _, h0⟩, ?_⟩
  rintro i m σ H ⟨rfl, hi, p⟩
  by_cases hlt : i < n
  · refine .inr ⟨hlt, Pv (i + 1), fun σ' H' p' => ⟨n - (i + 1), by omega, rfl, hlt, p'⟩, fun x H' y => ?_⟩
    obtain ⟨e, y⟩ := y
    subst e y
    exact hs i σ _ hlt p
  · have e : i = n := by omega
    subst e
    exact .inl ⟨Nat.le_refl _, hd σ H p⟩

noncomputable def Itv (K : PySem.W.Frag) (a : Addr) (n : Nat) : It :=
  ⟨fun i H => i < n ∧ ∃ (xs : List V) (x : V), SqL K H a xs ∧ xs[n - 1 - i]? = some x, fun i H x H' => H' = H ∧ ∀ xs, SqL K H a xs → xs[n - 1 - i]? = some x, fun i _ => n ≤ i⟩
theorem turn_rev {P : Program} {w : World} {K : PySem.W.Frag} {tg : Expr} (a it : Addr) (n : Nat) : Turn P w K tg (Itv K a n) [it] it (fun i h => i ≤ n ∧ h.IsRevIter it a ((n : Int) - 1 - (i : Nat))) where
  mem := by simp
  obj := fun i h st b hb => by
    have e : b = it := by simpa using hb
    subst e
    obtain ⟨_, o, e, c, d⟩ := st
    exact ⟨o, e, fun v z => by rw [d] at z; cases z⟩
  keep := fun i h h' st k => ⟨st.1, st.2.at fun o e => k it (by simp) o e⟩
  item := by
    intro X hP hw hK hc i pins s σ H E I hf st hg
    subst hP hw hK
    obtain ⟨hin, xs, x, hq, hx⟩ := hg
    obtain ⟨its, rv, p, hz⟩ := I.list hq
    obtain ⟨u, hu, ru⟩ := rv.get hx
    obtain ⟨f0, f1, f2, f3, f4, f5⟩ := hf it (by simp)
    obtain ⟨_, hit⟩ := st
    have e1 : (n : Int) - 1 - ((i : Nat) : Int) = ((n - 1 - i : Nat) : Int) := by omega
    rw [e1] at hit
    refine wpAny_pyNext_rev_item hit p.isList (x := u) (by simpa using hu) fun h' st' sb => ?_
    have e2 : ((n - 1 - i : Nat) : Int) - 1 = (n : Int) - 1 - ((i + 1 : Nat) : Int) := by omega
    rw [e2] at st'
    have I1 : Inv X pins σ H { s with heap := h' } := I.turned (t' := s.toks) (fun b o hb e => (sb.2 b hb).trans e) f0 f1 f3 f4 f5
    obtain ⟨o, e, c, d⟩ := id st'
    exact ⟨u, rfl, go_of (s := { s with heap := h' }) e c d (by decide) ⟨x, H, I1, ru, ⟨rfl, fun ys hy => by rw [I.list_inj hy hq]; exact hx⟩, ⟨hin, st'⟩, fun b hb => (hf b hb).1⟩⟩
  done := by
    intro X hP hw hK hc i pins s σ H E I hf st hg
    subst hP hw hK
    obtain ⟨f0, f1, f2, f3, f4, f5⟩ := hf it (by simp)
    obtain ⟨hin, hit⟩ := st
    have hge : n ≤ i := hg
    have e1 : (n : Int) - 1 - ((i : Nat) : Int) = -1 := by omega
    rw [e1] at hit
    exact wpAny_pyNext_rev_end (I.ok.hd hc) hit fun h' eb => ⟨rfl, I.turned (t' := s.toks) (fun b o hb e => eb b o hb e) f0 f1 f3 f4 f5⟩
  self := fun A i s Q E st h => wpAny_pyIter_revIter st.2 h
noncomputable def iRev (K : PySem.W.Frag) (ta : TA) : TI := fun σ H R => ta σ H fun vs H1 => ∃ (a : Addr) (xs : List V), vs = [.ref a] ∧ SqL K H1 a xs ∧ R (Itv K a xs.length) H1
section
variable {X : Cx} {tg : Expr}
theorem pi_reversed {e : Expr} {ta : TA} {p pos : Pos} (hg : Gl X "reversed") (hm : X.mg "reversed" = none) (ha : PA X [e] ta) (hs : starEach [e] X.env = [(false, eval e X.env)] := by rfl) : PI X tg (.Call (.Name "reversed" p) [e] [] pos) (iRev X.K ta) := by
  intro pins s σ H R I h
  refine Call_ (ld_blt I hg hm boot_reversed5 (PyProof.Rows.callWith_type1 (thn (ha pos pins s σ H _ I h) fun us s1 zq => ?_) hs rfl))
  obtain ⟨vs, H1, I1, r1, q1⟩ := zq
  obtain ⟨a, xs, e, hq, q⟩ := q1
  subst e
  cases r1 with
  | cons r rr =>
    cases rr
    cases r
    obtain ⟨its, rv, p', hz⟩ := I1.list hq
    have hl := rv.length
    have e1 : ((its.toArray.size : Nat) : Int) - 1 = (xs.length : Int) - 1 - ((0 : Nat) : Int) := by simp only [List.size_toArray]; omega
    refine call_reversed_list p'.isList (wpAny_pyIter_revIter (l := a) (i := ((its.toArray.size : Nat) : Int) - 1) ⟨_, Heap.get?_push_size _ rfl, rfl, rfl⟩ ?_)
    refine pi_one (tk := s1.toks) I1 _ (turn_rev a _ xs.length) ⟨Nat.zero_le _, ?_⟩ q
    rw [← e1]
    exact ⟨_, Heap.get?_push_size _ rfl, rfl, rfl⟩
end

section
variable {prog : Program} {w : World} {A : Around} {E : Value → Shared → Prop} {s : Shared}
end

section
variable {X : Cx} {pins : List (Addr × Obj)} {σ : St} {H : Hp} {s : Shared} {d : Addr} {o : Obj}
end

section
variable {P : Program} {w : World} {K : PySem.W.Frag} {tg : Expr} {d : Addr} {o : Obj} {es : Array DictEntry} {ep : Nat}
end

section
variable {X : Cx} {tg e : Expr} {td : TE} {apos cpos : Pos}
end

end L2

section 
namespace Bits
open PySem PyProof.Rows

end Bits
end 

section 
namespace TL
open PySem PySem.Builtin PySem.Builtin.Str PySem.StrLaws

end TL
end 

namespace L2
open PySem PySem.Spec PyProof.Rows

section
variable {X : Cx} {pins : List (Addr × Obj)} {σ : St} {H : Hp} {s : Shared} {Q : VK}
end

section
variable {X : Cx}

end

section
variable {X : Cx} {o e : Expr} {to te : TE}
end
end L2

namespace L2
open PySem PySem.Spec PyProof.Rows

section
variable {X : Cx}
end

end L2

namespace Att
open PySem PySem.W PySem.Calls PyProof.Rows

section
variable {prog : Program} {w : World} {A : Around} {E : Value → Shared → Prop} {s : Shared} {K : Frag}

end
end Att

namespace L2
open PySem PySem.Spec PyProof.Rows

end L2

namespace L2
open PySem PySem.Spec PyProof.Rows

end L2

/- THE LAST THEOREM (shape; LID, My.* are yours):
   My.Adr: a structure of the addresses that your layer names (classes, functions); My.Txt K t: a structure (Prop) of the equations over K;
   My.txt_mk : {K} {implicit addresses ..} (e1 : nsIn K mainGlobals "law" = some (some (.ref f))) (e2 : K.lookup f = some ⟨oc, od, .func (fnOf "law" "law" params body scope dV kV doc pm an cdv ct), sl⟩) (e3 : codeIn K cdv "law" = true) .. : ∃ t, My.Txt K t

set_option maxRecDepth 100000 in
set_option maxHeartbeats 0 in
(the tactic k_is has no namespace: write k_is) -/

namespace L2
open PySem PySem.Spec PyProof.Rows

noncomputable def inClass (s : Stmt) (j : Nat) : Stmt := match s with
  | .ClassDef _ _ _ body _ _ _ _ _ _ _ => body.getD j (.Pass ⟨0, 0, 0, 0⟩)
  | _ => .Pass ⟨0, 0, 0, 0⟩
noncomputable def defArgs (s : Stmt) : Arguments := match s with
  | .FunctionDef _ a _ _ _ _ _ _ _ _ => a
  | _ => { posonlyargs := [], args := [], vararg := none, kwonlyargs := [], kw_defaults := [], kwarg := none, defaults := [] }
noncomputable def defBody (s : Stmt) : List Stmt := match s with
  | .FunctionDef _ _ b _ _ _ _ _ _ _ => b
  | _ => []
noncomputable def defScope (s : Stmt) : Scope := match s with
  | .FunctionDef _ _ _ _ _ _ sc _ _ _ => sc
  | _ => { kind := .function, names := [], isGenerator := false, isCoroutine := false }

noncomputable abbrev CX0 : CXT := fun _ _ _ _ _ _ => False
noncomputable abbrev E0 : XK := fun _ _ _ => False
theorem pass0 {X : Cx} : Passes CX0 X E0 := fun _ _ _ _ _ _ _ h => h.elim

structure Fun (K : PySem.W.Frag) (x qual : Str) (st : Stmt) (f : Addr) (fd : FuncData) : Prop where
  ex : ∃ (oc : Value) (od : Option Addr) (kV doc pm : Value) (an : Option Addr) (cdv ct : Value) (osl : Array (Option Value)),
    fd = PySem.W.fnOf x qual (defArgs st) (defBody st) (defScope st) .none kV doc pm an cdv ct ∧ K.lookup f = some ⟨oc, od, .func fd, osl⟩ ∧ PySem.W.codeIn K cdv qual = true
  kp : PySem.W.keepIn K (.ref f) = true
section
variable {P : Program} {w : World} {K : PySem.W.Frag} {mg : Str → Option Value} {base : Heap}
theorem Fun.ok {x qual : Str} {st : Stmt} {f : Addr} {fd : FuncData} {N ps : List Str} {k : Nat} {sp : Sp} (F : Fun K x qual st f fd) (S : FnScope N ps (defScope st)) (len : ∀ vs H Q E, sp vs H Q E → vs.length = ps.length)
    (hbody : ∀ (cdv : Value) (A : Around) (outer : List Env) (s : Shared) (H : Hp) (vs : List V) (Q : VK) (E : XK), Room k (A.deeper (envOfC qual (defScope st) s.heap.objs.size f cdv)) → sp vs H Q E →
      ∃ t, PSs (cxOf CX0 P w K mg base N qual (defScope st) f cdv A outer s H E).nox (defBody st) t ∧ t { nx := fun _ H' => Q .non H', rt := Q } (start N vs) H) : FnOk P w K mg base CX0 (k + 1) f fd ps sp := by
  obtain ⟨oc, od, kV, doc, pm, an, cdv, ct, osl, rfl, lk, hcd⟩ := F.ex
  refine fn_of lk hcd S len fun A outer s H vs Q E hr hsp => ?_
  obtain ⟨t, h, q⟩ := hbody cdv A outer s H vs Q E hr hsp
  exact ⟨t, h.nox, q⟩
theorem Fun.binds {x qual : Str} {st : Stmt} {f : Addr} {fd : FuncData} {ps : List Str} (F : Fun K x qual st f fd)
    (h : ∀ (kV doc pm : Value) (an : Option Addr) (cdv ct : Value) (us : List Value), us.length = ps.length → bindArgs (PySem.W.fnOf x qual (defArgs st) (defBody st) (defScope st) .none kV doc pm an cdv ct) ⟨us, []⟩ = pure (ps.zip us)) : Binds K fd ps [] := by
  obtain ⟨oc, od, kV, doc, pm, an, cdv, ct, osl, rfl, lk, hcd⟩ := F.ex
  exact .all (h kV doc pm an cdv ct)
theorem fun_mk {x qual : Str} {st : Stmt} {f : Addr} {oc : Value} {od an : Option Addr} {osl : Array (Option Value)} {kV doc pm cdv ct : Value} (l : K.lookup f = some ⟨oc, od, .func (PySem.W.fnOf x qual (defArgs st) (defBody st) (defScope st) .none kV doc pm an cdv ct), osl⟩)
    (c : PySem.W.codeIn K cdv qual = true) (k : PySem.W.keepIn K (.ref f) = true) : Fun K x qual st f (PySem.W.fnOf x qual (defArgs st) (defBody st) (defScope st) .none kV doc pm an cdv ct) := ⟨⟨oc, od, kV, doc, pm, an, cdv, ct, osl, rfl, l, c⟩, k⟩
end
theorem hu_of {A : Around} {k : Nat} (hr : Room k A) : A.units + 1 < cLine := Nat.lt_of_le_of_lt (Nat.add_le_add_left (by decide : 1 ≤ 64) _) hr.units
section
variable {X : Cx}
theorem pv (i : Nat) {x : Str} {pos : Pos} (hN : X.N[i]? = some x := by rfl) (hv : Vis X.env.scope x := by first | exact Or.inl rfl | exact Or.inr (Or.inl rfl) | exact Or.inr (Or.inr rfl)) (hd : (x == ("__debug__" : Str)) = false := by decide)
    (hcd : (x == ("__classdict__" : Str)) = false := by decide) : PE X (.Name x pos) (tVar i) := pe_var hN hv hd hcd
end

theorem iteF {A B : Prop} (h : B) : if false = true then A else B := by
  rw [if_neg Bool.false_ne_true]
  exact h
theorem iteT {A B : Prop} (h : A) : if true = true then A else B := by
  rw [if_pos rfl]
  exact h
theorem ite2 {c A B : Prop} [Decidable c] (h1 : c → A) (h2 : ¬ c → B) : if c then A else B := by
  by_cases h : c
  · rw [if_pos h]
    exact h1 h
  · rw [if_neg h]
    exact h2 h
noncomputable def Same (H H' : Hp) : Prop := ∀ b o, H b = some o → H' b = some o
theorem Same.refl (H : Hp) : Same H H := fun _ _ h => h
theorem Same.trans {H H1 H2 : Hp} (a : Same H H1) (b : Same H1 H2) : Same H H2 := fun c o h => b c o (a c o h)
theorem Same.free {H H' : Hp} (e : Same H H') {l : Addr} (h : H' l = Option.none) : H l = Option.none := by
  cases q : H l with
  | none => rfl
  | some o =>
    rw [e l o q] at h
    cases h
theorem Same.seq {K : PySem.W.Frag} {H H' : Hp} {a : Addr} {xs : List V} (e : Same H H') (h : SqL K H a xs) : SqL K H' a xs := by
  rcases h with (h | ⟨o, h⟩) | h
  · exact .inl (.inl (e _ _ h))
  · exact .inl (.inr ⟨o, e _ _ h⟩)
  · exact .inr h

section
variable {κ : Type} [DecidableEq κ]
end
theorem sum_set : ∀ {l : List Int} {j : Nat} {z y : Int}, l[j]? = some z → (l.set j y).sum = l.sum - z + y
  | [], j, z, y, h => by simp at h
  | a :: r, 0, z, y, h => by
    have e : a = z := Option.some.inj h
    subst e
    show (y :: r).sum = (a :: r).sum - a + y
    rw [List.sum_cons, List.sum_cons]
    omega
  | a :: r, j + 1, z, y, h => by
    have ih := sum_set (l := r) (j := j) (z := z) (y := y) h
    show (a :: r.set j y).sum = (a :: r).sum - z + y
    rw [List.sum_cons, List.sum_cons, ih]
    omega
theorem Same.made {H H1 : Hp} {x dx C : Addr} (nx : H x = Option.none) (nd : H dx = Option.none) (k : ∀ b o, (upd (upd H dx (.own x)) x (.ins C dx [])) b = some o → b ≠ x → H1 b = some o) : Same H H1 := fun b o e =>
  k b o (by rw [upd_ne (ne_of_none e nx), upd_ne (ne_of_none e nd)]; exact e) (ne_of_none e nx)
end L2

namespace L2
open PySem PySem.Spec PyProof.Rows
open PySem.W (WData Codec OpenSpec Well WellAll ReadsW ReadsAllW)
mutual
inductive Dw (K : PySem.W.Frag) (H : Hp) : V → WData → Prop
  | non : Dw K H .non .none
  | bl (b : Bool) : Dw K H (.bl b) (.bool b)
  | int (i : Int) : Dw K H (.int i) (.int i)
  | str (x : Str) : Dw K H (.str x) (.str x)
  | byt (b : Array UInt8) : Dw K H (.byt b) (.bytes b.toList)
  | lst {a : Addr} {xs : List V} {ds : List WData} : SqL K H a xs → DwAll K H xs ds → Dw K H (.ref a) (.list ds)
  | tup {a : Addr} {xs : List V} {ds : List WData} : SqT K H a xs → DwAll K H xs ds → Dw K H (.ref a) (.tuple ds)
inductive DwAll (K : PySem.W.Frag) (H : Hp) : List V → List WData → Prop
  | nil : DwAll K H [] []
  | cons {v : V} {vs : List V} {d : WData} {ds : List WData} : Dw K H v d → DwAll K H vs ds → DwAll K H (v :: vs) (d :: ds)
end
theorem dw_ints {K : PySem.W.Frag} {H : Hp} : ∀ ns : List Int, DwAll K H (ns.map V.int) (ns.map WData.int)
  | [] => .nil
  | n :: r => .cons (.int n) (dw_ints r)
theorem ints_dw {K : PySem.W.Frag} {H : Hp} : ∀ (ns : List Int) (xs : List V), DwAll K H xs (ns.map WData.int) → xs = ns.map V.int
  | [], xs, h => by
    cases h
    rfl
  | n :: r, xs, h => by
    cases h with
    | cons h1 h2 =>
      cases h1
      rw [ints_dw r _ h2] <;> rfl
section
variable {P : Program} {w : World} {K : PySem.W.Frag} {H : Hp} {h : Heap} {R : PySem.W.WRecords} {cl : Str → Option Addr}
theorem sqL_at {a : Addr} {xs : List V} (hok : HOk P w H h) (KX : K.In h) (q : SqL K H a xs) : ∃ (its : List Value) (o : Obj) (n : Nat), Vals xs its ∧ h.get? a = some o ∧ o.cls = .type "list" ∧ o.data = .seq its.toArray n := by
  rcases q with q | ⟨o, its, n, e, hc, _, hd, _, hv⟩
  · obtain ⟨_, its, n, hv, e⟩ := (show ObjOk P w H h a (.lst xs) from q.ok hok)
    exact ⟨its, _, n, hv, e, rfl, rfl⟩
  · exact ⟨its.toList, o, n, hv, KX _ _ e, hc, by simp [hd]⟩
theorem sqT_at {a : Addr} {xs : List V} (hok : HOk P w H h) (KX : K.In h) (q : SqT K H a xs) : ∃ (its : List Value) (o : Obj) (n : Nat), Vals xs its ∧ h.get? a = some o ∧ o.cls = .type "tuple" ∧ o.data = .seq its.toArray n := by
  rcases q with q | ⟨o, its, n, e, hc, hd, _, hv⟩
  · obtain ⟨_, its, hv, o, e, hc, n, hd⟩ := (show ObjOk P w H h a (.tup xs) from q.ok hok)
    exact ⟨its, o, n, hv, e, hc, hd⟩
  · exact ⟨its.toList, o, n, hv, KX _ _ e, hc, by simp [hd]⟩
mutual
theorem Dw.reads (hok : HOk P w H h) (KX : K.In h) : ∀ (d : WData) (v : V) (u : Value), Dw K H v d → RelV v u → ∃ as, ReadsW R cl h u d as
  | .none, _, _, x, r => by
    cases x
    cases r
    exact ⟨_, ReadsW.none⟩
  | .bool b, _, _, x, r => by
    cases x
    cases r
    exact ⟨_, ReadsW.bool b⟩
  | .int i, _, _, x, r => by
    cases x
    obtain ⟨t, rfl⟩ := r
    exact ⟨_, ReadsW.int i t⟩
  | .str s, _, _, x, r => by
    cases x
    obtain ⟨t, rfl⟩ := r
    exact ⟨_, ReadsW.str s t⟩
  | .bytes b, _, _, x, r => by
    cases x
    obtain ⟨t, rfl⟩ := r
    exact ⟨_, ReadsW.bytes _ t⟩
  | .list ds, _, _, x, r => by
    cases x with
    | lst hs ha =>
      cases r
      obtain ⟨its, o, n, rv, ho, hc, hd⟩ := sqL_at hok KX hs
      obtain ⟨as, hr⟩ := Dw.readsAll hok KX ds _ its ha rv
      exact ⟨_, ReadsW.list ho hc hd hr⟩
  | .tuple ds, _, _, x, r => by
    cases x with
    | tup hs ha =>
      cases r
      obtain ⟨its, o, n, rv, ho, hc, hd⟩ := sqT_at hok KX hs
      obtain ⟨as, hr⟩ := Dw.readsAll hok KX ds _ its ha rv
      exact ⟨_, ReadsW.tuple ho hc hd hr⟩
  | .float _, _, _, x, _ => by cases x
  | .dict _, _, _, x, _ => by cases x
  | .bytearray _, _, _, x, _ => by cases x
  | .set _, _, _, x, _ => by cases x
  | .frozenset _, _, _, x, _ => by cases x
  | .obj _ _, _, _, x, _ => by cases x
theorem Dw.readsAll (hok : HOk P w H h) (KX : K.In h) : ∀ (ds : List WData) (vs : List V) (us : List Value), DwAll K H vs ds → Vals vs us → ∃ as, ReadsAllW R cl h us ds as
  | [], _, _, x, r => by
    cases x
    cases r
    exact ⟨_, ReadsAllW.nil⟩
  | d :: ds, _, _, x, r => by
    cases x with
    | cons h1 h2 =>
      cases r with
      | cons r1 r2 =>
        obtain ⟨as, q1⟩ := Dw.reads hok KX d _ _ h1 r1
        obtain ⟨bs, q2⟩ := Dw.readsAll hok KX ds _ _ h2 r2
        exact ⟨_, ReadsAllW.cons q1 q2⟩
end
end
mutual
noncomputable def plW : WData → Bool
  | .none => true
  | .bool _ => true
  | .int _ => true
  | .str _ => true
  | .bytes _ => true
  | .list xs => plWs xs
  | .tuple xs => plWs xs
  | _ => false
noncomputable def plWs : List WData → Bool
  | [] => true
  | x :: r => plW x && plWs r
end
theorem plWs_map {α : Type} {f : α → WData} (h : ∀ a, plW (f a) = true) : ∀ l : List α, plWs (l.map f) = true
  | [] => rfl
  | x :: r => by
    show (plW (f x) && plWs (r.map f)) = true
    rw [h x, plWs_map h r] <;> rfl
theorem pl_enc : ∀ (c : Codec) (a : c.denote), plW (c.enc a) = true
  | .unit, _ => rfl
  | .bool, _ => rfl
  | .int _ _, _ => rfl
  | .nat _ _, _ => rfl
  | .u8, _ => rfl
  | .bytes _ _, _ => rfl
  | .text _ _ _ _, _ => rfl
  | .list _ _ c, a => plWs_map (fun x => pl_enc c x) a
  | .pair c d, a => by
    show (plW (c.enc a.1) && (plW (d.enc a.2) && true)) = true
    rw [pl_enc c a.1, pl_enc d a.2] <;> rfl
  | .triple c d e, a => by
    show (plW (c.enc a.1) && (plW (d.enc a.2.1) && (plW (e.enc a.2.2) && true))) = true
    rw [pl_enc c a.1, pl_enc d a.2.1, pl_enc e a.2.2] <;> rfl
  | .option c, none => rfl
  | .option c, some x => pl_enc c x
theorem pl_encAll : ∀ (cs : List Codec) (a : Codec.denoteAll cs), plWs (Codec.encAll cs a) = true
  | [], _ => rfl
  | c :: cs, a => by
    show (plW (c.enc a.1) && plWs (Codec.encAll cs a.2)) = true
    rw [pl_enc c a.1, pl_encAll cs a.2] <;> rfl
theorem weight_mem : ∀ {xs : List WData} {d : WData}, d ∈ xs → d.weight ≤ WData.weightAll xs
  | [], d, h => absurd h (by simp)
  | x :: r, d, h => by
    show d.weight ≤ x.weight + 1 + WData.weightAll r
    rcases List.mem_cons.mp h with e | m
    · rw [e]
      omega
    · have z := weight_mem m
      omega
noncomputable def toV : Value → V
  | .none => .non
  | .bool b => .bl b
  | .int i _ => .int i
  | .str x _ => .str x
  | .bytes b _ => .byt b
  | .ref a => .ref a
  | _ => .non
noncomputable def OkU (A : List Addr) : Value → Prop
  | .none => True
  | .bool _ => True
  | .int _ _ => True
  | .str _ _ => True
  | .bytes _ _ => True
  | .ref a => a ∈ A
  | _ => False
theorem OkU.mono {A B : List Addr} (h : ∀ a ∈ A, a ∈ B) : ∀ {u : Value}, OkU A u → OkU B u := fun {u} x => by
  cases u with
  | ref a => exact h a x
  | none => trivial
  | bool b => trivial
  | int i t => trivial
  | str s t => trivial
  | bytes b t => trivial
  | _ => exact False.elim x
theorem relV_toV {A : List Addr} {u : Value} (x : OkU A u) : RelV (toV u) u := by
  cases u with
  | ref a => rfl
  | none => rfl
  | bool b => rfl
  | int i t => exact ⟨t, rfl⟩
  | str s t => exact ⟨t, rfl⟩
  | bytes b t => exact ⟨t, rfl⟩
  | _ => exact False.elim x
theorem vals_toV {A : List Addr} : ∀ {vs : List Value}, (∀ u ∈ vs, OkU A u) → Vals (vs.map toV) vs
  | [], _ => .nil
  | u :: r, h => .cons (relV_toV (h u (List.mem_cons_self ..))) (vals_toV fun x hx => h x (List.mem_cons_of_mem _ hx))
noncomputable def ArgOb (h : Heap) (A : List Addr) (a : Addr) : Prop := ∃ vs : List Value, vs.length ≤ sizeLine ∧ (∀ u ∈ vs, OkU A u) ∧
  (h.get? a = some { cls := .type "list", data := .seq vs.toArray } ∨ h.get? a = some { cls := .type "tuple", data := .seq vs.toArray })
theorem ArgOb.mono {h : Heap} {A B : List Addr} {a : Addr} (k : ∀ a ∈ A, a ∈ B) (x : ArgOb h A a) : ArgOb h B a := by
  obtain ⟨vs, h1, h2, h3⟩ := x
  exact ⟨vs, h1, fun u hu => (h2 u hu).mono k, h3⟩
theorem wellAll_len {P : Params} {h : Heap} : ∀ {vs : List Value} {ds : List WData}, WellAll P h vs ds → vs.length = ds.length
  | _, _, .nil => rfl
  | _, _, .cons _ b => by
    show _ + 1 = _ + 1
    rw [wellAll_len b]
theorem well_list {P : Params} {h : Heap} {v : Value} {ds : List WData} (x : Well P h v (.list ds)) : ∃ (a : Addr) (vs : List Value), v = .ref a ∧ h.get? a = some { cls := .type "list", data := .seq vs.toArray } ∧ WellAll P h vs ds := by
  cases x with
  | list ho hall => exact ⟨_, _, rfl, ho, hall⟩
theorem well_tuple {P : Params} {h : Heap} {v : Value} {ds : List WData} (x : Well P h v (.tuple ds)) : ∃ (a : Addr) (vs : List Value), v = .ref a ∧ h.get? a = some { cls := .type "tuple", data := .seq vs.toArray } ∧ WellAll P h vs ds := by
  cases x with
  | tuple ho hall => exact ⟨_, _, rfl, ho, hall⟩
theorem well_cons {P : Params} {h : Heap} {us : List Value} {d : WData} {ds : List WData} (x : WellAll P h us (d :: ds)) : ∃ (v : Value) (vs : List Value), us = v :: vs ∧ Well P h v d ∧ WellAll P h vs ds := by
  cases x with
  | cons a b => exact ⟨_, _, rfl, a, b⟩
theorem line_of {n : Nat} (h : n ≤ 1048576) : n ≤ sizeLine := Nat.le_trans h (by decide)
section
variable {P : Params} {h : Heap}
mutual
theorem area_one : ∀ (d : WData) (v : Value), Well P h v d → plW d = true → d.weight ≤ 1048576 → ∃ A : List Addr, OkU A v ∧ ∀ a ∈ A, ArgOb h A a
  | .none, _, x, _, _ => by
    cases x
    exact ⟨[], trivial, fun a m => absurd m (by simp)⟩
  | .bool b, _, x, _, _ => by
    cases x
    exact ⟨[], trivial, fun a m => absurd m (by simp)⟩
  | .int i, _, x, _, _ => by
    cases x
    exact ⟨[], trivial, fun a m => absurd m (by simp)⟩
  | .str s, _, x, _, _ => by
    cases x
    exact ⟨[], trivial, fun a m => absurd m (by simp)⟩
  | .bytes b, _, x, _, _ => by
    cases x
    exact ⟨[], trivial, fun a m => absurd m (by simp)⟩
  | .list ds, _, x, p, z => by
    obtain ⟨a, vs, rfl, ho, hall⟩ := well_list x
    have z2 : WData.weightAll ds ≤ 1048576 := z
    obtain ⟨A, h1, h2⟩ := area_all ds _ hall p fun d hd => Nat.le_trans (weight_mem hd) z2
    have k : ∀ b ∈ A, b ∈ a :: A := fun b hb => List.mem_cons_of_mem _ hb
    refine ⟨a :: A, List.mem_cons_self .., fun b hb => ?_⟩
    rcases List.mem_cons.mp hb with e | m
    · rw [e]
      exact ⟨vs, line_of (by rw [wellAll_len hall]; exact Nat.le_trans (PySem.W.length_le_weightAllW ds) z2), fun u hu => (h1 u hu).mono k, .inl ho⟩
    · exact (h2 b m).mono k
  | .tuple ds, _, x, p, z => by
    obtain ⟨a, vs, rfl, ho, hall⟩ := well_tuple x
    have z2 : WData.weightAll ds ≤ 1048576 := z
    obtain ⟨A, h1, h2⟩ := area_all ds _ hall p fun d hd => Nat.le_trans (weight_mem hd) z2
    have k : ∀ b ∈ A, b ∈ a :: A := fun b hb => List.mem_cons_of_mem _ hb
    refine ⟨a :: A, List.mem_cons_self .., fun b hb => ?_⟩
    rcases List.mem_cons.mp hb with e | m
    · rw [e]
      exact ⟨vs, line_of (by rw [wellAll_len hall]; exact Nat.le_trans (PySem.W.length_le_weightAllW ds) z2), fun u hu => (h1 u hu).mono k, .inr ho⟩
    · exact (h2 b m).mono k
  | .float _, _, _, p, _ => Bool.noConfusion (show false = true from p)
  | .dict _, _, _, p, _ => Bool.noConfusion (show false = true from p)
  | .bytearray _, _, _, p, _ => Bool.noConfusion (show false = true from p)
  | .set _, _, _, p, _ => Bool.noConfusion (show false = true from p)
  | .frozenset _, _, _, p, _ => Bool.noConfusion (show false = true from p)
  | .obj _ _, _, _, p, _ => Bool.noConfusion (show false = true from p)
theorem area_all : ∀ (ds : List WData) (vs : List Value), WellAll P h vs ds → plWs ds = true → (∀ d ∈ ds, d.weight ≤ 1048576) → ∃ A : List Addr, (∀ u ∈ vs, OkU A u) ∧ ∀ a ∈ A, ArgOb h A a
  | [], _, x, _, _ => by
    cases x
    exact ⟨[], fun u m => absurd m (by simp), fun a m => absurd m (by simp)⟩
  | d :: ds, _, x, p, z => by
    obtain ⟨v, vs, rfl, x1, x2⟩ := well_cons x
    have q : plW d = true ∧ plWs ds = true := Bool.and_eq_true_iff.mp p
    obtain ⟨A, a1, a2⟩ := area_one d v x1 q.1 (z d (List.mem_cons_self ..))
    obtain ⟨B, b1, b2⟩ := area_all ds vs x2 q.2 fun e he => z e (List.mem_cons_of_mem _ he)
    have kA : ∀ b ∈ A, b ∈ A ++ B := fun b hb => List.mem_append.mpr (.inl hb)
    have kB : ∀ b ∈ B, b ∈ A ++ B := fun b hb => List.mem_append.mpr (.inr hb)
    refine ⟨A ++ B, fun u hu => ?_, fun b hb => ?_⟩
    · rcases List.mem_cons.mp hu with e | m
      · rw [e]
        exact a1.mono kA
      · exact (b1 u m).mono kB
    · rcases List.mem_append.mp hb with m | m
      · exact (a2 b m).mono kA
      · exact (b2 b m).mono kB
end
end
noncomputable def hoOf (o : Obj) : Option HO := match o.data with
  | .seq vs _ => if (o.cls == Value.type "list") = true then some (.frz o (.lst (vs.toList.map toV))) else some (.frz o (.tup (vs.toList.map toV)))
  | _ => none
noncomputable def argH (K : PySem.W.Frag) (h : Heap) (A : List Addr) : Hp := fun b => if b ∈ A then (if (K.lookup b).isNone = true then (h.get? b).bind hoOf else none) else none
noncomputable def OnlyF (H : Hp) : Prop := ∀ b, H b = none ∨ ∃ o u, H b = some (.frz o u)
theorem hoOf_lst (vs : List Value) : hoOf { cls := .type "list", data := .seq vs.toArray } = some (.frz { cls := .type "list", data := .seq vs.toArray } (.lst (vs.map toV))) := by
  show (if (Value.type "list" == Value.type "list") = true then some (HO.frz { cls := .type "list", data := .seq vs.toArray } (.lst (vs.toArray.toList.map toV))) else some (HO.frz { cls := .type "list", data := .seq vs.toArray } (.tup (vs.toArray.toList.map toV)))) = _
  rw [if_pos (beq_self_eq_true _)]
theorem hoOf_tup (vs : List Value) : hoOf { cls := .type "tuple", data := .seq vs.toArray } = some (.frz { cls := .type "tuple", data := .seq vs.toArray } (.tup (vs.map toV))) := by
  show (if (Value.type "tuple" == Value.type "list") = true then some (HO.frz { cls := .type "tuple", data := .seq vs.toArray } (.lst (vs.toArray.toList.map toV))) else some (HO.frz { cls := .type "tuple", data := .seq vs.toArray } (.tup (vs.toArray.toList.map toV)))) = _
  rw [if_neg (by decide)]
section
variable {P : Program} {w : World} {K : PySem.W.Frag} {h : Heap} {A : List Addr}
theorem argH_at {b : Addr} {o : Obj} (hb : b ∈ A) (hk : K.lookup b = none) (e : h.get? b = some o) : argH K h A b = hoOf o := by
  unfold argH
  rw [if_pos hb, hk, if_pos (show (none : Option Obj).isNone = true from rfl), e] <;> rfl
theorem of_argH {b : Addr} {u : HO} (q : argH K h A b = some u) : b ∈ A ∧ K.lookup b = none := by
  unfold argH at q
  by_cases hb : b ∈ A
  · rw [if_pos hb] at q
    cases hk : K.lookup b with
    | none => exact ⟨hb, rfl⟩
    | some o =>
      rw [hk, if_neg (by simp)] at q
      cases q
  · rw [if_neg hb] at q
    cases q
theorem argH_is (ar : ∀ a ∈ A, ArgOb h A a) {b : Addr} {u : HO} (q : argH K h A b = some u) : K.lookup b = none ∧ ∃ vs : List Value, vs.length ≤ sizeLine ∧ (∀ u ∈ vs, OkU A u) ∧
    ((h.get? b = some { cls := .type "list", data := .seq vs.toArray } ∧ u = .frz { cls := .type "list", data := .seq vs.toArray } (.lst (vs.map toV))) ∨
     (h.get? b = some { cls := .type "tuple", data := .seq vs.toArray } ∧ u = .frz { cls := .type "tuple", data := .seq vs.toArray } (.tup (vs.map toV)))) := by
  obtain ⟨hb, hk⟩ := of_argH q
  obtain ⟨vs, h1, h2, h3⟩ := ar b hb
  refine ⟨hk, vs, h1, h2, ?_⟩
  rcases h3 with e | e
  · rw [argH_at hb hk e, hoOf_lst] at q
    exact .inl ⟨e, (Option.some.inj q).symm⟩
  · rw [argH_at hb hk e, hoOf_tup] at q
    exact .inr ⟨e, (Option.some.inj q).symm⟩
theorem argH_only (ar : ∀ a ∈ A, ArgOb h A a) : OnlyF (argH K h A) := fun b => by
  cases q : argH K h A b with
  | none => exact .inl rfl
  | some u =>
    obtain ⟨_, vs, _, _, ⟨_, e⟩ | ⟨_, e⟩⟩ := argH_is ar q
    · exact .inr ⟨_, _, by rw [e]⟩
    · exact .inr ⟨_, _, by rw [e]⟩
theorem argH_ok (ar : ∀ a ∈ A, ArgOb h A a) : HOk P w (argH K h A) h := fun b u q => by
  obtain ⟨_, vs, h1, h2, ⟨e, rfl⟩ | ⟨e, rfl⟩⟩ := argH_is ar q
  · exact ⟨e, by rw [List.length_map]; exact h1, vs, _, vals_toV h2, e⟩
  · exact ⟨e, by rw [List.length_map]; exact h1, vs, vals_toV h2, _, e, rfl, _, rfl⟩
theorem seq_inj {c c' : Value} {vs us : List Value} (e : (some { cls := c, data := .seq vs.toArray } : Option Obj) = some { cls := c', data := .seq us.toArray }) : c = c' ∧ vs = us := by
  have e1 := Option.some.inj e
  have e2 : c = c' := congrArg Obj.cls e1
  have e3 : Data.seq vs.toArray = Data.seq us.toArray := congrArg Obj.data e1
  injection e3 with e4
  refine ⟨e2, ?_⟩
  have e5 := congrArg Array.toList e4
  simpa using e5
theorem argL (KX : K.In h) (ar : ∀ a ∈ A, ArgOb h A a) {a : Addr} {vs : List Value} (ha : a ∈ A) (e : h.get? a = some { cls := .type "list", data := .seq vs.toArray }) : (∀ u ∈ vs, OkU A u) ∧ SqL K (argH K h A) a (vs.map toV) := by
  obtain ⟨us, h1, h2, h3⟩ := ar a ha
  have hu : us = vs := by
    rcases h3 with q | q
    · rw [e] at q
      exact (seq_inj q).2.symm
    · rw [e] at q
      exact absurd (Value.type.inj (seq_inj q).1) (by decide)
  subst hu
  refine ⟨h2, ?_⟩
  cases hk : K.lookup a with
  | none => exact .inl (.inr ⟨_, by rw [argH_at ha hk e, hoOf_lst]⟩)
  | some o =>
    have e2 := KX a o hk
    rw [e] at e2
    obtain rfl := Option.some.inj e2
    exact .inr ⟨_, us.toArray, _, hk, rfl, rfl, rfl, by rw [List.size_toArray]; exact h1, by simpa using vals_toV h2⟩
theorem argT (KX : K.In h) (ar : ∀ a ∈ A, ArgOb h A a) {a : Addr} {vs : List Value} (ha : a ∈ A) (e : h.get? a = some { cls := .type "tuple", data := .seq vs.toArray }) : (∀ u ∈ vs, OkU A u) ∧ SqT K (argH K h A) a (vs.map toV) := by
  obtain ⟨us, h1, h2, h3⟩ := ar a ha
  have hu : us = vs := by
    rcases h3 with q | q
    · rw [e] at q
      exact absurd (Value.type.inj (seq_inj q).1) (by decide)
    · rw [e] at q
      exact (seq_inj q).2.symm
  subst hu
  refine ⟨h2, ?_⟩
  cases hk : K.lookup a with
  | none => exact .inl (.inr ⟨_, by rw [argH_at ha hk e, hoOf_tup]⟩)
  | some o =>
    have e2 := KX a o hk
    rw [e] at e2
    obtain rfl := Option.some.inj e2
    exact .inr ⟨_, us.toArray, _, hk, rfl, rfl, by rw [List.size_toArray]; exact h1, by simpa using vals_toV h2⟩
mutual
theorem dw_one {Pm : Params} (KX : K.In h) (ar : ∀ a ∈ A, ArgOb h A a) : ∀ (d : WData) (v : Value), Well Pm h v d → plW d = true → OkU A v → Dw K (argH K h A) (toV v) d
  | .none, _, x, _, _ => by
    cases x
    exact .non
  | .bool b, _, x, _, _ => by
    cases x
    exact .bl b
  | .int i, _, x, _, _ => by
    cases x
    exact .int i
  | .str s, _, x, _, _ => by
    cases x
    exact .str s
  | .bytes b, _, x, _, _ => by
    cases x
    have z := Dw.byt (K := K) (H := argH K h A) b.toArray
    exact z
  | .list ds, _, x, p, hu => by
    obtain ⟨a, vs, rfl, ho, hall⟩ := well_list x
    obtain ⟨h2, hs⟩ := argL KX ar hu ho
    exact .lst hs (dw_all KX ar ds _ hall p h2)
  | .tuple ds, _, x, p, hu => by
    obtain ⟨a, vs, rfl, ho, hall⟩ := well_tuple x
    obtain ⟨h2, hs⟩ := argT KX ar hu ho
    exact .tup hs (dw_all KX ar ds _ hall p h2)
  | .float _, _, _, p, _ => Bool.noConfusion (show false = true from p)
  | .dict _, _, _, p, _ => Bool.noConfusion (show false = true from p)
  | .bytearray _, _, _, p, _ => Bool.noConfusion (show false = true from p)
  | .set _, _, _, p, _ => Bool.noConfusion (show false = true from p)
  | .frozenset _, _, _, p, _ => Bool.noConfusion (show false = true from p)
  | .obj _ _, _, _, p, _ => Bool.noConfusion (show false = true from p)
theorem dw_all {Pm : Params} (KX : K.In h) (ar : ∀ a ∈ A, ArgOb h A a) : ∀ (ds : List WData) (vs : List Value), WellAll Pm h vs ds → plWs ds = true → (∀ u ∈ vs, OkU A u) → DwAll K (argH K h A) (vs.map toV) ds
  | [], _, x, _, _ => by
    cases x
    exact .nil
  | d :: ds, _, x, p, hu => by
    obtain ⟨v, vs, rfl, x1, x2⟩ := well_cons x
    have q : plW d = true ∧ plWs ds = true := Bool.and_eq_true_iff.mp p
    exact .cons (dw_one KX ar d v x1 q.1 (hu _ (List.mem_cons_self ..))) (dw_all KX ar ds vs x2 q.2 fun u m => hu u (List.mem_cons_of_mem _ m))
end
end
theorem spec_call {P : Program} {w : World} {K : PySem.W.Frag} {mg mb : Str → Option Value} {CX : CXT} {k : Nat} {fa : Addr} {fd : FuncData} {ps : List Str} {sp : Sp} {s₁ : Shared} {vals : List Value} {ds : List WData} {R : PySem.W.WRecords} {cl : Str → Option Addr} {d0 : WData}
    (KX : K.In s₁.heap) (hns : s₁.heap.Ns mainGlobals mg) (hb : s₁.heap.Ns builtinsNs mb) (hbb : ∀ x : Str, x ≠ "__name__" → mb x = bootBuiltins x) (hlim : s₁.heap.NoLimit) (hg : s₁.gens = #[])
    (hwl : WellAll w.params s₁.heap vals ds) (hpl : plWs ds = true) (hwt : ∀ d ∈ ds, d.weight ≤ 1048576) (hr : Room k callerA)
    (F : ∀ base : Heap, K.In base → base.Ns mainGlobals mg → FnOk P w K mg base CX k fa fd ps sp) (hbind : ∀ (s : Shared) (us : List Value), us.length = ps.length → BindsTo s fd ⟨us, []⟩ (ps.zip us)) (hlen : ds.length = ps.length)
    (hsp : ∀ (H : Hp) (xs : List V), OnlyF H → DwAll K H xs ds → sp xs H (fun v H' => Dw K H' v d0) fun _ _ _ => False)
    (hCX : ∀ H e s', CX [] H s₁ (fun _ _ _ => False) e s' → False) :
    codeAny (model P w) callerA (.call (.ref fa) ⟨vals, []⟩) (fun r s' => ∃ u as, r = .ok (.ret u) ∧ ReadsW R cl s'.heap u d0 as ∧ OldK s₁.heap s'.heap ∧ s'.os = s₁.os ∧ AllBare s'.gens) s₁ := by
  obtain ⟨A, ho, ar⟩ := area_all ds vals hwl hpl hwt
  have hO : OnlyF (argH K s₁.heap A) := argH_only ar
  have hok : HOk P w (argH K s₁.heap A) s₁.heap := argH_ok ar
  have hS := dw_all KX ar ds vals hwl hpl ho
  have hV := vals_toV ho
  have hK : ∀ b u, argH K s₁.heap A b = some u → K.lookup b = none := fun b u q => (argH_is ar q).1
  have noA : ∀ {b : Addr} {o : Obj} {es : Array DictEntry} {ep : Nat}, s₁.heap.get? b = some o → o.data = .dict es ep → argH K s₁.heap A b = none := fun {b o es ep} e d => by
    cases q : argH K s₁.heap A b with
    | none => rfl
    | some u =>
      obtain ⟨_, vs, _, _, ⟨e2, _⟩ | ⟨e2, _⟩⟩ := argH_is ar q
      · rw [e2] at e
        cases e
        have d' : Data.seq vs.toArray _ = Data.dict es ep := d
        cases d'
      · rw [e2] at e
        cases e
        have d' : Data.seq vs.toArray _ = Data.dict es ep := d
        cases d'
  generalize argH K s₁.heap A = H at hO hok hS hK noA
  have base_of : ∀ {b : Addr} {o : Obj}, s₁.heap.get? b = some o → H b = none → (hidT s₁.heap H).get? b = some o := fun e n => hidT_get e n
  have nsK : ∀ {b : Addr} {m : Str → Option Value}, s₁.heap.Ns b m → (hidT s₁.heap H).Ns b m := fun {b m} ⟨o, es, ep, e, d, r⟩ => ⟨o, es, ep, base_of e (noA e d), d, r⟩
  have nK : ∀ b o, K.lookup b = some o → H b = none := fun b o e => by
    cases q : H b with
    | none => rfl
    | some u =>
      rw [hK b u q] at e
      cases e
  have hKb : K.In (hidT s₁.heap H) := fun b o e => base_of (KX b o e) (nK b o e)
  have hM : Mod K mg (hidT s₁.heap H) := ⟨hKb, nsK hns, ⟨mb, nsK hb, hbb⟩, let ⟨mc, h1, h2⟩ := hlim; ⟨mc, nsK h1, h2⟩⟩
  have e0 : Env0 P w K mg (hidT s₁.heap H) callerA [] s₁ H := ⟨rfl, hM, fun b o e => of_hidT e, Nat.le_of_eq (hidT_size _ _), trivial, fun b hb => absurd (show b ∈ ([] : List Addr) from hb) (by simp), hok, .of_eq hg⟩
  have hl : vals.length = ps.length := by rw [wellAll_len hwl]; exact hlen
  refine codeAny_mono ((F _ hKb (nsK hns)).run callerA [] s₁ H ⟨vals, []⟩ vals (vals.map toV) _ _ hr e0 (hbind s₁ vals hl) hV (hsp H _ hO hS)) fun r s' x => ?_
  cases r with
  | error e => exact (hCX H e s' x).elim
  | ok fl =>
    cases fl with
    | next => exact False.elim x
    | brk => exact False.elim x
    | cont => exact False.elim x
    | ret u =>
      obtain ⟨v, H', os, bare, un, hok', r', q⟩ := x
      have kept : ∀ b o, s₁.heap.get? b = some o → s'.heap.get? b = some o := fun b o e => by
        cases q2 : H b with
        | none => exact un.keep b o e q2 (by intro z; exact absurd (show b ∈ ([] : List Addr) from z) (by simp)) (by simp)
        | some u2 =>
          rcases hO b with z | ⟨ob, u3, z⟩
          · rw [q2] at z
            cases z
          · have z2 := un.frzs b ob _ z
            obtain ⟨e1, _⟩ := hok b _ z
            obtain ⟨e2, _⟩ := hok' b _ z2
            rw [e] at e1
            cases e1
            exact e2
      have KX' : K.In s'.heap := fun b o e => kept b o (KX b o e)
      obtain ⟨as, hrd⟩ := Dw.reads (R := R) (cl := cl) hok' KX' d0 v u q r'
      exact ⟨u, as, rfl, hrd, OldK.of_keep kept, os, bare⟩
theorem layable_weight {ds : List WData} (h : WData.layableAll ds = true) : ∀ d ∈ ds, d.weight ≤ 1048576 := fun d hd =>
  (PySem.W.layableW_iff.mp (List.all_eq_true.mp h d hd)).2.2
theorem encAll_len : ∀ (cs : List Codec) (a : Codec.denoteAll cs), (Codec.encAll cs a).length = cs.length
  | [], _ => rfl
  | c :: cs, a => by
    show (Codec.encAll cs a.2).length + 1 = cs.length + 1
    rw [encAll_len cs a.2]
theorem walk_spec {r : OpenSpec} {k : Nat} {q : Program} {loose : List Str} {XP : (Str → Option Value) → Heap → Prop} {YP : World → Heap → Prop} {d : DefRec} {K : Params → PySem.W.Frag} {CX : World → CXT} {ps : List Str} {sp : World → Sp}
    (hwell : r.wellSaid = true) (hdf : d.params.defaults = []) (hlen : r.args.length = ps.length) (hr : Room k callerA)
    (hY : ∀ (w : World) (h : Heap), YP w h → (K w.params).In h)
    (F : ∀ (w : World) (mg : Str → Option Value) (fa : Addr) (h : Heap), YP w h → (K w.params).In h → h.Ns mainGlobals mg → mg d.name = some (.ref fa) →
      ∃ fd : FuncData, (∀ (s : Shared) (us : List Value), us.length = ps.length → BindsTo s fd ⟨us, []⟩ (ps.zip us)) ∧
        ∀ base : Heap, (K w.params).In base → base.Ns mainGlobals mg → FnOk r.prog w (K w.params) mg base (CX w) k fa fd ps (sp w))
    (hsp : ∀ (w : World) (H : Hp) (xs : List V) (a : Codec.denoteAll r.args), OnlyF H → Codec.withinAll r.args a = true → Codec.app r.args r.asked a = true → DwAll (K w.params) H xs (Codec.encAll r.args a) →
      sp w xs H (fun v H' => Dw (K w.params) H' v (r.ret.enc (Codec.app r.args r.f a))) fun _ _ _ => False)
    (hCX : ∀ (w : World) (H : Hp) (s : Shared) (e : Value) (s' : Shared), CX w [] H s (fun _ _ _ => False) e s' → False) :
    PySem.W.WalkOS q loose XP YP r d [] (fun f vs => PySem.call f vs) := by
  intro w s_0 s₁ mg mb G Y fa o pm cd doc dV kV ho hd hcd hD hmg hg args vals as hpre hlay hrd hwl hlo
  obtain ⟨a, e1, e2⟩ := PySem.W.os_pre_some hpre
  obtain ⟨e3, hwi⟩ := Codec.encAll_of_decAll r.args args a e1
  subst e3
  have KX := hY w _ Y
  obtain ⟨fd, hb, hF⟩ := F w mg fa _ Y KX G.T.g hmg
  refine PySem.W.enter_call (codeAny_mono (spec_call (R := []) (cl := classAt s_0.heap) (d0 := r.ret.enc (Codec.app r.args r.f a)) KX G.T.g G.T.b G.T.builtins G.T.nolimit hg hwl (pl_encAll _ _) (layable_weight hlay) hr hF hb (by rw [encAll_len]; exact hlen)
    (fun H xs hO hS => hsp w H xs a hO hwi e2 hS) fun H e s' => hCX w H s₁ e s') fun r' s' hq => ?_)
  obtain ⟨u, as', rfl, h1, h2, h3, h4⟩ := hq
  exact ⟨.inl ⟨u, _, as', rfl, fun _ => rfl, h1, (OpenSpec.post_iff hwell hwi _ _).mpr rfl, fun z => Bool.noConfusion (show false = true from z)⟩, h2, h3, h4⟩
theorem walk_specK {r : OpenSpec} {k : Nat} {q : Program} {loose : List Str} {XP : (Str → Option Value) → Heap → Prop} {YP : World → Heap → Prop} {d : DefRec} {K : Params → PySem.W.Frag} {CX : CXT} {ps : List Str} {sp : PySem.W.Frag → Sp}
    (hwell : r.wellSaid = true) (hdf : d.params.defaults = []) (hlen : r.args.length = ps.length) (hr : Room k callerA)
    (hY : ∀ (w : World) (h : Heap), YP w h → (K w.params).In h)
    (F : ∀ (w : World) (mg : Str → Option Value) (fa : Addr) (h : Heap), YP w h → (K w.params).In h → h.Ns mainGlobals mg → mg d.name = some (.ref fa) →
      ∃ fd : FuncData, (∀ (s : Shared) (us : List Value), us.length = ps.length → BindsTo s fd ⟨us, []⟩ (ps.zip us)) ∧
        ∀ base : Heap, (K w.params).In base → base.Ns mainGlobals mg → FnOk r.prog w (K w.params) mg base CX k fa fd ps (sp (K w.params)))
    (hsp : ∀ (K : PySem.W.Frag) (H : Hp) (xs : List V) (a : Codec.denoteAll r.args), OnlyF H → Codec.withinAll r.args a = true → Codec.app r.args r.asked a = true → DwAll K H xs (Codec.encAll r.args a) →
      sp K xs H (fun v H' => Dw K H' v (r.ret.enc (Codec.app r.args r.f a))) fun _ _ _ => False)
    (hCX : ∀ (H : Hp) (s : Shared) (e : Value) (s' : Shared), CX [] H s (fun _ _ _ => False) e s' → False) :
    PySem.W.WalkOS q loose XP YP r d [] (fun f vs => PySem.call f vs) :=
  walk_spec (K := K) (CX := fun _ => CX) (sp := fun w => sp (K w.params)) hwell hdf hlen hr hY F (fun w H xs a h1 h2 h3 h4 => hsp (K w.params) H xs a h1 h2 h3 h4) fun _ H s e s' => hCX H s e s'
end L2

end
section
set_option Elab.async false
set_option linter.all false
set_option maxRecDepth 100000
namespace L2
open PySem PySem.Spec PyProof.Rows

noncomputable def rangeI (i j : Int) : List Int := (List.range (j - i).toNat).map fun (k : Nat) => i + (k : Int)
section
variable {X : Cx}
theorem call_range2 : CallR X (.type "range") (fun vs H Q => ∃ i j : Int, vs = [.int i, .int j] ∧ ∀ p, H p = none → Q (.ref p) (upd H p (.rng i j))) := by
  intro pins s σ H vs us Q I r h
  obtain ⟨i, j, rfl, q⟩ := h
  obtain ⟨t, u, rfl⟩ := r.int2
  refine call_range_2 ?_
  refine ⟨.ref s.heap.objs.size, upd H s.heap.objs.size (.rng i j), I.laid (fun b o e => Heap.get?_push_of_some _ e) (Nat.le_refl _) ⟨t, u, s.toks, Heap.get?_push_size _ rfl⟩, rfl, q _ I.fresh⟩
theorem items_vals {a : Int} : ∀ {n : Nat} {l : List Value}, l.length = n → (∀ j v, l[j]? = some v → ∃ t, v = Value.int (a + (j : Nat) * 1) t) → Vals (((List.range n).map fun (k : Nat) => a + (k : Int)).map V.int) l := by
  intro n
  induction n generalizing a with
  | zero =>
    intro l hl _
    have : l = [] := List.length_eq_zero_iff.mp hl
    subst this
    exact .nil
  | succ n ih =>
    intro l hl h
    cases l with
    | nil => simp at hl
    | cons v l =>
      obtain ⟨t, e⟩ := h 0 v rfl
      have e0 : a + ((0 : Nat) : Int) * 1 = a := by simp
      rw [e0] at e
      have ih' := ih (a := a + 1) (l := l) (by simpa using hl) fun j v hv => by
        obtain ⟨t, e⟩ := h (j + 1) v (by simpa using hv)
        refine ⟨t, ?_⟩
        rw [e]
        congr 1
        omega
      rw [List.range_succ_eq_map, List.map_cons, List.map_cons]
      refine .cons (show RelV (V.int (a + ((0 : Nat) : Int))) v from ⟨t, by rw [e]; congr 1; simp⟩) ?_
      have e2 : ((fun k : Nat => a + (k : Int)) ∘ Nat.succ) = fun k : Nat => a + 1 + (k : Int) := by
        funext k
        show a + ((k + 1 : Nat) : Int) = _
        omega
      have e3 : List.map (fun (k : Nat) => a + (k : Int)) (List.map Nat.succ (List.range n)) = List.map (fun (k : Nat) => a + 1 + (k : Int)) (List.range n) := by rw [List.map_map, e2]
      rw [e3]
      exact ih'
theorem call_listR (hc : X.calm = true) : CallR X (.type "list") (fun vs H Q => ∃ (p : Addr) (i j : Int), vs = [.ref p] ∧ H p = some (.rng i j) ∧ (-(2 ^ 62) ≤ i ∧ i < 2 ^ 62 ∧ -(2 ^ 62) ≤ j ∧ j < 2 ^ 62) ∧ (j - i).toNat ≤ 2 ^ 24 ∧
    ∀ l, H l = none → Q (.ref l) (upd H l (.lst ((rangeI i j).map V.int)))) := by
  intro pins s σ H vs us Q I r h
  obtain ⟨p, i, j, rfl, hp, ⟨b1, b2, b3, b4⟩, hz, q⟩ := h
  rw [Vals.ref1 r]
  obtain ⟨t, u, v, ho⟩ := I.hok p _ hp
  refine PySem.call_list_range (n := (j - i).toNat) (I.ok.hd hc) ho (small_one b1 b2 b3 b4) (by rw [rangeSize_one]; split <;> omega) hz fun h' tk acc c hk ha hi => ?_
  have hlen : ((rangeI i j).map V.int).length ≤ sizeLine := by
    unfold rangeI
    rw [List.length_map, List.length_map, List.length_range, sizeLine_eq]
    exact hz
  refine ⟨.ref s.heap.objs.size, upd H s.heap.objs.size (.lst ((rangeI i j).map V.int)), I.laid hk (Nat.le_refl _) ⟨hlen, acc.toList, c, ?_, by simpa using ha⟩, rfl, q _ I.fresh⟩
  exact items_vals (by rw [Array.length_toList]; exact hi.1) fun j v hv => hi.2 j v (by simpa using hv)
end

theorem lc_same {K : PySem.W.Frag} {a : Addr} {xs : List V} {g : TG} {tt : TT} {te : TE} {vs : List Nat} {σ : St} {H1 : Hp} {D : Addr} {Qd : Hp → Prop} (p : V → Bool) (f : V → V) (hx : SqL K H1 a xs) (hz : xs.length ≤ sizeLine) (hD : H1 D = none)
    (hs : ∀ (i : Nat) (x : V) (H : Hp) (acc : List V) (Nx : Hp → Prop), xs[i]? = some x → Same H1 H → H D = some (.lst acc) → (∀ H4, Same H H4 → if p x = true then (∃ acc, H4 D = some (.lst acc) ∧ acc.length < sizeLine ∧ Nx (upd H4 D (.lst (acc ++ [f x])))) else Nx H4) →
      g x (wipe σ vs) H fun σ2 H2 => wipe σ2 vs = wipe σ vs ∧ tt σ2 H2 fun b H3 => if b = true then te σ2 H3 fun y H4 => ∃ acc, H4 D = some (.lst acc) ∧ acc.length < sizeLine ∧ Nx (upd H4 D (.lst (acc ++ [y]))) else Nx H3)
    (hd : ∀ H, Same H1 H → H D = some (.lst ((xs.filter p).map f)) → Qd H) :
    ∃ W : Nat → Nat → Hp → Prop, (∃ m, W 0 m (upd H1 D (.lst []))) ∧ ∀ i m H, W i m H →
      ((Itl K a).stop i H ∧ Qd H) ∨ ((Itl K a).go i H ∧ ∃ Nx : Hp → Prop, (∀ H', Nx H' → ∃ m', m' < m ∧ W (i + 1) m' H') ∧ ∀ x H', (Itl K a).yld i H x H' → g x (wipe σ vs) H' fun σ2 H2 => wipe σ2 vs = wipe σ vs ∧ tt σ2 H2 fun b H3 =>
        if b = true then te σ2 H3 fun y H4 => ∃ acc, H4 D = some (.lst acc) ∧ acc.length < sizeLine ∧ Nx (upd H4 D (.lst (acc ++ [y]))) else Nx H3) := by
  have sD : ∀ {H : Hp} {zs : List V}, Same H1 H → Same H1 (upd H D (.lst zs)) := fun {H zs} s b o e => by
    rw [upd_ne (ne_of_none e hD)]
    exact s b o e
  refine lc_list (fun i H => Same H1 H ∧ H D = some (.lst (((xs.take i).filter p).map f))) ⟨sD (Same.refl _), upd_same⟩ (fun i H _ h => h.1.seq hx) (fun i x H hi ⟨s, hq⟩ => ?_) fun H ⟨s, hq⟩ => ?_
  · refine hs i x H _ _ hi s hq fun H4 s4 => ?_
    have et : xs.take (i + 1) = xs.take i ++ [x] := by rw [List.take_add_one, hi]; rfl
    by_cases hp : p x = true
    · rw [if_pos hp]
      refine ⟨_, s4 _ _ hq, ?_, sD (s.trans s4), ?_⟩
      · have h1 : (((xs.take i).filter p).map f).length ≤ i := by
          rw [List.length_map]
          exact Nat.le_trans (List.length_filter_le _ _) (by rw [List.length_take]; omega)
        have h2 : i < xs.length := (List.getElem?_eq_some_iff.mp hi).1
        omega
      · rw [upd_same, et, List.filter_append, List.filter_cons, if_pos hp, List.map_append]
        rfl
    · rw [if_neg hp]
      refine ⟨s.trans s4, ?_⟩
      rw [et, List.filter_append, List.filter_cons, if_neg hp, List.filter_nil, List.append_nil]
      exact s4 _ _ hq
  · rw [List.take_length] at hq
    exact hd H s hq
theorem lc_rsame {lo : Int} {n : Nat} {g : TG} {tt : TT} {te : TE} {vs : List Nat} {σ : St} {H1 : Hp} {D : Addr} {Qd : Hp → Prop} (p : Int → Bool) (f : Int → V) (hz : n ≤ sizeLine) (hD : H1 D = none)
    (hs : ∀ (i : Nat) (H : Hp) (acc : List V) (Nx : Hp → Prop), i < n → Same H1 H → H D = some (.lst acc) → (∀ H4, Same H H4 → if p (lo + i) = true then (∃ acc, H4 D = some (.lst acc) ∧ acc.length < sizeLine ∧ Nx (upd H4 D (.lst (acc ++ [f (lo + i)])))) else Nx H4) →
      g (.int (lo + i)) (wipe σ vs) H fun σ2 H2 => wipe σ2 vs = wipe σ vs ∧ tt σ2 H2 fun b H3 => if b = true then te σ2 H3 fun y H4 => ∃ acc, H4 D = some (.lst acc) ∧ acc.length < sizeLine ∧ Nx (upd H4 D (.lst (acc ++ [y]))) else Nx H3)
    (hd : ∀ H, Same H1 H → H D = some (.lst ((((List.range n).map fun (k : Nat) => lo + (k : Int)).filter p).map f)) → Qd H) :
    ∃ W : Nat → Nat → Hp → Prop, (∃ m, W 0 m (upd H1 D (.lst []))) ∧ ∀ i m H, W i m H →
      ((Itr lo n).stop i H ∧ Qd H) ∨ ((Itr lo n).go i H ∧ ∃ Nx : Hp → Prop, (∀ H', Nx H' → ∃ m', m' < m ∧ W (i + 1) m' H') ∧ ∀ x H', (Itr lo n).yld i H x H' → g x (wipe σ vs) H' fun σ2 H2 => wipe σ2 vs = wipe σ vs ∧ tt σ2 H2 fun b H3 =>
        if b = true then te σ2 H3 fun y H4 => ∃ acc, H4 D = some (.lst acc) ∧ acc.length < sizeLine ∧ Nx (upd H4 D (.lst (acc ++ [y]))) else Nx H3) := by
  have sD : ∀ {H : Hp} {zs : List V}, Same H1 H → Same H1 (upd H D (.lst zs)) := fun {H zs} s b o e => by
    rw [upd_ne (ne_of_none e hD)]
    exact s b o e
  refine lc_range (fun i H => Same H1 H ∧ H D = some (.lst ((((List.range i).map fun (k : Nat) => lo + (k : Int)).filter p).map f))) ⟨sD (Same.refl _), upd_same⟩ (fun i H hi ⟨s, hq⟩ => ?_) fun H ⟨s, hq⟩ => hd H s hq
  refine hs i H _ _ hi s hq fun H4 s4 => ?_
  have et : (List.range (i + 1)).map (fun (k : Nat) => lo + (k : Int)) = (List.range i).map (fun (k : Nat) => lo + (k : Int)) ++ [lo + (i : Int)] := by rw [List.range_succ, List.map_append]; rfl
  by_cases hp : p (lo + i) = true
  · rw [if_pos hp]
    refine ⟨_, s4 _ _ hq, ?_, sD (s.trans s4), ?_⟩
    · have h1 : ((((List.range i).map fun (k : Nat) => lo + (k : Int)).filter p).map f).length ≤ i := by
        rw [List.length_map]
        exact Nat.le_trans (List.length_filter_le _ _) (by rw [List.length_map, List.length_range]; omega)
      omega
    · rw [upd_same, et, List.filter_append, List.filter_cons, if_pos hp, List.map_append]
      rfl
  · rw [if_neg hp]
    refine ⟨s.trans s4, ?_⟩
    rw [et, List.filter_append, List.filter_cons, if_neg hp, List.filter_nil, List.append_nil]
    exact s4 _ _ hq

section
variable {X : Cx} {e : Expr} {es : List Expr} {fe : Expr} {te : TE} {t : TA} {pos : Pos}
structure Good (X : Cx) (f : Addr) (sp : Sp) : Prop where
  ex : ∃ (k : Nat) (fd : FuncData) (ps : List Str), FnOk X.prog X.w X.K X.mg X.base CX0 k f fd ps sp ∧ Room k X.A ∧ Binds X.K fd ps []
  kp : PySem.W.keepIn X.K (.ref f) = true
noncomputable def tCallV (X : Cx) (tf : TE) (t : TA) : TE := fun σ H Q => tf σ H fun x H1 => ∃ f sp, x = .ref f ∧ Good X f sp ∧ t σ H1 fun vs H2 => sp vs H2 Q E0
theorem pe_callV (hf : PE X fe te) (ha : PA X (e :: es) t) (hc : eval (.Call fe (e :: es) [] pos) X.env = (do callWith pos (← eval fe X.env) [] (backTo pos (starEach (e :: es) X.env)) (backToKw pos (keywordEach [] X.env))) := by rfl)
    (he : starEach (e :: es) X.env = (false, eval e X.env) :: starEach es X.env := by rfl) (hpl : (backTo pos (starEach es X.env)).any (·.1) = false := by rfl) : PE X (.Call fe (e :: es) [] pos) (tCallV X te t) := by
  intro pins s σ H Q I h
  refine Call_ (thn (hf pins s σ H _ I h) fun u s1 zq => ?_) hc
  obtain ⟨x, H1, I1, rx, f, sp, ex, G, q⟩ := zq
  subst ex
  obtain rfl : u = Value.ref f := rx
  obtain ⟨k, fd, ps, F, hr, hb⟩ := G.ex
  refine PySem.W.callWith_K (h₀ := X.base) I.ok.mod.kin G.kp (thn (ha pos pins s1 σ H1 _ I1 q) fun us s2 ⟨vs, H2, I2, r, q2⟩ => ⟨I2.kIn, ?_⟩) he hpl
  exact run_fn (dvs := []) (ds := []) F hr hb .nil pass0 I2 r (by rw [List.append_nil]; exact q2)
end
end L2

end
section
set_option linter.all false
namespace Lk
open Kv374

theorem has_tb (m i : Nat) : has m i = m.testBit (i - 1) := by
  unfold has
  rw [Nat.testBit_eq_decide_div_mod_eq, Bool.eq_iff_iff]
  simp
theorem add_or : ∀ (k m : Nat), m.testBit k = false → m + 2 ^ k = m ||| 2 ^ k
  | 0, m, h => by
    apply Nat.eq_of_testBit_eq
    intro i
    rw [Nat.testBit_zero] at h
    cases i with
    | zero =>
      rw [Nat.testBit_or, Nat.testBit_zero, Nat.testBit_zero, Bool.eq_iff_iff]
      simp at h ⊢
      omega
    | succ i =>
      rw [Nat.testBit_or, Nat.testBit_succ, Nat.testBit_succ, Nat.testBit_succ]
      simp at h
      have e : (m + 2 ^ 0) / 2 = m / 2 := by simp; omega
      rw [e]; simp
  | k + 1, m, h => by
    have ih := add_or k (m / 2) (by rw [Nat.testBit_succ] at h; exact h)
    apply Nat.eq_of_testBit_eq
    intro i
    cases i with
    | zero =>
      rw [Nat.testBit_or, Nat.testBit_zero, Nat.testBit_zero, Nat.testBit_zero, Bool.eq_iff_iff]
      have : 2 ^ (k + 1) % 2 = 0 := by rw [Nat.pow_succ]; omega
      simp
      omega
    | succ i =>
      have e : (m + 2 ^ (k + 1)) / 2 = m / 2 + 2 ^ k := by rw [Nat.pow_succ]; omega
      have e2 : 2 ^ (k + 1) / 2 = 2 ^ k := by rw [Nat.pow_succ]; omega
      rw [Nat.testBit_or, Nat.testBit_succ, Nat.testBit_succ, Nat.testBit_succ, e, ih, Nat.testBit_or, e2]
theorem has_add {m i j : Nat} (h : has m i = false) (hi : 0 < i) (hj : 0 < j) : has (add m i) j = (has m j || i == j) := by
  rw [has_tb] at h
  unfold add
  rw [has_tb, has_tb, add_or _ _ h, Nat.testBit_or]
  congr 1
  rw [Nat.testBit_two_pow, Bool.eq_iff_iff]
  simp
  omega
theorem bit_le {m i : Nat} (hi : 0 < i) (h : has m i = true) : 2 ^ (i - 1) ≤ m := by
  rw [has_tb] at h
  exact Nat.ge_two_pow_of_testBit h
theorem has_lt {m i n : Nat} (hm : m < 2 ^ n) (hi : n < i) : has m i = false := by
  rw [has_tb]
  exact Nat.testBit_lt_two_pow (Nat.lt_of_lt_of_le hm (Nat.pow_le_pow_right (by decide) (by omega)))
theorem add_lt {m i n : Nat} (hm : m < 2 ^ n) (hi : 0 < i) (hin : i ≤ n) (h : has m i = false) : add m i < 2 ^ n := by
  rw [has_tb] at h
  unfold add
  rw [add_or _ _ h]
  exact Nat.or_lt_two_pow hm (Nat.pow_lt_pow_right (by decide) (by omega))
theorem full_bits {m n : Nat} (hm : m < 2 ^ n) (h : ∀ i, 0 < i → i ≤ n → has m i = true) : m = 2 ^ n - 1 := by
  apply Nat.eq_of_testBit_eq
  intro i
  rw [Nat.testBit_two_pow_sub_one]
  by_cases hi : i < n
  · have := h (i + 1) (by omega) (by omega)
    rw [has_tb] at this
    simp at this
    simp [hi, this]
  · rw [Nat.testBit_lt_two_pow (Nat.lt_of_lt_of_le hm (Nat.pow_le_pow_right (by decide) (by omega)))]
    simp [hi]
theorem has_full {n i : Nat} (hi : 0 < i) (hin : i ≤ n) : has (2 ^ n - 1) i = true := by
  rw [has_tb, Nat.testBit_two_pow_sub_one]
  simp
  omega
noncomputable def bsum (l : List Nat) : Nat := (l.map fun i => 2 ^ (i - 1)).sum
theorem bsum_cons (i : Nat) (l : List Nat) : bsum (i :: l) = 2 ^ (i - 1) + bsum l := by simp [bsum]
theorem has_bsum : ∀ {l : List Nat}, l.Nodup → (∀ i ∈ l, 0 < i) → ∀ j, 0 < j → has (bsum l) j = decide (j ∈ l)
  | [], _, _, j, _ => by simp [bsum, has]
  | i :: l, nd, hp, j, hj => by
    obtain ⟨n1, n2⟩ := List.nodup_cons.mp nd
    have ih := has_bsum n2 (fun i h => hp i (List.mem_cons_of_mem _ h))
    have hi : has (bsum l) i = false := by rw [ih i (hp i List.mem_cons_self)]; simp [n1]
    have e : bsum (i :: l) = add (bsum l) i := by rw [bsum_cons]; unfold add; omega
    rw [e, has_add hi (hp i List.mem_cons_self) hj, ih j hj, Bool.eq_iff_iff]
    simp
    constructor
    · rintro (h | h)
      · exact .inr h
      · exact .inl h.symm
    · rintro (h | h)
      · exact .inr h.symm
      · exact .inl h
theorem bsum_lt {n : Nat} : ∀ {l : List Nat}, l.Nodup → (∀ i ∈ l, 0 < i ∧ i ≤ n) → bsum l < 2 ^ n
  | [], _, _ => by simp [bsum]; exact Nat.two_pow_pos n
  | i :: l, nd, hp => by
    obtain ⟨n1, n2⟩ := List.nodup_cons.mp nd
    have ih := bsum_lt n2 (fun i h => hp i (List.mem_cons_of_mem _ h))
    have hi : has (bsum l) i = false := by
      rw [has_bsum n2 (fun i h => (hp i (List.mem_cons_of_mem _ h)).1) i (hp i List.mem_cons_self).1]; simp [n1]
    have e : bsum (i :: l) = add (bsum l) i := by rw [bsum_cons]; unfold add; omega
    rw [e]
    exact add_lt ih (hp i List.mem_cons_self).1 (hp i List.mem_cons_self).2 hi
theorem mask_all {l : List Nat} (nd : l.Nodup) (hp : ∀ i ∈ l, 0 < i) (m : Nat) : (bsum l &&& m = bsum l) ↔ ∀ j ∈ l, has m j = true := by
  constructor
  · intro h j hj
    have h1 := has_bsum nd hp j (hp j hj)
    rw [← h, has_tb, Nat.testBit_and] at h1
    rw [has_tb]
    simp [hj] at h1
    exact h1.2
  · intro h
    apply Nat.eq_of_testBit_eq
    intro i
    rw [Nat.testBit_and]
    cases e : (bsum l).testBit i with
    | false => simp
    | true =>
      have h1 := has_bsum nd hp (i + 1) (by omega)
      rw [has_tb] at h1
      simp [e] at h1
      have h2 := h _ h1
      rw [has_tb] at h2
      simpa using h2
theorem bit_test {m i : Nat} (hi : 0 < i) : (m &&& 2 ^ (i - 1) = 0) ↔ has m i = false := by
  rw [has_tb]
  constructor
  · intro h
    cases e : m.testBit (i - 1) with
    | false => rfl
    | true =>
      have h2 : (m &&& 2 ^ (i - 1)).testBit (i - 1) = true := by rw [Nat.testBit_and, e, Nat.testBit_two_pow_self]; rfl
      rw [h] at h2
      simp at h2
  · intro h
    apply Nat.eq_of_testBit_eq
    intro k
    rw [Nat.testBit_and, Nat.testBit_two_pow]
    by_cases hk : i - 1 = k
    · subst hk; simp [h]
    · simp [hk]

structure WF (a : Abs) : Prop where
  pos : 1 ≤ a.n
  le : a.n ≤ 9
  zero : a.part 0 = ⟨0, 0⟩
  on : ∀ j, 0 < j → j < a.n → (a.part j).on < j
  ch : ∀ j, -50 ≤ (a.part j).change ∧ (a.part j).change ≤ 50
  ln : -200 ≤ a.lean ∧ a.lean ≤ 200

theorem all_eq (a : Abs) : a.all_ = List.range' 1 (a.n - 1) := by
  unfold Abs.all_ Abs.ids
  cases h : a.n with
  | zero => rfl
  | succ k =>
    rw [List.range_eq_range', show List.range' 0 (k + 1) = 0 :: List.range' 1 k from rfl, List.filter_cons]
    simp
    intro a h1 h2
    omega
theorem mem_all {a : Abs} {i : Nat} : i ∈ a.all_ ↔ 0 < i ∧ i < a.n := by
  unfold Abs.all_ Abs.ids
  simp [and_comm]
theorem nd_all (a : Abs) : a.all_.Nodup := by rw [all_eq]; exact List.nodup_range'
theorem boughs_eq (a : Abs) (i : Nat) : a.boughs i = a.all_.filter fun j => (a.part j).on == i := by
  unfold Abs.boughs Abs.all_
  rw [List.filter_filter]
  congr 1
  funext j
  rw [Bool.and_comm]
theorem mem_boughs {a : Abs} {i j : Nat} : j ∈ a.boughs i ↔ (0 < j ∧ j < a.n) ∧ (a.part j).on = i := by
  rw [boughs_eq, List.mem_filter, mem_all]
  simp
theorem nd_boughs (a : Abs) (i : Nat) : (a.boughs i).Nodup := by rw [boughs_eq]; exact (nd_all a).filter _
theorem boughs_gt {a : Abs} (W : WF a) {i j : Nat} (h : j ∈ a.boughs i) : i < j := by
  obtain ⟨⟨h1, h2⟩, h3⟩ := mem_boughs.mp h
  rw [← h3]
  exact W.on j h1 h2
theorem mem_next {a : Abs} {m i : Nat} : i ∈ a.next m ↔ (0 < i ∧ i < a.n) ∧ has m i = false ∧ ∀ j ∈ a.boughs i, has m j = true := by
  unfold Abs.next
  rw [List.mem_filter, mem_all]
  simp
theorem next_some {a : Abs} (W : WF a) (m : Nat) : ∀ d k, k + d = a.n → 0 < k → (∀ j, k ≤ j → j < a.n → has m j = true) ∨ ∃ i, i ∈ a.next m
  | 0, k, e, _ => .inl fun j h1 h2 => by omega
  | d + 1, k, e, hk => by
    rcases next_some W m d (k + 1) (by omega) (by omega) with h | h
    · cases hb : has m k with
      | true =>
        refine .inl fun j h1 h2 => ?_
        by_cases hj : j = k
        · rw [hj, hb]
        · exact h j (by omega) h2
      | false =>
        refine .inr ⟨k, mem_next.mpr ⟨⟨hk, by omega⟩, hb, fun j hj => h j (boughs_gt W hj) (mem_boughs.mp hj).1.2⟩⟩
    · exact .inr h
theorem next_ne {a : Abs} (W : WF a) {m : Nat} (hm : m < a.full) (hne : m ≠ a.full - 1) : ∃ i, i ∈ a.next m := by
  rcases next_some W m (a.n - 1) 1 (by have := W.pos; omega) (by decide) with h | h
  · refine absurd (full_bits (n := a.n - 1) hm fun i h1 h2 => h i h1 ?_) hne
    have := W.pos
    omega
  · exact h
theorem next_nil {a : Abs} : a.next (a.full - 1) = [] := by
  rw [List.eq_nil_iff_forall_not_mem]
  intro i h
  obtain ⟨⟨h1, h2⟩, h3, _⟩ := mem_next.mp h
  rw [show a.full = 2 ^ (a.n - 1) from rfl, has_full h1 (by omega)] at h3
  cases h3
theorem full_pos (a : Abs) : 0 < a.full := Nat.two_pow_pos _
theorem next_add {a : Abs} {m i : Nat} (hm : m < a.full) (h : i ∈ a.next m) : add m i < a.full ∧ m < add m i := by
  obtain ⟨⟨h1, h2⟩, h3, _⟩ := mem_next.mp h
  refine ⟨add_lt hm h1 (by omega) h3, ?_⟩
  unfold add
  have := Nat.two_pow_pos (i - 1)
  omega

theorem leastOf_some : ∀ (l : List Int) (y : Int), l.foldl (fun (b : Option Int) x => some (match b with
  | none => x
  | some y => min x y)) (some y) = some (l.foldl (fun b x => min x b) y)
  | [], y => rfl
  | x :: l, y => by
    rw [List.foldl_cons, List.foldl_cons]
    exact leastOf_some l (min x y)
theorem foldl_min : ∀ (l : List Int) (y : Int), (l.foldl (fun b x => min x b) y = y ∨ l.foldl (fun b x => min x b) y ∈ l) ∧ l.foldl (fun b x => min x b) y ≤ y ∧ ∀ z ∈ l, l.foldl (fun b x => min x b) y ≤ z
  | [], y => ⟨.inl rfl, Int.le_refl _, fun z h => by cases h⟩
  | x :: l, y => by
    obtain ⟨h1, h2, h3⟩ := foldl_min l (min x y)
    rw [List.foldl_cons]
    refine ⟨?_, by omega, fun z hz => ?_⟩
    · rcases h1 with h1 | h1
      · rw [h1]
        by_cases h : x ≤ y
        · exact .inr (by rw [show min x y = x by omega]; exact List.mem_cons_self)
        · exact .inl (by omega)
      · exact .inr (List.mem_cons_of_mem _ h1)
    · rcases List.mem_cons.mp hz with e | e
      · subst e; omega
      · exact h3 z e
theorem leastOf_eq {l : List Int} {m : Int} (h1 : m ∈ l) (h2 : ∀ z ∈ l, m ≤ z) : leastOf l = some m := by
  cases l with
  | nil => cases h1
  | cons x l =>
    refine (leastOf_some l x).trans ?_
    obtain ⟨q1, q2, q3⟩ := foldl_min l x
    congr 1
    have a1 : m ≤ l.foldl (fun b x => min x b) x := by
      rcases q1 with q1 | q1
      · rw [q1]; exact h2 x List.mem_cons_self
      · exact h2 _ (List.mem_cons_of_mem _ q1)
    have a2 : l.foldl (fun b x => min x b) x ≤ m := by
      rcases List.mem_cons.mp h1 with e | e
      · rw [e]; exact q2
      · exact q3 m e
    omega

theorem table_len (a : Abs) (side : Nat) : ∀ k, (a.table side k).length = k
  | 0 => rfl
  | k + 1 => by
    show List.length (_ :: _) = _
    rw [List.length_cons, table_len a side k]
noncomputable def cell (a : Abs) (side : Nat) (t : List Int) (m : Nat) : Int := match leastOf ((a.next m).map fun i => t.getD (2 ^ (i - 1) - 1) 0) with
  | none => far side (a.leanAt m)
  | some x => max (far side (a.leanAt m)) x
theorem table_succ (a : Abs) (side k : Nat) : a.table side (k + 1) = cell a side (a.table side k) (a.full - (k + 1)) :: a.table side k := rfl
theorem table_drop (a : Abs) (side : Nat) : ∀ j k, a.table side k = (a.table side (k + j)).drop j
  | 0, k => rfl
  | j + 1, k => by
    rw [show k + (j + 1) = (k + j) + 1 by omega, table_succ, List.drop_succ_cons]
    exact table_drop a side j k
theorem table_rows {a : Abs} (side : Nat) {m : Nat} (hm : m ≤ a.full) : a.table side (a.full - m) = (a.rows side).drop m := by
  have := table_drop a side m (a.full - m)
  rw [show a.full - m + m = a.full by omega] at this
  exact this
theorem rows_len (a : Abs) (side : Nat) : (a.rows side).length = a.full := table_len a side _
theorem getD_drop {α : Type} (l : List α) (m j : Nat) (d : α) : (l.drop m).getD j d = l.getD (m + j) d := by
  rw [List.getD_eq_getElem?_getD, List.getD_eq_getElem?_getD, List.getElem?_drop]
theorem bit_ix {m i : Nat} : m + 1 + (2 ^ (i - 1) - 1) = add m i := by
  unfold add
  have := Nat.two_pow_pos (i - 1)
  omega
theorem rows_at {a : Abs} (side : Nat) {m : Nat} (hm : m < a.full) : (a.rows side).getD m 0 = match leastOf ((a.next m).map fun i => (a.rows side).getD (add m i) 0) with
  | none => far side (a.leanAt m)
  | some x => max (far side (a.leanAt m)) x := by
  have e1 := table_rows (a := a) side (m := m) (by omega)
  have e2 := table_rows (a := a) side (m := m + 1) (by omega)
  rw [show a.full - m = (a.full - (m + 1)) + 1 by omega, table_succ, e2] at e1
  have e3 : (a.rows side).getD m 0 = cell a side ((a.rows side).drop (m + 1)) (a.full - (a.full - (m + 1) + 1)) := by
    have := getD_drop (a.rows side) m 0 0
    rw [Nat.add_zero, ← e1] at this
    exact this.symm
  rw [e3, show a.full - (a.full - (m + 1) + 1) = m by omega]
  unfold cell
  simp only [getD_drop, bit_ix]
theorem rows_last {a : Abs} (side : Nat) : (a.rows side).getD (a.full - 1) 0 = far side (a.leanAt (a.full - 1)) := by
  rw [rows_at side (by have := full_pos a; omega), next_nil]
  rfl
theorem rows_min {a : Abs} (side : Nat) {m : Nat} (hm : m < a.full) {x : Int} (h1 : x ∈ (a.next m).map fun i => (a.rows side).getD (add m i) 0) (h2 : ∀ z ∈ (a.next m).map fun i => (a.rows side).getD (add m i) 0, x ≤ z) :
    (a.rows side).getD m 0 = max (far side (a.leanAt m)) x := by
  rw [rows_at side hm, leastOf_eq h1 h2]
theorem exists_least : ∀ (l : List Int), l ≠ [] → ∃ m, m ∈ l ∧ ∀ z ∈ l, m ≤ z
  | [], h => absurd rfl h
  | x :: l, _ => by
    obtain ⟨h1, h2, h3⟩ := foldl_min l x
    refine ⟨l.foldl (fun b x => min x b) x, ?_, fun z hz => ?_⟩
    · rcases h1 with h1 | h1
      · rw [h1]; exact List.mem_cons_self
      · exact List.mem_cons_of_mem _ h1
    · rcases List.mem_cons.mp hz with e | e
      · rw [e]; exact h2
      · exact h3 z e
theorem go_on {a : Abs} (W : WF a) {side m : Nat} {best : Int} (hm : m < a.full) (hne : m ≠ a.full - 1) (hb : (a.rows side).getD m 0 ≤ best) : ∃ i, i ∈ a.next m ∧ (a.rows side).getD (add m i) 0 ≤ best := by
  obtain ⟨i0, hi0⟩ := next_ne W hm hne
  obtain ⟨x, h1, h2⟩ := exists_least ((a.next m).map fun i => (a.rows side).getD (add m i) 0) (by
    intro e
    have := List.mem_map_of_mem (f := fun i => (a.rows side).getD (add m i) 0) hi0
    rw [e] at this
    cases this)
  rw [rows_min side hm h1 h2] at hb
  obtain ⟨i, hi, e⟩ := List.mem_map.mp h1
  refine ⟨i, hi, ?_⟩
  rw [e]
  omega
noncomputable def left (a : Abs) (m : Nat) : Nat := (a.all_.filter fun i => !has m i).length
theorem left_zero {a : Abs} (W : WF a) {m : Nat} (hm : m < a.full) : left a m = 0 ↔ m = a.full - 1 := by
  constructor
  · intro h
    have h' : a.all_.filter (fun i => !has m i) = [] := List.length_eq_zero_iff.mp h
    refine full_bits (n := a.n - 1) hm fun i h1 h2 => ?_
    cases e : has m i with
    | true => rfl
    | false =>
      have : i ∈ a.all_.filter (fun i => !has m i) := List.mem_filter.mpr ⟨mem_all.mpr ⟨h1, by have := W.pos; omega⟩, by simp [e]⟩
      rw [h'] at this
      cases this
  · intro h
    refine List.length_eq_zero_iff.mpr (List.eq_nil_iff_forall_not_mem.mpr fun i hi => ?_)
    obtain ⟨h1, h2⟩ := List.mem_filter.mp hi
    obtain ⟨h3, h4⟩ := mem_all.mp h1
    rw [h, show a.full = 2 ^ (a.n - 1) from rfl, has_full h3 (by omega)] at h2
    cases h2
theorem filter_one : ∀ {l : List Nat} {p q : Nat → Bool} {i : Nat}, l.Nodup → i ∈ l → p i = true → q i = false → (∀ j ∈ l, j ≠ i → p j = q j) → (l.filter p).length = (l.filter q).length + 1
  | [], _, _, _, _, h, _, _, _ => by cases h
  | x :: l, p, q, i, nd, h, h1, h2, h3 => by
    obtain ⟨n1, n2⟩ := List.nodup_cons.mp nd
    by_cases e : x = i
    · subst e
      rw [List.filter_cons, if_pos h1, List.filter_cons, if_neg (by rw [h2]; decide), List.length_cons]
      congr 2
      refine List.filter_congr fun j hj => h3 j (List.mem_cons_of_mem _ hj) fun e => n1 (e ▸ hj)
    · have hi : i ∈ l := (List.mem_cons.mp h).resolve_left fun z => e z.symm
      have ih := filter_one n2 hi h1 h2 fun j hj => h3 j (List.mem_cons_of_mem _ hj)
      have := h3 x List.mem_cons_self e
      rw [List.filter_cons, List.filter_cons, this]
      split
      · rw [List.length_cons, List.length_cons, ih]
      · exact ih
theorem left_add {a : Abs} {m i : Nat} (h : i ∈ a.next m) : left a m = left a (add m i) + 1 := by
  obtain ⟨h1, h2, _⟩ := mem_next.mp h
  refine filter_one (nd_all a) (mem_all.mpr h1) (by simp [h2]) (by simp [has_add h2 h1.1 h1.1]) fun j hj hne => ?_
  rw [has_add h2 h1.1 (mem_all.mp hj).1]
  have : (i == j) = false := by simp; exact fun e => hne e.symm
  simp [this]
theorem left_start {a : Abs} : left a 0 = a.n - 1 := by
  unfold left
  rw [List.filter_eq_self.mpr (by intro i _; simp [has]), all_eq, List.length_range']
theorem go_step {a : Abs} {t : List Int} {best : Int} {k m i : Nat} (h : (a.next m).find? (fun i => decide (t.getD (add m i) 0 ≤ best)) = some i) : a.go t best (k + 1) m = i :: a.go t best k (add m i) := by
  show (match (a.next m).find? (fun i => decide (t.getD (add m i) 0 ≤ best)) with | none => [] | some i => i :: a.go t best k (add m i)) = _
  rw [h]
theorem go_end {a : Abs} {t : List Int} {best : Int} {k : Nat} : a.go t best k (a.full - 1) = [] := by
  cases k with
  | zero => rfl
  | succ k =>
    show (match (a.next (a.full - 1)).find? (fun i => decide (t.getD (add (a.full - 1) i) 0 ≤ best)) with | none => [] | some i => i :: a.go t best k (add (a.full - 1) i)) = _
    rw [next_nil]
    rfl
theorem find_head {α : Type} (p : α → Bool) : ∀ l : List α, l.find? p = (l.filter p).head?
  | [] => rfl
  | x :: l => by
    rw [List.find?_cons, List.filter_cons]
    cases h : p x with
    | true => rw [if_pos rfl]; rfl
    | false => rw [if_neg (by decide), ← find_head p l]
end Lk

end
section
set_option Elab.async false
set_option linter.all false
set_option maxRecDepth 100000
set_option maxHeartbeats 4000000
namespace L2
open PySem PySem.Spec PyProof.Rows
section
variable {P : Program} {w : World} {K : PySem.W.Frag} {mg : Str → Option Value} {base : Heap}
structure Callee (P : Program) (w : World) (K : PySem.W.Frag) (mg : Str → Option Value) (base : Heap) (k : Nat) (x : Str) (ps : List Str) (sp : Sp) : Prop where
  ex : ∃ (f : Addr) (fd : FuncData), FnOk P w K mg base CX0 k f fd ps sp ∧ mg x = some (.ref f) ∧ PySem.W.keepIn K (.ref f) = true ∧ Binds K fd ps []
structure MCallee (P : Program) (w : World) (K : PySem.W.Frag) (mg : Str → Option Value) (base : Heap) (C : Addr) (k : Nat) (m : Str) (ps : List Str) (sp : Sp) : Prop where
  ex : ∃ (f : Addr) (fd : FuncData), FnOk P w K mg base CX0 k f fd ps sp ∧ Meth K C m f ∧ Binds K fd ps []
end
section
variable {X : Cx} {k : Nat} {C : Addr} {x m : Str} {ps : List Str} {sp : Sp} {e o : Expr} {es : List Expr} {t : TA} {ta : TE} {p pos apos : Pos}
theorem pe_callC (c : Callee X.prog X.w X.K X.mg X.base k x ps sp) (hr : Room k X.A) (hg : Gl X x) (ha : PA X (e :: es) t) (hdb : (x == ("__debug__" : Str)) = false := by decide)
    (he : starEach (e :: es) X.env = (false, eval e X.env) :: starEach es X.env := by rfl) (hpl : (backTo pos (starEach es X.env)).any (·.1) = false := by rfl) : PE X (.Call (.Name x p) (e :: es) [] pos) (tCall sp [] E0 t) := by
  obtain ⟨f, fd, F, hm, hk, hb⟩ := c.ex
  exact pe_call F hr hg hm hk hb .nil pass0 ha hdb he hpl
theorem pe_methC {pl : Sem Bool} (c : MCallee X.prog X.w X.K X.mg X.base C k m ps sp) (cl : Cls X.K C) (hr : Room k X.A) (ho : PE X o ta) (ha : PA X (e :: es) t)
    (hst : starEach (e :: es) X.env = (false, eval e X.env) :: starEach es X.env := by rfl) (hpl : (backTo pos (starEach es X.env)).any (·.1) = false := by rfl)
    (ht : eval (.Call (.Attribute o m apos) (e :: es) [] pos) X.env = (do
      let ov ← eval o X.env
      standAt apos.atName
      let (f, first) ← holding [ov] (getMethod ov m pl)
      callWith pos f first (backTo pos (starEach (e :: es) X.env)) (backToKw pos (keywordEach [] X.env))) := by rfl) : PE X (.Call (.Attribute o m apos) (e :: es) [] pos) (tMeth C m sp [] E0 ta t) := by
  obtain ⟨f, fd, F, hm, hb⟩ := c.ex
  exact pe_meth ho cl hm F hr hb .nil pass0 ha hst hpl ht
theorem pe_methC0 {pl : Sem Bool} (c : MCallee X.prog X.w X.K X.mg X.base C k m ps sp) (cl : Cls X.K C) (hr : Room k X.A) (ho : PE X o ta)
    (ht : eval (.Call (.Attribute o m apos) [] [] pos) X.env = (do
      let ov ← eval o X.env
      standAt apos.atName
      let (f, first) ← holding [ov] (getMethod ov m pl)
      callWith pos f first (backTo pos (starEach [] X.env)) (backToKw pos (keywordEach [] X.env))) := by rfl) : PE X (.Call (.Attribute o m apos) [] [] pos) (tMeth C m sp [] E0 ta tNil) := by
  obtain ⟨f, fd, F, hm, hb⟩ := c.ex
  exact pe_meth0 ho cl hm F hr hb .nil pass0 ht
end
end L2
namespace Le
open PySem PySem.Spec PyProof.Rows L2
open Kv374 (Abs Part)
noncomputable def top (i : Nat) : Stmt := PySem.Challenge.pw_leaning_s01_answers.main.body.getD i (.Pass ⟨0, 0, 0, 0⟩)
noncomputable abbrev sTree : Stmt := top 26
noncomputable abbrev sInit : Stmt := inClass sTree 0
noncomputable abbrev sAnew : Stmt := inClass sTree 1
noncomputable abbrev sTwin : Stmt := inClass sTree 2
noncomputable abbrev sHang : Stmt := inClass sTree 3
noncomputable abbrev sDrop : Stmt := inClass sTree 4
noncomputable abbrev sCount : Stmt := inClass sTree 5
noncomputable abbrev sLoose : Stmt := inClass sTree 6
noncomputable abbrev sOn : Stmt := inClass sTree 7

theorem bt_list : bootBuiltins "list" = some (.type "list") := by decide +kernel
theorem bt_range : bootBuiltins "range" = some (.type "range") := by decide +kernel
theorem bt_sum : bootBuiltins "sum" = some (.builtin "sum") := by decide +kernel
theorem bt_min : bootBuiltins "min" = some (.builtin "min") := by decide +kernel
theorem bt_max : bootBuiltins "max" = some (.builtin "max") := by decide +kernel
theorem bt_abs : bootBuiltins "abs" = some (.builtin "abs") := by decide +kernel
theorem bt_sorted : bootBuiltins "sorted" = some (.builtin "sorted") := by decide +kernel
noncomputable def tf (b : Bool) (l : Int) (h c : Addr) : List (Str × V) := [("begun", .bl b), ("first_lean", .int l), ("hung_on", .ref h), ("changes", .ref c)]
theorem tf_begun {b l h c} : (tf b l h c).lookup ("begun" : Str) = some (.bl b) := rfl
theorem tf_lean {b l h c} : (tf b l h c).lookup ("first_lean" : Str) = some (.int l) := rfl
theorem tf_hung {b l h c} : (tf b l h c).lookup ("hung_on" : Str) = some (.ref h) := rfl
theorem tf_chg {b l h c} : (tf b l h c).lookup ("changes" : Str) = some (.ref c) := rfl
theorem tf_len {b l h c} : (tf b l h c).length < 1000 := by show 4 < 1000; decide
theorem put_begun {b b' l h c} : putF "begun" (.bl b') (tf b l h c) = tf b' l h c := rfl
theorem put_lean {b l l' h c} : putF "first_lean" (.int l') (tf b l h c) = tf b l' h c := rfl
theorem put_hung {b l h h' c} : putF "hung_on" (.ref h') (tf b l h c) = tf b l h' c := rfl
theorem put_chg {b l h c c'} : putF "changes" (.ref c') (tf b l h c) = tf b l h c' := rfl

noncomputable def natV (l : List Nat) : List V := l.map fun (i : Nat) => V.int (i : Int)
noncomputable def hungV (a : Abs) : List V := .int (-1) :: (a.parts.drop 1).map fun (p : Part) => V.int (p.on : Int)
noncomputable def chV (a : Abs) : List V := a.parts.map fun p => .int p.change
structure TrAt (C : Addr) (H : Hp) (t : Addr) (a : Abs) (dx h c : Addr) : Prop where
  ins : H t = some (.ins C dx (tf true a.lean h c))
  hu : H h = some (.lst (hungV a))
  ch : H c = some (.lst (chV a))
  wf : Lk.WF a
noncomputable def Tr (C : Addr) (H : Hp) (t : Addr) (a : Abs) : Prop := ∃ dx h c, TrAt C H t a dx h c
theorem Tr.same {C : Addr} {H H' : Hp} {t : Addr} {a : Abs} (x : Tr C H t a) (s : Same H H') : Tr C H' t a := by
  obtain ⟨dx, h, c, y⟩ := x
  exact ⟨dx, h, c, s _ _ y.ins, s _ _ y.hu, s _ _ y.ch, y.wf⟩
theorem Tr.wf {C : Addr} {H : Hp} {t : Addr} {a : Abs} (x : Tr C H t a) : Lk.WF a := by
  obtain ⟨dx, h, c, y⟩ := x
  exact y.wf
theorem hung_len {a : Abs} (W : Lk.WF a) : (hungV a).length = a.n := by
  have := W.pos
  unfold hungV
  rw [List.length_cons, List.length_map, List.length_drop]
  show a.n - 1 + 1 = a.n
  omega
theorem ch_len (a : Abs) : (chV a).length = a.n := by unfold chV; rw [List.length_map]; rfl
theorem part_get {a : Abs} {j : Nat} (h : j < a.n) : a.parts[j]? = some (a.part j) := by
  unfold Abs.part
  rw [List.getD_eq_getElem?_getD, List.getElem?_eq_getElem h]
  rfl
theorem ch_at {a : Abs} {j : Nat} (h : j < a.n) : (chV a)[j]? = some (.int (a.part j).change) := by
  unfold chV
  rw [List.getElem?_map, part_get h]
  rfl
theorem hung_at {a : Abs} {j : Nat} (h0 : 0 < j) (h : j < a.n) : (hungV a)[j]? = some (.int ((a.part j).on : Int)) := by
  unfold hungV
  obtain ⟨k, rfl⟩ : ∃ k, j = k + 1 := ⟨j - 1, by omega⟩
  rw [List.getElem?_cons_succ, List.getElem?_map, List.getElem?_drop, Nat.add_comm 1 k, part_get h]
  rfl
theorem natV_range {a : Abs} (W : Lk.WF a) : (rangeI 1 (a.n : Int)).map V.int = natV a.all_ := by
  have := W.pos
  rw [Lk.all_eq, List.range'_eq_map_range]
  unfold rangeI natV
  rw [List.map_map, List.map_map, show ((a.n : Int) - 1).toNat = a.n - 1 by omega]
  refine List.map_congr_left fun k _ => ?_
  show V.int (1 + (k : Int)) = V.int ((1 + k : Nat) : Int)
  congr 1
theorem len_natV (l : List Nat) : (natV l).length = l.length := by unfold natV; rw [List.length_map]
theorem natV_at {l : List Nat} {i : Nat} {x : V} (h : (natV l)[i]? = some x) : ∃ k, l[i]? = some k ∧ x = .int (k : Int) := by
  unfold natV at h
  rw [List.getElem?_map] at h
  cases e : l[i]? with
  | none => rw [e] at h; cases h
  | some k => rw [e] at h; exact ⟨k, rfl, (Option.some.inj h).symm⟩
theorem small9 {n : Nat} (h : n ≤ 9) : n ≤ sizeLine := Nat.le_trans h (by decide)
theorem all_len {a : Abs} : a.all_.length = a.n - 1 := by rw [Lk.all_eq, List.length_range']
theorem boughs_len {a : Abs} (W : Lk.WF a) (i : Nat) : (a.boughs i).length ≤ 8 := by
  rw [Lk.boughs_eq]
  refine Nat.le_trans (List.length_filter_le _ _) ?_
  rw [all_len]
  have := W.le
  omega

structure Txt (K : PySem.W.Frag) (mg : Str → Option Value) (C : Addr) : Prop where
  cl : Cls K C
  nB : NoAttr K C "begun"
  nL : NoAttr K C "first_lean"
  nH : NoAttr K C "hung_on"
  nC : NoAttr K C "changes"
  mgC : mg "Tree" = some (.ref C)
  len : mg "len" = none
  range : mg "range" = none
  list : mg "list" = none
  abs : mg "abs" = none
  sum : mg "sum" = none
  min : mg "min" = none
  max : mg "max" = none
  sorted : mg "sorted" = none
  reversed : mg "reversed" = none
section
variable {P : Program} {w : World} {K : PySem.W.Frag} {mg : Str → Option Value} {base : Heap} {C : Addr}

noncomputable def spCount (C : Addr) : Sp := fun vs H Q _ => ∃ (t : Addr) (a : Abs), vs = [.ref t] ∧ Tr C H t a ∧ Q (.int (a.n : Int)) H
theorem scCount : FnScope ["self"] ["self"] (defScope sCount) := ⟨rfl, rfl, rfl, by decide +kernel, rfl, by decide +kernel, by decide +kernel⟩
theorem ok_count {f : Addr} {fd : FuncData} (F : Fun K "part_count" "Tree.part_count" sCount f fd) (T : Txt K mg C) : FnOk P w K mg base CX0 1 f fd ["self"] (spCount C) := by
  refine F.ok scCount (fun vs H Q E h => ?_) (fun cdv A outer s H vs Q E hr h => ?_)
  · obtain ⟨t, a, rfl, _⟩ := h
    rfl
  · obtain ⟨t, a, rfl, ⟨dx, h, c, tr⟩, k⟩ := h
    refine ⟨_, pss_one (ps_ret (pe_callB call_len_seq (by rfl) T.len PySem.boot_len (pa_cons (pe_fld (pv 0) rfl) pa_nil))), ?_⟩
    refine ⟨_, rfl, t, C, dx, _, _, rfl, tr.ins, T.cl, T.nH, tf_hung, h, _, rfl, .inl (SqL.of tr.hu), ?_⟩
    rw [hung_len tr.wf]
    exact k

noncomputable def spLoose (C : Addr) : Sp := fun vs H Q _ => ∃ (t : Addr) (a : Abs), vs = [.ref t] ∧ Tr C H t a ∧ ∀ (H' : Hp) (p : Addr), Same H H' → H p = none → H' p = some (.lst (natV a.all_)) → Q (.ref p) H'
theorem scLoose : FnScope ["self"] ["self"] (defScope sLoose) := ⟨rfl, rfl, rfl, by decide +kernel, rfl, by decide +kernel, by decide +kernel⟩
theorem same_upd {H : Hp} {p : Addr} {o : HO} (h : H p = none) : Same H (upd H p o) := fun b u e => by
  rw [upd_ne (ne_of_none e h)]
  exact e
theorem ok_loose {f : Addr} {fd : FuncData} (F : Fun K "loose_parts" "Tree.loose_parts" sLoose f fd) (T : Txt K mg C) : FnOk P w K mg base CX0 1 f fd ["self"] (spLoose C) := by
  refine F.ok scLoose (fun vs H Q E h => ?_) (fun cdv A outer s H vs Q E hr h => ?_)
  · obtain ⟨t, a, rfl, _⟩ := h
    rfl
  · obtain ⟨t, a, rfl, ⟨dx, h, c, tr⟩, k⟩ := h
    refine ⟨_, pss_one (ps_ret (pe_callTy (call_listR rfl) (by rfl) T.list bt_list (pa_cons (pe_callTy call_range2 (by rfl) T.range bt_range (pa_cons pe_int (pa_cons (pe_callB call_len_seq (by rfl) T.len PySem.boot_len (pa_cons (pe_fld (pv 0) rfl) pa_nil)) pa_nil))) pa_nil))), ?_⟩
    refine ⟨_, rfl, t, C, dx, _, _, rfl, tr.ins, T.cl, T.nH, tf_hung, h, _, rfl, .inl (SqL.of tr.hu), _, _, rfl, fun p hp => ?_⟩
    have hn := tr.wf.le
    rw [hung_len tr.wf]
    refine ⟨p, 1, (a.n : Int), rfl, upd_same, ⟨by decide, by decide, by omega, by omega⟩, by omega, fun l hl => ?_⟩
    refine k _ l ((same_upd hp).trans (same_upd hl)) ((same_upd hp).free hl) ?_
    rw [upd_same, natV_range tr.wf]

noncomputable def spOn (C : Addr) : Sp := fun vs H Q _ => ∃ (t : Addr) (a : Abs) (i : Nat), vs = [.ref t, .int (i : Int)] ∧ Tr C H t a ∧ ∀ (H' : Hp) (p : Addr), Same H H' → H p = none → H' p = some (.lst (natV (a.boughs i))) → Q (.ref p) H'
theorem scOn : FnScope ["self", "part", "bough"] ["self", "part"] (defScope sOn) := ⟨rfl, rfl, rfl, by decide +kernel, rfl, by decide +kernel, by decide +kernel⟩
noncomputable def onP (a : Abs) (i : Nat) (x : V) : Bool := match x with
  | .int z => decide (((a.part z.toNat).on : Int) = (i : Int))
  | _ => false
theorem on_filter (a : Abs) (i : Nat) : ((natV a.all_).filter (onP a i)).map (fun x => x) = natV (a.boughs i) := by
  rw [List.map_id', Lk.boughs_eq]
  unfold natV
  rw [List.filter_map]
  congr 1
  refine List.filter_congr fun j _ => ?_
  show decide (((a.part (j : Int).toNat).on : Int) = (i : Int)) = ((a.part j).on == i)
  rw [Int.toNat_natCast, Bool.eq_iff_iff]
  simp
  omega
theorem ok_on {f : Addr} {fd : FuncData} (F : Fun K "boughs_on" "Tree.boughs_on" sOn f fd) (T : Txt K mg C) (GL : MCallee P w K mg base C 1 "loose_parts" ["self"] (spLoose C)) : FnOk P w K mg base CX0 2 f fd ["self", "part"] (spOn C) := by
  refine F.ok scOn (fun vs H Q E h => ?_) (fun cdv A outer s H vs Q E hr h => ?_)
  · obtain ⟨t, a, i, rfl, _⟩ := h
    rfl
  · obtain ⟨t, a, i, rfl, tr0, k⟩ := h
    refine ⟨_, pss_one (ps_ret (pe_lc (own := [("bough", 2)]) (tt := tTest (tOp rEq (tOp (rIxL K) (tFld K (tVar 0) "hung_on") (tVar 2)) (tVar 1))) rfl scOn.nd (pi_list (pe_methC0 GL T.cl hr (pv 0))) (blkOk_by (by show blkC ["self", "part", "bough"] (defScope sOn) _ _ = true; decide +kernel)) (fun _ _ _ _ _ => pg_name (i := 2) scOn.nd rfl (Or.inl rfl))
      (fun _ _ _ _ _ => pts_one (pt_cmpR op_eq (pe_ix ix_list (pe_fld (pv 0) rfl) (pv 2) (fun _ _ => rfl)) (pv 1) (nomark _))) (fun _ _ _ _ _ => pv 2))), ?_⟩
    obtain ⟨dx, h, c, tr⟩ := id tr0
    refine ⟨_, rfl, t, dx, _, rfl, tr.ins, rfl, t, a, rfl, tr0, fun H1 p s1 hp hl => ⟨p, rfl, ⟨_, SqL.of hl⟩, fun D hD => ?_⟩⟩
    refine lc_same (K := K) (onP a i) (fun x => x) (SqL.of hl) (by rw [len_natV, all_len]; exact small9 (by have := tr.wf.le; omega)) hD (fun j x H2 acc Nx hj s2 hacc kk => ?_) fun H2 s2 hq => ?_
    · obtain ⟨m, hm, rfl⟩ := natV_at hj
      obtain ⟨m0, m1⟩ := Lk.mem_all.mp (List.mem_of_getElem? hm)
      have tr2 : H2 t = _ := s2 _ _ (s1 _ _ tr.ins)
      have hu2 : H2 h = _ := s2 _ _ (s1 _ _ tr.hu)
      have kk' := kk H2 (Same.refl _)
      refine ⟨rfl, _, rfl, t, C, dx, _, _, rfl, tr2, T.cl, T.nH, tf_hung, _, rfl, h, _, _, _, rfl, rfl, SqL.of hu2, atI_nat (hung_at m0 m1), _, rfl, rfl, _, rfl, ?_⟩
      have e1 : onP a i (V.int (m : Int)) = decide (V.int ((a.part m).on : Int) = V.int (i : Int)) := by
        show decide (((a.part (m : Int).toNat).on : Int) = (i : Int)) = _
        rw [Int.toNat_natCast, Bool.eq_iff_iff]
        simp
      rw [e1] at kk'
      refine ite2 (fun q => ?_) fun q => ?_
      · rw [if_pos q] at kk'
        exact ⟨_, rfl, kk'⟩
      · rw [if_neg q] at kk'
        exact kk'
    · rw [on_filter] at hq
      exact k H2 D (s1.trans s2) (s1.free hD) hq
end
end Le

end
section
set_option Elab.async false
set_option linter.all false
set_option maxRecDepth 100000
set_option maxHeartbeats 4000000
namespace Le
open PySem PySem.Spec PyProof.Rows L2
open Kv374 (Abs Part)
theorem and_nat (m b : Nat) : Builtin.bitAnd (m : Int) (b : Int) = ((m &&& b : Nat) : Int) := by
  unfold Builtin.bitAnd
  rw [decide_eq_true (Int.natCast_nonneg m), decide_eq_true (Int.natCast_nonneg b)]
  rfl
theorem or_bit {m i : Nat} (hi : 0 < i) (h : Kv374.has m i = false) : Builtin.bitOr (m : Int) ((2 ^ (i - 1) : Nat) : Int) = ((Kv374.add m i : Nat) : Int) := by
  rw [bitOr_and, and_nat, (Lk.bit_test hi).mpr h]
  unfold Kv374.add
  omega

noncomputable abbrev sHow : Stmt := top 6
noncomputable abbrev sBit : Stmt := top 7
noncomputable abbrev sBits : Stmt := top 8
noncomputable abbrev sBoP : Stmt := top 9
noncomputable abbrev sMay : Stmt := top 10
noncomputable abbrev sWhen : Stmt := top 11
noncomputable abbrev sFrom : Stmt := top 12
noncomputable abbrev sFar : Stmt := top 13
noncomputable abbrev sBeg : Stmt := top 14
noncomputable abbrev sOrd : Stmt := top 15
noncomputable abbrev sCnt : Stmt := top 16
noncomputable abbrev sNext : Stmt := top 17
noncomputable def Cst (mg : Str → Option Value) (x : Str) (z : Int) : Prop := ∃ t, mg x = some (Value.int z t)
theorem pe_cst {X : Cx} {x : Str} {z : Int} {pos : Pos} (c : Cst X.mg x z) (hg : Gl X x) (hd : (x == ("__debug__" : Str)) = false := by decide) : PE X (.Name x pos) (tC (.int z)) := by
  obtain ⟨t, e⟩ := c
  exact pe_glob hg e ⟨t, rfl⟩ hd
section
variable {P : Program} {w : World} {K : PySem.W.Frag} {mg : Str → Option Value} {base : Heap} {C : Addr}

noncomputable def spHow : Sp := fun vs H Q _ => ∃ (l : Int) (side : Nat), vs = [.int l, .int (side : Int)] ∧ Q (.int (Kv374.far side l)) H
theorem scHow : FnScope ["lean", "side"] ["lean", "side"] (defScope sHow) := ⟨rfl, rfl, rfl, by decide +kernel, rfl, by decide +kernel, by decide +kernel⟩
theorem dec_side {side k : Nat} : (decide (V.int (side : Int) = V.int (k : Int)) = true) ↔ side = k := by
  simp
  omega
theorem ok_how {f : Addr} {fd : FuncData} (F : Fun K "how_far" "how_far" sHow f fd) (T : Txt K mg C) (cR : Cst mg "RIGHT" 0) (cL : Cst mg "LEFT" 1) : FnOk P w K mg base CX0 1 f fd ["lean", "side"] spHow := by
  refine F.ok scHow (fun vs H Q E h => ?_) (fun cdv A outer s H vs Q E hr h => ?_)
  · obtain ⟨l, side, rfl, _⟩ := h
    rfl
  · obtain ⟨l, side, rfl, k⟩ := h
    refine ⟨_, pss_cons (ps_if (pt_cmpR op_eq (pv 1) (pe_cst cR rfl) (nomark _)) (pss_one (ps_ret (pv 0))) pss_nil)
      (pss_cons (ps_if (pt_cmpR op_eq (pv 1) (pe_cst cL rfl) (nomark _)) (pss_one (ps_ret (pe_un un_neg (pv 0)))) pss_nil)
      (pss_one (ps_ret (pe_callB call_abs (by rfl) T.abs bt_abs (pa_cons (pv 0) pa_nil))))), ?_⟩
    unfold Kv374.far at k
    refine ⟨_, rfl, rfl, _, rfl, ite2 (fun q => ?_) fun q => ?_⟩
    · rw [if_pos (dec_side.mp q)] at k
      exact ⟨_, rfl, k⟩
    · rw [if_neg fun e => q (dec_side.mpr e)] at k
      refine ⟨_, rfl, rfl, _, rfl, ite2 (fun q => ?_) fun q => ?_⟩
      · rw [if_pos (dec_side.mp q)] at k
        exact ⟨_, rfl, _, rfl, k⟩
      · rw [if_neg fun e => q (dec_side.mpr e)] at k
        refine ⟨_, rfl, _, rfl, ?_⟩
        have e : (if l < 0 then -l else l) = (l.natAbs : Int) := by split <;> omega
        rw [e]
        exact k

noncomputable def spBit : Sp := fun vs H Q _ => ∃ i : Nat, vs = [.int (i : Int)] ∧ 0 < i ∧ i ≤ 9 ∧ Q (.int ((2 ^ (i - 1) : Nat) : Int)) H
theorem scBit : FnScope ["part"] ["part"] (defScope sBit) := ⟨rfl, rfl, rfl, by decide +kernel, rfl, by decide +kernel, by decide +kernel⟩
theorem ok_bit {f : Addr} {fd : FuncData} (F : Fun K "bit_of" "bit_of" sBit f fd) : FnOk P w K mg base CX0 1 f fd ["part"] spBit := by
  refine F.ok scBit (fun vs H Q E h => ?_) (fun cdv A outer s H vs Q E hr h => ?_)
  · obtain ⟨i, rfl, _⟩ := h
    rfl
  · obtain ⟨i, rfl, h0, h9, k⟩ := h
    refine ⟨_, pss_one (ps_ret (pe_op op_shl pe_int (pe_op op_sub (pv 0) pe_int))), ?_⟩
    refine ⟨_, rfl, _, _, rfl, rfl, _, _, rfl, rfl, ⟨by omega, by omega, by decide⟩, ?_⟩
    have e : (1 : Int) * 2 ^ (((i : Int) - 1).toNat) = ((2 ^ (i - 1) : Nat) : Int) := by
      rw [Int.one_mul, show ((i : Int) - 1).toNat = i - 1 by omega, Int.natCast_pow]
      rfl
    show Q (V.int ((1 : Int) * 2 ^ (((i : Int) - 1).toNat))) H
    rw [e]
    exact k
noncomputable def bitF (x : V) : V := match x with
  | .int z => .int ((2 ^ (z.toNat - 1) : Nat) : Int)
  | v => v
theorem map_bitF (l : List Nat) : ((natV l).filter fun _ => true).map bitF = (l.map fun i => ((2 ^ (i - 1) : Nat) : Int)).map V.int := by
  rw [List.filter_eq_self.mpr (fun _ _ => rfl)]
  unfold natV
  rw [List.map_map, List.map_map]
  rfl
theorem sum_bits : ∀ l : List Nat, (l.map fun i => ((2 ^ (i - 1) : Nat) : Int)).sum = ((Lk.bsum l : Nat) : Int)
  | [] => rfl
  | i :: l => by
    rw [List.map_cons, List.sum_cons, sum_bits l, Lk.bsum_cons]
    omega
noncomputable def spBits (K : PySem.W.Frag) : Sp := fun vs H Q _ => ∃ (p : Addr) (l : List Nat), vs = [.ref p] ∧ SqL K H p (natV l) ∧ l.length ≤ 9 ∧ (∀ i ∈ l, 0 < i ∧ i ≤ 9) ∧ ∀ H', Same H H' → Q (.int ((Lk.bsum l : Nat) : Int)) H'
theorem scBits : FnScope ["parts", "part"] ["parts"] (defScope sBits) := ⟨rfl, rfl, rfl, by decide +kernel, rfl, by decide +kernel, by decide +kernel⟩
theorem ok_bits {f : Addr} {fd : FuncData} (F : Fun K "bits_of" "bits_of" sBits f fd) (T : Txt K mg C) (GB : Callee P w K mg base 1 "bit_of" ["part"] spBit) : FnOk P w K mg base CX0 2 f fd ["parts"] (spBits K) := by
  refine F.ok scBits (fun vs H Q E h => ?_) (fun cdv A outer s H vs Q E hr h => ?_)
  · obtain ⟨p, l, rfl, _⟩ := h
    rfl
  · obtain ⟨p, l, rfl, hp, hlen, hpos, k⟩ := h
    refine ⟨_, pss_one (ps_ret (pe_callB (cr_sum rfl) (by rfl) T.sum bt_sum (pa_cons (pe_lc (own := [("part", 1)]) (te := tCall spBit [] E0 (tCons (tVar 1) tNil)) rfl scBits.nd (pi_list (pv 0)) (blkOk_by (by show blkC ["parts", "part"] (defScope sBits) _ _ = true; decide +kernel))
      (fun _ _ _ _ _ => pg_name (i := 1) scBits.nd rfl (Or.inl rfl)) (fun _ _ _ _ _ => pts_nil) (fun _ _ _ _ _ => pe_callC GB hr rfl (pa_cons (pv 1) pa_nil))) pa_nil))), ?_⟩
    refine ⟨_, rfl, p, rfl, ⟨_, hp⟩, fun D hD => ?_⟩
    refine lc_same (K := K) (fun _ => true) bitF hp (by rw [len_natV]; exact small9 hlen) hD (fun j x H2 acc Nx hj s2 hacc kk => ?_) fun H2 s2 hq => ?_
    · obtain ⟨m, hm, rfl⟩ := natV_at hj
      obtain ⟨m0, m1⟩ := hpos m (List.mem_of_getElem? hm)
      have kk' := kk H2 (Same.refl _)
      rw [if_pos rfl] at kk'
      exact ⟨rfl, iteT (B := Nx H2) ⟨_, rfl, m, rfl, m0, m1, kk'⟩⟩
    · rw [map_bitF] at hq
      refine ⟨D, _, rfl, SqL.of hq, ?_⟩
      rw [sum_bits]
      exact k H2 s2

noncomputable def hangV (a : Abs) : List V := (List.range a.n).map fun (i : Nat) => V.int ((Lk.bsum (a.boughs i) : Nat) : Int)
noncomputable def spBoP (C : Addr) : Sp := fun vs H Q _ => ∃ (t : Addr) (a : Abs), vs = [.ref t] ∧ Tr C H t a ∧ ∀ (H' : Hp) (p : Addr), Same H H' → H p = none → H' p = some (.lst (hangV a)) → Q (.ref p) H'
theorem scBoP : FnScope ["tree", "part"] ["tree"] (defScope sBoP) := ⟨rfl, rfl, rfl, by decide +kernel, rfl, by decide +kernel, by decide +kernel⟩
noncomputable def hangF (a : Abs) (z : Int) : V := .int ((Lk.bsum (a.boughs z.toNat) : Nat) : Int)
theorem map_hangF (a : Abs) : (((List.range a.n).map fun (k : Nat) => (0 : Int) + (k : Int)).filter fun _ => true).map (hangF a) = hangV a := by
  rw [List.filter_eq_self.mpr (fun _ _ => rfl), List.map_map]
  refine List.map_congr_left fun k _ => ?_
  show hangF a (0 + (k : Int)) = _
  unfold hangF
  rw [show ((0 : Int) + (k : Int)).toNat = k by omega]
theorem boughs_ok {a : Abs} (W : Lk.WF a) (i : Nat) : ∀ j ∈ a.boughs i, 0 < j ∧ j ≤ 9 := fun j hj => by
  have := (Lk.mem_boughs.mp hj).1
  have := W.le
  omega
theorem ok_bop {f : Addr} {fd : FuncData} (F : Fun K "bits_on_parts" "bits_on_parts" sBoP f fd) (T : Txt K mg C) (GB : Callee P w K mg base 2 "bits_of" ["parts"] (spBits K)) (GO : MCallee P w K mg base C 2 "boughs_on" ["self", "part"] (spOn C))
    (GC : MCallee P w K mg base C 1 "part_count" ["self"] (spCount C)) : FnOk P w K mg base CX0 3 f fd ["tree"] (spBoP C) := by
  refine F.ok scBoP (fun vs H Q E h => ?_) (fun cdv A outer s H vs Q E hr h => ?_)
  · obtain ⟨t, a, rfl, _⟩ := h
    rfl
  · obtain ⟨t, a, rfl, tr0, k⟩ := h
    have hr1 : Room 1 _ := hr.mono (by decide)
    refine ⟨_, pss_one (ps_ret (pe_lc (own := [("part", 1)]) (te := tCall (spBits K) [] E0 (tCons (tMeth C "boughs_on" (spOn C) [] E0 (tVar 0) (tCons (tVar 1) tNil)) tNil)) rfl scBoP.nd
      (pi_range1 rfl T.range (pa_cons (pe_methC0 GC T.cl hr1 (pv 0)) pa_nil)) (blkOk_by (by show blkC ["tree", "part"] (defScope sBoP) _ _ = true; decide +kernel))
      (fun _ _ _ _ _ => pg_name (i := 1) scBoP.nd rfl (Or.inl rfl)) (fun _ _ _ _ _ => pts_nil) (fun _ _ _ _ _ => pe_callC GB hr rfl (pa_cons (pe_methC GO T.cl hr (pv 0) (pa_cons (pv 1) pa_nil)) pa_nil)))), ?_⟩
    obtain ⟨dx, h, c, tr⟩ := id tr0
    have hn := tr.wf.le
    refine ⟨_, rfl, t, dx, _, rfl, tr.ins, rfl, t, a, rfl, tr0, _, rfl, by omega, by omega, fun D hD => ?_⟩
    rw [Int.toNat_natCast]
    refine lc_rsame (fun _ => true) (hangF a) (small9 hn) hD (fun j H2 acc Nx hj s2 hacc kk => ?_) fun H2 s2 hq => ?_
    · have tr2 : H2 t = _ := s2 _ _ tr.ins
      refine ⟨rfl, iteT (B := Nx H2) ⟨_, rfl, t, dx, _, rfl, tr2, rfl, _, rfl, t, a, j, by rw [Int.zero_add]; rfl, tr0.same s2, fun H3 p s3 hp hl => ⟨p, _, rfl, SqL.of hl, Nat.le_trans (boughs_len tr.wf j) (by decide), boughs_ok tr.wf j, fun H4 s4 => ?_⟩⟩⟩
      have kk' := kk H4 (s3.trans s4)
      rw [if_pos rfl] at kk'
      unfold hangF at kk'
      rw [show ((0 : Int) + (j : Int)).toNat = j by omega] at kk'
      exact kk'
    · rw [map_hangF] at hq
      exact k H2 D s2 hD hq
end
end Le

end
section
set_option Elab.async false
set_option linter.all false
set_option maxRecDepth 100000
set_option maxHeartbeats 4000000
namespace Le
open PySem PySem.Spec PyProof.Rows L2
open Kv374 (Abs Part has add far)
noncomputable def tTru (K : PySem.W.Frag) (ta : TE) : TT := fun σ H Q => ta σ H fun x H' => ∃ k, TruV K x H' k ∧ Q k H'
theorem pt_tru {X : Cx} {a : Expr} {ta : TE} (ha : PE X a ta) (he : ∀ whole, isTrue a X.env whole = (do let v ← whole; standAt a.pos; holding [v] (truthy v))) : PT X a (tTru X.K ta) := pt_truth ha he
section
variable {P : Program} {w : World} {K : PySem.W.Frag} {mg : Str → Option Value} {base : Heap} {C : Addr}
noncomputable def mayP (a : Abs) (m : Nat) (z : Int) : Bool := !has m z.toNat && (a.boughs z.toNat).all fun j => has m j
theorem may_filter {a : Abs} (W : Lk.WF a) (m : Nat) : (((List.range (a.n - 1)).map fun (k : Nat) => (1 : Int) + (k : Int)).filter (mayP a m)).map V.int = natV (a.next m) := by
  have e : ((List.range (a.n - 1)).map fun (k : Nat) => (1 : Int) + (k : Int)) = a.all_.map fun (i : Nat) => (i : Int) := by
    rw [Lk.all_eq, List.range'_eq_map_range, List.map_map]
    refine List.map_congr_left fun k _ => ?_
    show (1 : Int) + (k : Int) = ((1 + k : Nat) : Int)
    omega
  rw [e, List.filter_map, List.map_map]
  rfl
theorem hang_at {a : Abs} {j : Nat} (h : j < a.n) : (hangV a)[j]? = some (.int ((Lk.bsum (a.boughs j) : Nat) : Int)) := by
  unfold hangV
  rw [List.getElem?_map, List.getElem?_range h]
  rfl
theorem hang_len (a : Abs) : (hangV a).length = a.n := by unfold hangV; rw [List.length_map, List.length_range]
noncomputable abbrev rAndB : R2 := rI0 fun i j => .int (Builtin.bitAnd i j)
noncomputable abbrev rOrB : R2 := rI0 fun i j => .int (Builtin.bitOr i j)
noncomputable def spMay (K : PySem.W.Frag) : Sp := fun vs H Q _ => ∃ (p : Addr) (a : Abs) (m : Nat), vs = [.ref p, .int (m : Int)] ∧ Lk.WF a ∧ SqL K H p (hangV a) ∧ ∀ (H' : Hp) (q : Addr), Same H H' → H q = none → H' q = some (.lst (natV (a.next m))) → Q (.ref q) H'
theorem scMay : FnScope ["hanging", "off", "part"] ["hanging", "off"] (defScope sMay) := ⟨rfl, rfl, rfl, by decide +kernel, rfl, by decide +kernel, by decide +kernel⟩
theorem and_ne {m i : Nat} (hi : 0 < i) : (((m &&& 2 ^ (i - 1) : Nat) : Int) != 0) = has m i := by
  cases e : has m i with
  | false =>
    rw [(Lk.bit_test hi).mpr e]
    rfl
  | true =>
    have : ¬ (m &&& 2 ^ (i - 1) = 0) := fun z => by
      rw [(Lk.bit_test hi).mp z] at e
      cases e
    rw [Bool.eq_iff_iff]
    simp
    omega
theorem and_all {a : Abs} {m i : Nat} : (decide (V.int ((Lk.bsum (a.boughs i) &&& m : Nat) : Int) = V.int ((Lk.bsum (a.boughs i) : Nat) : Int))) = (a.boughs i).all fun j => has m j := by
  have h := Lk.mask_all (Lk.nd_boughs a i) (fun j hj => (Lk.mem_boughs.mp hj).1.1) m
  rw [Bool.eq_iff_iff, List.all_eq_true]
  simp only [decide_eq_true_eq, V.int.injEq]
  rw [← h]
  omega
theorem ok_may {f : Addr} {fd : FuncData} (F : Fun K "may_come_off" "may_come_off" sMay f fd) (T : Txt K mg C) (GB : Callee P w K mg base 1 "bit_of" ["part"] spBit) : FnOk P w K mg base CX0 2 f fd ["hanging", "off"] (spMay K) := by
  refine F.ok scMay (fun vs H Q E h => ?_) (fun cdv A outer s H vs Q E hr h => ?_)
  · obtain ⟨p, a, m, rfl, _⟩ := h
    rfl
  · obtain ⟨p, a, m, rfl, W, hp, k⟩ := h
    refine ⟨_, pss_one (ps_ret (pe_lc (own := [("part", 2)]) (te := tVar 2)
      (tt := tAnd (tNot (tTru K (tOp rAndB (tVar 1) (tCall spBit [] E0 (tCons (tVar 2) tNil))))) (tTest (tOp rEq (tOp rAndB (tOp (rIxL K) (tVar 0) (tVar 2)) (tVar 1)) (tOp (rIxL K) (tVar 0) (tVar 2)))))
      rfl scMay.nd (pi_range2 rfl T.range (pa_cons pe_int (pa_cons (pe_callB call_len_seq (by rfl) T.len PySem.boot_len (pa_cons (pv 0) pa_nil)) pa_nil))) (blkOk_by (by show blkC ["hanging", "off", "part"] (defScope sMay) _ _ = true; decide +kernel))
      (fun _ _ _ _ _ => pg_name (i := 2) scMay.nd rfl (Or.inl rfl))
      (fun _ _ _ _ _ => pts_one (PW.pt (pw_and (pt_not (pt_tru (pe_op op_and (pv 1) (pe_callC GB hr rfl (pa_cons (pv 2) pa_nil))) (fun _ => rfl))) (pw_and1 (pt_cmpR op_eq (pe_op op_and (pe_ix ix_list (pv 0) (pv 2) (fun _ _ => rfl)) (pv 1)) (pe_ix ix_list (pv 0) (pv 2) (fun _ _ => rfl)) (nomark _))))))
      (fun _ _ _ _ _ => pv 2))), ?_⟩
    have hn := W.le
    refine ⟨_, rfl, p, _, rfl, .inl hp, _, _, rfl, ⟨by decide, by decide, by rw [hang_len]; omega, by rw [hang_len]; omega⟩, fun D hD => ?_⟩
    rw [hang_len, show ((a.n : Int) - 1).toNat = a.n - 1 by omega]
    refine lc_rsame (mayP a m) V.int (small9 (by omega)) hD (fun j H2 acc Nx hj s2 hacc kk => ?_) fun H2 s2 hq => ?_
    · have ej : (1 : Int) + (j : Int) = ((j + 1 : Nat) : Int) := by omega
      have kk' := kk H2 (Same.refl _)
      rw [ej] at kk' ⊢
      have hj1 : j + 1 < a.n := by omega
      refine ⟨rfl, _, rfl, _, rfl, j + 1, rfl, by omega, by omega, _, _, rfl, rfl, _, rfl, ?_⟩
      rw [and_nat, and_ne (show 0 < j + 1 by omega)]
      unfold mayP at kk'
      rw [Int.toNat_natCast] at kk'
      cases e : has m (j + 1) with
      | true =>
        rw [e] at kk'
        exact iteF (iteF kk')
      | false =>
        rw [e] at kk'
        refine iteT ⟨_, rfl, _, rfl, p, _, _, _, rfl, rfl, s2.seq hp, atI_nat (hang_at hj1), _, rfl, _, _, rfl, rfl, _, rfl, _, rfl, p, _, _, _, rfl, rfl, s2.seq hp, atI_nat (hang_at hj1), rfl, _, rfl, ?_⟩
        rw [Bool.not_false, Bool.true_and] at kk'
        have ea : (decide (V.int (Builtin.bitAnd ((Lk.bsum (a.boughs (j + 1)) : Nat) : Int) (m : Int)) = V.int ((Lk.bsum (a.boughs (j + 1)) : Nat) : Int))) = (a.boughs (j + 1)).all fun j => has m j := by
          rw [← and_all]
          simp only [and_nat]
        refine ite2 (fun q => ?_) fun q => ?_
        · rw [if_pos (ea.symm.trans q)] at kk'
          exact ⟨_, rfl, kk'⟩
        · rw [if_neg fun z => q (ea.trans z)] at kk'
          exact kk'
    · rw [may_filter W] at hq
      exact k H2 D s2 hD hq

noncomputable def whenP (m : Nat) (x : V) : Bool := match x with
  | .int z => has m z.toNat
  | _ => false
noncomputable def whenF (a : Abs) (x : V) : V := match x with
  | .int z => .int (a.part z.toNat).change
  | v => v
theorem whenP_nat (m i : Nat) : whenP m (V.int (i : Int)) = has m i := rfl
theorem whenF_nat (a : Abs) (i : Nat) : whenF a (V.int (i : Int)) = V.int (a.part i).change := rfl
theorem when_map (a : Abs) (m : Nat) : ((natV a.all_).filter (whenP m)).map (whenF a) = ((a.all_.filter fun i => has m i).map fun i => (a.part i).change).map V.int := by
  unfold natV
  rw [List.filter_map, List.map_map, List.map_map]
  rfl
noncomputable def spWhen (C : Addr) : Sp := fun vs H Q _ => ∃ (t : Addr) (a : Abs) (m : Nat), vs = [.ref t, .int (m : Int)] ∧ Tr C H t a ∧ ∀ H', Same H H' → Q (.int (a.leanAt m)) H'
theorem scWhen : FnScope ["tree", "off", "part"] ["tree", "off"] (defScope sWhen) := ⟨rfl, rfl, rfl, by decide +kernel, rfl, by decide +kernel, by decide +kernel⟩
theorem ok_when {f : Addr} {fd : FuncData} (F : Fun K "lean_when" "lean_when" sWhen f fd) (T : Txt K mg C) (GB : Callee P w K mg base 1 "bit_of" ["part"] spBit) (GL : MCallee P w K mg base C 1 "loose_parts" ["self"] (spLoose C)) :
    FnOk P w K mg base CX0 2 f fd ["tree", "off"] (spWhen C) := by
  refine F.ok scWhen (fun vs H Q E h => ?_) (fun cdv A outer s H vs Q E hr h => ?_)
  · obtain ⟨p, a, m, rfl, _⟩ := h
    rfl
  · obtain ⟨t, a, m, rfl, tr0, k⟩ := h
    refine ⟨_, pss_one (ps_ret (pe_op op_add (pe_fld (pv 0) rfl) (pe_callB (cr_sum rfl) (by rfl) T.sum bt_sum (pa_cons (pe_lc (own := [("part", 2)]) (te := tOp (rIxL K) (tFld K (tVar 0) "changes") (tVar 2))
      (tt := tTru K (tOp rAndB (tVar 1) (tCall spBit [] E0 (tCons (tVar 2) tNil))))
      rfl scWhen.nd (pi_list (pe_methC0 GL T.cl hr (pv 0))) (blkOk_by (by show blkC ["tree", "off", "part"] (defScope sWhen) _ _ = true; decide +kernel))
      (fun _ _ _ _ _ => pg_name (i := 2) scWhen.nd rfl (Or.inl rfl))
      (fun _ _ _ _ _ => pts_one (pt_tru (pe_op op_and (pv 1) (pe_callC GB hr rfl (pa_cons (pv 2) pa_nil))) (fun _ => rfl)))
      (fun _ _ _ _ _ => pe_ix ix_list (pe_fld (pv 0) rfl) (pv 2) (fun _ _ => rfl))) pa_nil)))), ?_⟩
    obtain ⟨dx, h, c, tr⟩ := id tr0
    have hn := tr.wf.le
    refine ⟨_, rfl, t, C, dx, _, _, rfl, tr.ins, T.cl, T.nL, tf_lean, _, rfl, t, dx, _, rfl, tr.ins, rfl, t, a, rfl, tr0, fun H1 q s1 hq0 hl => ⟨q, rfl, ⟨_, SqL.of hl⟩, fun D hD => ?_⟩⟩
    refine lc_same (K := K) (whenP m) (whenF a) (SqL.of hl) (by rw [len_natV, all_len]; exact small9 (by omega)) hD (fun j x H2 acc Nx hj s2 hacc kk => ?_) fun H2 s2 hq => ?_
    · obtain ⟨i, hi, rfl⟩ := natV_at hj
      obtain ⟨m0, m1⟩ := Lk.mem_all.mp (List.mem_of_getElem? hi)
      have kk' := kk H2 (Same.refl _)
      refine ⟨rfl, _, rfl, _, rfl, i, rfl, m0, by omega, _, _, rfl, rfl, _, rfl, ?_⟩
      rw [and_nat, and_ne m0]
      rw [whenP_nat, whenF_nat] at kk'
      refine ite2 (fun e => ?_) fun e => ?_
      · rw [if_pos e] at kk'
        exact ⟨_, rfl, t, C, dx, _, _, rfl, s2 _ _ (s1 _ _ tr.ins), T.cl, T.nC, tf_chg, _, rfl, c, _, _, _, rfl, rfl, SqL.of (s2 _ _ (s1 _ _ tr.ch)), atI_nat (ch_at m1), kk'⟩
      · rw [if_neg e] at kk'
        exact kk'
    · rw [when_map] at hq
      exact ⟨D, _, rfl, SqL.of hq, _, _, rfl, rfl, k H2 (s1.trans s2)⟩
end
end Le

end
section
set_option Elab.async false
set_option linter.all false
set_option maxRecDepth 100000
set_option maxHeartbeats 4000000
namespace Le
open PySem PySem.Spec PyProof.Rows L2
open Kv374 (Abs Part has add far)
theorem bsum_all {a : Abs} (W : Lk.WF a) : Lk.bsum a.all_ = a.full - 1 := by
  have h1 : ∀ i ∈ a.all_, 0 < i ∧ i ≤ a.n - 1 := fun i hi => by
    have := Lk.mem_all.mp hi
    omega
  refine Lk.full_bits (n := a.n - 1) (Lk.bsum_lt (Lk.nd_all a) h1) fun i h0 h2 => ?_
  rw [Lk.has_bsum (Lk.nd_all a) (fun i hi => (h1 i hi).1) i h0]
  exact decide_eq_true (Lk.mem_all.mpr ⟨h0, by have := W.pos; omega⟩)
theorem full_le {a : Abs} (W : Lk.WF a) : a.full ≤ 256 := by
  show 2 ^ (a.n - 1) ≤ 2 ^ 8
  exact Nat.pow_le_pow_right (by decide) (by have := W.le; omega)
theorem set_rep {α : Type} (z x : α) (m : Nat) (t : List α) : (List.replicate (m + 1) z ++ t).set m x = List.replicate m z ++ x :: t := by
  rw [List.replicate_succ', List.append_assoc, List.set_append_right m _ (by simp)]
  simp
theorem set_rep2 {α : Type} (z x y : α) (m : Nat) (t : List α) : (List.replicate m z ++ y :: t).set m x = List.replicate m z ++ x :: t := by
  rw [List.set_append_right m _ (by simp)]
  simp
theorem get_rep {α : Type} (z y : α) (m : Nat) (t : List α) : (List.replicate m z ++ y :: t)[m]? = some y := by
  rw [List.getElem?_append_right (by simp)]
  simp
theorem get_rep2 {α : Type} (z y : α) (m k : Nat) (t : List α) : (List.replicate m z ++ y :: t)[m + 1 + k]? = t[k]? := by
  rw [List.getElem?_append_right (by simp; omega), List.length_replicate, show m + 1 + k - m = k + 1 by omega]
  rfl
noncomputable def intV (l : List Int) : List V := l.map V.int
theorem len_intV (l : List Int) : (intV l).length = l.length := by unfold intV; rw [List.length_map]
theorem intV_at {l : List Int} {i : Nat} {z : Int} (h : l[i]? = some z) : (intV l)[i]? = some (.int z) := by
  unfold intV
  rw [List.getElem?_map, h]
  rfl
theorem intV_set (l : List Int) (i : Nat) (z : Int) : (intV l).set i (.int z) = intV (l.set i z) := by
  unfold intV
  rw [List.map_set]
theorem ixN_nat {n j : Nat} (h : j < n) : ixN n (j : Int) = some j := by
  unfold ixN
  rw [if_pos (by omega), if_pos (by omega), Int.toNat_natCast]
theorem rep_flat (k : Nat) : (List.replicate k [V.int 0]).flatten = intV (List.replicate k 0) := by
  unfold intV
  induction k with
  | zero => rfl
  | succ k ih => rw [List.replicate_succ, List.flatten_cons, ih, List.replicate_succ]; rfl
theorem getD_some {t : List Int} {k : Nat} (h : k < t.length) : t[k]? = some (t.getD k 0) := by
  rw [List.getD_eq_getElem?_getD, List.getElem?_eq_getElem h]
  rfl
theorem cell_min {a : Abs} {side m : Nat} {t : List Int} {x : Int} (h1 : x ∈ (a.next m).map fun i => t.getD (2 ^ (i - 1) - 1) 0) (h2 : ∀ z ∈ (a.next m).map fun i => t.getD (2 ^ (i - 1) - 1) 0, x ≤ z) :
    Lk.cell a side t m = max (far side (a.leanAt m)) x := by
  unfold Lk.cell
  rw [Lk.leastOf_eq h1 h2]
theorem cell_last {a : Abs} {side : Nat} {t : List Int} : Lk.cell a side t (a.full - 1) = far side (a.leanAt (a.full - 1)) := by
  unfold Lk.cell
  rw [Lk.next_nil]
  rfl
section
variable {P : Program} {w : World} {K : PySem.W.Frag} {mg : Str → Option Value} {base : Heap} {C : Addr}
noncomputable def spFrom (K : PySem.W.Frag) (C : Addr) : Sp := fun vs H Q _ => ∃ (t p : Addr) (a : Abs) (side : Nat), vs = [.ref t, .ref p, .int (side : Int)] ∧ Tr C H t a ∧ SqL K H p (hangV a) ∧
  ∀ (H' : Hp) (q : Addr), Same H H' → H q = none → H' q = some (.lst (intV (a.rows side))) → Q (.ref q) H'
theorem scFrom : FnScope ["tree", "hanging", "side", "all_off", "least", "off", "onward", "part"] ["tree", "hanging", "side"] (defScope sFrom) := ⟨rfl, rfl, rfl, by decide +kernel, rfl, by decide +kernel, by decide +kernel⟩
noncomputable def fromF (t : List Int) (x : V) : V := match x with
  | .int z => .int (t.getD (2 ^ (z.toNat - 1) - 1) 0)
  | v => v
theorem fromF_nat (t : List Int) (i : Nat) : fromF t (V.int (i : Int)) = V.int (t.getD (2 ^ (i - 1) - 1) 0) := rfl
theorem map_fromF (t : List Int) (l : List Nat) : ((natV l).filter fun _ => true).map (fromF t) = (l.map fun i => t.getD (2 ^ (i - 1) - 1) 0).map V.int := by
  rw [List.filter_eq_self.mpr (fun _ _ => rfl)]
  unfold natV
  rw [List.map_map, List.map_map]
  rfl
theorem next_len {a : Abs} (W : Lk.WF a) (m : Nat) : (a.next m).length ≤ 8 := by
  unfold Abs.next
  refine Nat.le_trans (List.length_filter_le _ _) ?_
  rw [all_len]
  have := W.le
  omega
theorem ok_from {f : Addr} {fd : FuncData} (F : Fun K "least_from" "least_from" sFrom f fd) (T : Txt K mg C) (GB : Callee P w K mg base 1 "bit_of" ["part"] spBit) (GS : Callee P w K mg base 2 "bits_of" ["parts"] (spBits K))
    (GL : MCallee P w K mg base C 1 "loose_parts" ["self"] (spLoose C)) (GH : Callee P w K mg base 1 "how_far" ["lean", "side"] spHow) (GW : Callee P w K mg base 2 "lean_when" ["tree", "off"] (spWhen C))
    (GM : Callee P w K mg base 2 "may_come_off" ["hanging", "off"] (spMay K)) : FnOk P w K mg base CX0 3 f fd ["tree", "hanging", "side"] (spFrom K C) := by
  refine F.ok scFrom (fun vs H Q E h => ?_) (fun cdv A outer s H vs Q E hr h => ?_)
  · obtain ⟨t, p, a, side, rfl, _⟩ := h
    rfl
  · obtain ⟨t, p, a, side, rfl, tr0, hp, k⟩ := h
    have hr1 : Room 1 _ := hr.mono (by decide)
    have nd := scFrom.nd
    refine ⟨_, pss_cons (ps_set (i := 3) nd rfl (Or.inl rfl) (pe_callC GS hr rfl (pa_cons (pe_methC0 GL T.cl hr1 (pv 0)) pa_nil)))
      (pss_cons (ps_set (i := 4) nd rfl (Or.inr rfl) (pe_op op_rep (pe_lst (pa_cons pe_int pa_nil)) (pe_op op_add (pv 3) pe_int)))
      (pss_cons (ps_for PassesOwn.never rfl (pi_range3 rfl T.range (pa_cons (pv 3) (pa_cons (pe_un un_neg pe_int) (pa_cons (pe_un un_neg pe_int) pa_nil)))) (pg_name (i := 5) nd rfl (Or.inr rfl))
        (pss_cons (ps_asg (pe_callC GH hr1 rfl (pa_cons (pe_callC GW hr rfl (pa_cons (pv 0) (pa_cons (pv 5) pa_nil))) (pa_cons (pv 2) pa_nil))) (pg_sub (pv 4) (pv 5) set_list))
        (pss_one (ps_if (pt_cmpR op_ne (pv 5) (pv 3) (nomark _))
          (pss_cons (ps_set (i := 6) nd rfl (Or.inl rfl) (pe_callB (cr_min rfl) (by rfl) T.min bt_min (pa_cons (pe_lc (own := [("part", 7)]) (te := tOp (rIxL K) (tVar 4) (tOp rOrB (tVar 5) (tCall spBit [] E0 (tCons (tVar 7) tNil))))
            rfl nd (pi_list (pe_callC GM hr rfl (pa_cons (pv 1) (pa_cons (pv 5) pa_nil)))) (blkOk_by (by show blkC ["tree", "hanging", "side", "all_off", "least", "off", "onward", "part"] (defScope sFrom) _ _ = true; decide +kernel))
            (fun _ _ _ _ _ => pg_name (i := 7) nd rfl (Or.inl rfl)) (fun _ _ _ _ _ => pts_nil) (fun _ _ _ _ _ => pe_ix ix_list (pv 4) (pe_op op_or (pv 5) (pe_callC GB hr1 rfl (pa_cons (pv 7) pa_nil))) (fun _ _ => rfl))) pa_nil)))
          (pss_one (ps_asg (pe_callB (call_max2 rfl) (by rfl) T.max bt_max (pa_cons (pe_ix ix_list (pv 4) (pv 5) (fun _ _ => rfl)) (pa_cons (pv 6) pa_nil))) (pg_sub (pv 4) (pv 5) set_list))))
          pss_nil))))
      (pss_one (ps_ret (pv 4))))), ?_⟩
    obtain ⟨dx, h, c, tr⟩ := id tr0
    have W := tr.wf
    have hfl := full_le W
    have hfp := Lk.full_pos a
    refine ⟨_, rfl, t, dx, _, rfl, tr.ins, rfl, t, a, rfl, tr0, fun H1 q1 s1 hq1 hl1 => ⟨q1, _, rfl, SqL.of hl1, by rw [all_len]; have := W.le; omega, fun i hi => by have := Lk.mem_all.mp hi; have := W.le; omega, fun H2 s2 => ?_⟩⟩
    rw [bsum_all W]
    have s12 := s1.trans s2
    refine ⟨by show 1 ≤ sizeLine; decide, fun q0 hq0 => ⟨_, rfl, _, _, rfl, rfl, q0, _, _, rfl, rfl, upd_same, by omega, by omega, ?_, fun L hL => ?_⟩⟩
    · rw [sizeLine_eq]
      show 1 * _ ≤ _
      omega
    have eN : (((a.full - 1 : Nat) : Int) + 1).toNat = a.full := by omega
    rw [eN, rep_flat]
    have s3 : Same H (upd H2 q0 (.lst [V.int 0])) := s12.trans (same_upd hq0)
    have hLH : H L = none := s3.free hL
    have s4 : Same H (upd (upd H2 q0 (.lst [V.int 0])) L (.lst (intV (List.replicate a.full 0)))) := s3.trans (same_upd hL)
    refine ⟨_, rfl, _, rfl, _, rfl, ((a.full - 1 : Nat) : Int), -1, -1, a.full, rfl, ?_, for_rangeC (fun i σ H' => i ≤ a.full ∧ ∃ v5 v6 : Option V, σ = [some (.ref t), some (.ref p), some (.int (side : Int)), some (.int ((a.full - 1 : Nat) : Int)), some (.ref L), v5, v6, none] ∧ Same H H' ∧
      H' L = some (.lst (intV (List.replicate (a.full - i) 0 ++ a.table side i)))) ⟨Nat.zero_le _, none, none, rfl, s4, ?_⟩ ?_ ?_⟩
    · have := RgC.neg (i := ((a.full - 1 : Nat) : Int)) (j := -1) (by omega) (by omega) (by omega) (by omega)
      rw [show (((a.full - 1 : Nat) : Int) - -1).toNat = a.full by omega] at this
      exact this
    · rw [upd_same]
      show _ = some (HO.lst (intV (List.replicate a.full 0 ++ [])))
      rw [List.append_nil]
    · rintro i σ H5 hi ⟨_, v5, v6, rfl, s5, hL5⟩
      obtain ⟨m, hm⟩ : ∃ m, a.full - i = m + 1 := ⟨a.full - i - 1, by omega⟩
      have em : ((a.full - 1 : Nat) : Int) + (i : Nat) * (-1) = (m : Int) := by omega
      rw [em]
      rw [hm] at hL5
      have hmf : m < a.full := by omega
      have etl : (a.table side i).length = i := Lk.table_len a side i
      have hts : a.table side (i + 1) = Lk.cell a side (a.table side i) m :: a.table side i := by
        rw [Lk.table_succ, show a.full - (i + 1) = m by omega]
      refine ⟨_, rfl, _, rfl, t, a, m, rfl, tr0.same s5, fun H6 s6 => ⟨_, rfl, _, side, rfl, ?_⟩⟩
      have hL6 := s6 _ _ hL5
      refine ⟨_, rfl, _, rfl, L, _, _, m, rfl, rfl, hL6, ixN_nat (by rw [len_intV, List.length_append, List.length_replicate]; omega), ?_⟩
      rw [intV_set, set_rep]
      generalize hx : far side (a.leanAt m) = x
      have s7 : Same H (upd H6 L (.lst (intV (List.replicate m 0 ++ x :: a.table side i)))) := fun b o e => by
        rw [upd_ne (ne_of_none e hLH)]
        exact s6 _ _ (s5 _ _ e)
      have hL7 : (upd H6 L (.lst (intV (List.replicate m 0 ++ x :: a.table side i)))) L = some (.lst (intV (List.replicate m 0 ++ x :: a.table side i))) := upd_same
      generalize (upd H6 L (.lst (intV (List.replicate m 0 ++ x :: a.table side i)))) = H7 at s7 hL7
      refine ⟨_, rfl, _, rfl, rfl, _, rfl, ite2 (fun e => ?_) fun e => ?_⟩
      · have hne : m ≠ a.full - 1 := fun z => by
          rw [z] at e
          simp at e
        refine ⟨_, rfl, _, rfl, p, a, m, rfl, W, s7.seq hp, fun H8 q8 s8 hq8 hl8 => ⟨q8, rfl, ⟨_, SqL.of hl8⟩, fun D hD => ?_⟩⟩
        refine lc_same (K := K) (fun _ => true) (fromF (a.table side i)) (SqL.of hl8) (by rw [len_natV]; exact small9 (Nat.le_trans (next_len W m) (by decide))) hD (fun j y H9 acc Nx hj s9 hacc kk => ?_) fun H9 s9 hq9 => ?_
        · obtain ⟨b, hb, rfl⟩ := natV_at hj
          obtain ⟨⟨b0, b1⟩, b2, _⟩ := Lk.mem_next.mp (List.mem_of_getElem? hb)
          have kk' := kk H9 (Same.refl _)
          rw [if_pos rfl, fromF_nat] at kk'
          have hadd := (Lk.next_add hmf (List.mem_of_getElem? hb)).1
          refine ⟨rfl, iteT (B := Nx H9) ⟨_, rfl, _, rfl, _, rfl, b, rfl, b0, by have := W.le; omega, _, _, rfl, rfl, L, _, _, _, rfl, rfl, SqL.of (s9 _ _ (s8 _ _ hL7)), ?_, kk'⟩⟩
          show atI _ (Builtin.bitOr (m : Int) ((2 ^ (b - 1) : Nat) : Int)) = _
          rw [or_bit b0 b2]
          refine atI_nat (intV_at ?_)
          rw [← Lk.bit_ix, get_rep2]
          refine getD_some ?_
          rw [etl]
          have := Lk.bit_ix (m := m) (i := b)
          omega
        · rw [map_fromF] at hq9
          refine ⟨D, _, rfl, SqL.of hq9, ?_, fun y hy1 hy2 => ?_⟩
          · rw [List.length_map]
            obtain ⟨i0, hi0⟩ := Lk.next_ne W hmf hne
            exact List.length_pos_of_mem hi0
          have hL9 := s9 _ _ (s8 _ _ hL7)
          refine ⟨_, rfl, _, rfl, L, _, _, _, rfl, rfl, SqL.of hL9, atI_nat (intV_at (get_rep 0 x m _)), _, rfl, _, _, rfl, _, rfl, _, rfl, L, _, _, m, rfl, rfl, hL9, ixN_nat (by rw [len_intV, List.length_append, List.length_replicate, List.length_cons]; omega), ?_⟩
          rw [intV_set, set_rep2]
          have ec : (if y > x then y else x) = Lk.cell a side (a.table side i) m := by
            rw [cell_min hy1 hy2, hx]
            split <;> omega
          rw [ec, ← hts]
          refine ⟨by omega, _, _, rfl, fun b o e => ?_, ?_⟩
          · rw [upd_ne (ne_of_none e hLH)]
            exact s9 _ _ (s8 _ _ (s7 _ _ e))
          · rw [upd_same, show a.full - (i + 1) = m by omega]
      · have he : m = a.full - 1 := by
          simp at e
          omega
        refine ⟨by omega, _, _, rfl, s7, ?_⟩
        rw [hL7, hts, show a.full - (i + 1) = m by omega, he, cell_last, ← he, hx]
    · rintro σ H5 ⟨_, v5, v6, rfl, s5, hL5⟩
      rw [Nat.sub_self] at hL5
      exact ⟨_, rfl, k H5 L s5 hLH hL5⟩

noncomputable def spFar (C : Addr) : Sp := fun vs H Q _ => ∃ (t : Addr) (a : Abs) (side : Nat), vs = [.ref t, .int (side : Int)] ∧ Tr C H t a ∧ ∀ H', Same H H' → Q (.int (a.least side)) H'
theorem scFar : FnScope ["tree", "side"] ["tree", "side"] (defScope sFar) := ⟨rfl, rfl, rfl, by decide +kernel, rfl, by decide +kernel, by decide +kernel⟩
theorem rows_get {a : Abs} {side m : Nat} (h : m < a.full) : (intV (a.rows side))[m]? = some (.int ((a.rows side).getD m 0)) := intV_at (getD_some (by rw [Lk.rows_len]; exact h))
theorem ok_far {f : Addr} {fd : FuncData} (F : Fun K "least_far" "least_far" sFar f fd) (GF : Callee P w K mg base 3 "least_from" ["tree", "hanging", "side"] (spFrom K C)) (GB : Callee P w K mg base 3 "bits_on_parts" ["tree"] (spBoP C)) :
    FnOk P w K mg base CX0 4 f fd ["tree", "side"] (spFar C) := by
  refine F.ok scFar (fun vs H Q E h => ?_) (fun cdv A outer s H vs Q E hr h => ?_)
  · obtain ⟨t, a, side, rfl, _⟩ := h
    rfl
  · obtain ⟨t, a, side, rfl, tr0, k⟩ := h
    refine ⟨_, pss_one (ps_ret (pe_ix ix_list (pe_callC GF hr rfl (pa_cons (pv 0) (pa_cons (pe_callC GB hr rfl (pa_cons (pv 0) pa_nil)) (pa_cons (pv 1) pa_nil)))) pe_int (fun _ _ => rfl))), ?_⟩
    refine ⟨_, rfl, _, rfl, t, a, rfl, tr0, fun H1 p s1 hp hl => ⟨_, rfl, t, p, a, side, rfl, tr0.same s1, SqL.of hl, fun H2 q s2 hq hl2 => ?_⟩⟩
    exact ⟨q, _, _, _, rfl, rfl, SqL.of hl2, atI_nat (j := 0) (rows_get (Lk.full_pos a)), k H2 (s1.trans s2)⟩
end
end Le

end
section
set_option Elab.async false
set_option linter.all false
set_option maxRecDepth 100000
set_option maxHeartbeats 4000000
namespace Le
open PySem PySem.Spec PyProof.Rows L2
open Kv374 (Abs Part has add far)
noncomputable abbrev sLeans : Stmt := top 4
noncomputable abbrev sSoon : Stmt := top 5
section
variable {P : Program} {w : World} {K : PySem.W.Frag} {mg : Str → Option Value} {base : Heap} {C : Addr}
noncomputable def spOrd (C : Addr) : Sp := fun vs H Q _ => ∃ (t : Addr) (a : Abs) (side : Nat), vs = [.ref t, .int (side : Int)] ∧ Tr C H t a ∧
  ∀ (H' : Hp) (q : Addr), Same H H' → H q = none → H' q = some (.lst (natV (a.first side))) → Q (.ref q) H'
theorem scOrd : FnScope ["tree", "side", "hanging", "least", "order", "off", "step", "good", "part"] ["tree", "side"] (defScope sOrd) := ⟨rfl, rfl, rfl, by decide +kernel, rfl, by decide +kernel, by decide +kernel⟩
noncomputable def goodP (a : Abs) (side m : Nat) (x : V) : Bool := match x with
  | .int z => decide ((a.rows side).getD (add m z.toNat) 0 ≤ a.least side)
  | _ => false
theorem goodP_nat (a : Abs) (side m i : Nat) : goodP a side m (V.int (i : Int)) = decide ((a.rows side).getD (add m i) 0 ≤ a.least side) := rfl
theorem good_map (a : Abs) (side m : Nat) : ((natV (a.next m)).filter (goodP a side m)).map (fun x => x) = natV ((a.next m).filter fun i => decide ((a.rows side).getD (add m i) 0 ≤ a.least side)) := by
  rw [List.map_id']
  unfold natV
  rw [List.filter_map]
  rfl
theorem ok_ord {f : Addr} {fd : FuncData} (F : Fun K "least_order" "least_order" sOrd f fd) (T : Txt K mg C) (GB : Callee P w K mg base 1 "bit_of" ["part"] spBit) (GP : Callee P w K mg base 3 "bits_on_parts" ["tree"] (spBoP C))
    (GF : Callee P w K mg base 3 "least_from" ["tree", "hanging", "side"] (spFrom K C)) (GL : MCallee P w K mg base C 1 "loose_parts" ["self"] (spLoose C)) (GM : Callee P w K mg base 2 "may_come_off" ["hanging", "off"] (spMay K)) :
    FnOk P w K mg base CX0 4 f fd ["tree", "side"] (spOrd C) := by
  refine F.ok scOrd (fun vs H Q E h => ?_) (fun cdv A outer s H vs Q E hr h => ?_)
  · obtain ⟨t, a, side, rfl, _⟩ := h
    rfl
  · obtain ⟨t, a, side, rfl, tr0, k⟩ := h
    have hr1 : Room 1 _ := hr.mono (by decide)
    have hr2 : Room 2 _ := hr.mono (by decide)
    have nd := scOrd.nd
    refine ⟨_, pss_cons (ps_set (i := 2) nd rfl (Or.inl rfl) (pe_callC GP hr rfl (pa_cons (pv 0) pa_nil)))
      (pss_cons (ps_set (i := 3) nd rfl (Or.inr rfl) (pe_callC GF hr rfl (pa_cons (pv 0) (pa_cons (pv 2) (pa_cons (pv 1) pa_nil)))))
      (pss_cons (ps_set (i := 4) nd rfl (Or.inl rfl) (pe_lst pa_nil))
      (pss_cons (ps_set (i := 5) nd rfl (Or.inr rfl) pe_int)
      (pss_cons (ps_for PassesOwn.never rfl (pi_list (pe_methC0 GL T.cl hr1 (pv 0))) (pg_name (i := 6) nd rfl (Or.inl rfl))
        (pss_cons (ps_setLc (i := 7) (own := [("part", 8)]) (te := tVar 8) (tt := tTest (tOp (rI0 fun i j => .bl (decide (i ≤ j))) (tOp (rIxL K) (tVar 3) (tOp rOrB (tVar 5) (tCall spBit [] E0 (tCons (tVar 8) tNil)))) (tOp (rIxL K) (tVar 3) (tC (.int 0)))))
          rfl nd rfl rfl (sw_true rfl rfl rfl (by decide +kernel)) (pi_list (pe_callC GM hr2 rfl (pa_cons (pv 2) (pa_cons (pv 5) pa_nil))))
          (blkOk_by (by show blkC ["tree", "side", "hanging", "least", "order", "off", "step", "good", "part"] (defScope sOrd) _ _ = true; decide +kernel))
          (fun _ _ _ _ _ => pg_name (i := 8) nd rfl (Or.inl rfl))
          (fun _ _ _ _ _ => pts_one (pt_cmpR op_le (pe_ix ix_list (pv 3) (pe_op op_or (pv 5) (pe_callC GB hr1 rfl (pa_cons (pv 8) pa_nil))) (fun _ _ => rfl)) (pe_ix ix_list (pv 3) pe_int (fun _ _ => rfl)) (nomark _)))
          (fun _ _ _ _ _ => pv 8))
        (pss_cons (ps_expr (pe_bm PySem.F.plainAttrs_list PySem.F.slot_list_append PySem.F.type_list_append mt_append (pv 4) (pa_cons (pe_ix ix_list (pv 7) pe_int (fun _ _ => rfl)) pa_nil)))
        (pss_one (ps_set (i := 5) nd rfl (Or.inr rfl) (pe_op op_or (pv 5) (pe_callC GB hr1 rfl (pa_cons (pe_ix ix_list (pv 7) pe_int (fun _ _ => rfl)) pa_nil))))))))
      (pss_one (ps_ret (pv 4))))))), ?_⟩
    obtain ⟨dx, h, c, tr⟩ := id tr0
    have W := tr.wf
    have hn := W.le
    refine ⟨_, rfl, t, a, rfl, tr0, fun H1 p s1 hp hl => ⟨_, rfl, _, rfl, _, rfl, t, p, a, side, rfl, tr0.same s1, SqL.of hl, fun H2 q s2 hq hl2 => ⟨Nat.zero_le _, fun o ho => ?_⟩⟩⟩
    have hp2 := s2 _ _ hl
    have s3 : Same H2 (upd H2 o (.lst [])) := same_upd ho
    have s03 : Same H (upd H2 o (.lst [])) := (s1.trans s2).trans s3
    have hoH : H o = none := (s1.trans s2).free ho
    have hH2 : H2 o = none := ho
    refine ⟨_, rfl, t, dx, _, rfl, s03 _ _ tr.ins, rfl, t, a, rfl, tr0.same s03, fun H4 l4 s4 hl4 hn4 => ⟨l4, rfl, ⟨_, SqL.of hn4⟩, ?_⟩⟩
    have n4o : l4 ≠ o := fun z => by
      rw [z, upd_same] at hl4
      cases hl4
    refine for_list (K := K) (a := l4) (xs := natV a.all_) (fun i σ H' => ∃ (v6 v7 : Option V) (ord : List Nat) (m : Nat), σ = [some (.ref t), some (.int (side : Int)), some (.ref p), some (.ref q), some (.ref o), some (.int (m : Int)), v6, v7, none] ∧
        Same H2 H' ∧ H' o = some (.lst (natV ord)) ∧ H' l4 = some (.lst (natV a.all_)) ∧ ord.length = i ∧ m < a.full ∧ Lk.left a m + i = a.n - 1 ∧ (a.rows side).getD m 0 ≤ a.least side ∧ a.first side = ord ++ a.go (a.rows side) (a.least side) (a.n - i) m)
      ⟨none, none, [], 0, rfl, s3.trans s4, s4 _ _ upd_same, hn4, rfl, Lk.full_pos a, by rw [Lk.left_start]; rfl, Int.le_refl _, rfl⟩ (fun i σ H' _ ⟨_, _, _, _, _, _, _, hl', _⟩ => SqL.of hl') ?_ ?_
    · rintro i x σ H5 hi ⟨v6, v7, ord, m, rfl, s5, ho5, hl5, hlen, hm, hleft, hbest, hfirst⟩
      have hi' : i < a.n - 1 := by
        have := (List.getElem?_eq_some_iff.mp hi).1
        rw [len_natV, all_len] at this
        exact this
      have hne : m ≠ a.full - 1 := fun z => by
        have := (Lk.left_zero W hm).mpr z
        omega
      have hp5 := s5 _ _ hp2
      have hq5 := s5 _ _ hl2
      refine ⟨_, rfl, _, rfl, p, a, m, rfl, W, SqL.of hp5, fun H6 q6 s6 hq6 hl6 => ⟨q6, rfl, ⟨_, SqL.of hl6⟩, fun D hD => ?_⟩⟩
      refine lc_same (K := K) (goodP a side m) (fun x => x) (SqL.of hl6) (by rw [len_natV]; exact small9 (Nat.le_trans (next_len W m) (by decide))) hD (fun j y H7 acc Nx hj s7 hacc kk => ?_) fun H7 s7 hq7 => ?_
      · obtain ⟨b, hb, rfl⟩ := natV_at hj
        obtain ⟨⟨b0, b1⟩, b2, _⟩ := Lk.mem_next.mp (List.mem_of_getElem? hb)
        have kk' := kk H7 (Same.refl _)
        rw [goodP_nat] at kk'
        have hadd := (Lk.next_add hm (List.mem_of_getElem? hb)).1
        have hq7' := SqL.of (K := K) (s7 _ _ (s6 _ _ hq5))
        have eix : atI (intV (a.rows side)) (Builtin.bitOr (m : Int) ((2 ^ (b - 1) : Nat) : Int)) = some (.int ((a.rows side).getD (add m b) 0)) := by
          rw [or_bit b0 b2]
          exact atI_nat (rows_get hadd)
        refine ⟨rfl, _, rfl, _, rfl, _, rfl, b, rfl, b0, by omega, _, _, rfl, rfl, q, _, _, _, rfl, rfl, hq7', eix, _, rfl, q, _, _, _, rfl, rfl, hq7', atI_nat (j := 0) (rows_get (Lk.full_pos a)), _, _, rfl, rfl, _, rfl, ?_⟩
        refine ite2 (fun e => ?_) fun e => ?_
        · rw [if_pos (show decide ((a.rows side).getD (add m b) 0 ≤ a.least side) = true from e)] at kk'
          exact ⟨_, rfl, kk'⟩
        · rw [if_neg (show ¬ decide ((a.rows side).getD (add m b) 0 ≤ a.least side) = true from e)] at kk'
          exact kk'
      · rw [good_map] at hq7
        obtain ⟨b, hb, hbb⟩ := Lk.go_on W hm hne hbest
        have hfind : ∃ g r, ((a.next m).filter fun i => decide ((a.rows side).getD (add m i) 0 ≤ a.least side)) = g :: r := by
          cases e : (a.next m).filter fun i => decide ((a.rows side).getD (add m i) 0 ≤ a.least side) with
          | nil =>
            have : b ∈ (a.next m).filter fun i => decide ((a.rows side).getD (add m i) 0 ≤ a.least side) := List.mem_filter.mpr ⟨hb, decide_eq_true hbb⟩
            rw [e] at this
            cases this
          | cons g r => exact ⟨g, r, rfl⟩
        obtain ⟨g, r, eg⟩ := hfind
        rw [eg] at hq7
        have hg : g ∈ a.next m ∧ (a.rows side).getD (add m g) 0 ≤ a.least side := by
          have : g ∈ (a.next m).filter fun i => decide ((a.rows side).getD (add m i) 0 ≤ a.least side) := by rw [eg]; exact List.mem_cons_self
          obtain ⟨h1, h2⟩ := List.mem_filter.mp this
          exact ⟨h1, of_decide_eq_true h2⟩
        obtain ⟨⟨g0, g1⟩, g2, _⟩ := Lk.mem_next.mp hg.1
        have hstep : a.go (a.rows side) (a.least side) (a.n - i) m = g :: a.go (a.rows side) (a.least side) (a.n - (i + 1)) (add m g) := by
          rw [show a.n - i = (a.n - (i + 1)) + 1 by omega]
          refine Lk.go_step ?_
          rw [Lk.find_head, eg]
          rfl
        have s67 := s6.trans s7
        have ho7 := s67 _ _ ho5
        have nDo : D ≠ o := fun z => by
          rw [z, s6 _ _ ho5] at hD
          cases hD
        refine ⟨_, rfl, .inl ⟨rfl, _, SqL.of ho7⟩, _, rfl, D, _, _, _, rfl, rfl, SqL.of hq7, atI_nat (j := 0) rfl, o, _, _, rfl, rfl, ho7, by rw [len_natV]; exact Nat.lt_of_le_of_lt (show ord.length ≤ 9 by omega) (by decide), ?_⟩
        have hD8 : (upd H7 o (.lst (natV ord ++ [V.int (g : Int)]))) D = some (.lst (natV (g :: r))) := by rw [upd_ne nDo]; exact hq7
        refine ⟨_, rfl, _, rfl, D, _, _, _, rfl, rfl, SqL.of hD8, atI_nat (j := 0) rfl, g, rfl, g0, by omega, _, _, rfl, rfl, ?_⟩
        have eor : Builtin.bitOr (m : Int) ((2 ^ (g - 1) : Nat) : Int) = ((add m g : Nat) : Int) := or_bit g0 g2
        refine ⟨_, _, ord ++ [g], add m g, by show List.set _ 5 (some (V.int (Builtin.bitOr (m : Int) ((2 ^ (g - 1) : Nat) : Int)))) = _; rw [eor]; rfl, fun b' o' e' => ?_, ?_, ?_, by rw [List.length_append]; show ord.length + 1 = i + 1; omega, (Lk.next_add hm hg.1).1, ?_, hg.2, ?_⟩
        · rw [upd_ne (ne_of_none e' hH2)]
          exact s67 _ _ (s5 _ _ e')
        · rw [upd_same]
          unfold natV
          rw [List.map_append]
          rfl
        · rw [upd_ne n4o]
          exact s67 _ _ hl5
        · have := Lk.left_add hg.1
          omega
        · rw [hfirst, hstep, List.append_assoc]
          rfl
    · rintro σ H5 ⟨v6, v7, ord, m, rfl, s5, ho5, hl5, hlen, hm, hleft, hbest, hfirst⟩
      rw [len_natV, all_len] at hleft hfirst hlen
      have hz : m = a.full - 1 := (Lk.left_zero W hm).mp (by omega)
      rw [hz, Lk.go_end, List.append_nil] at hfirst
      refine ⟨_, rfl, k H5 o ((s1.trans s2).trans s5) hoH ?_⟩
      rw [hfirst]
      exact ho5
end
end Le

end
section
set_option linter.all false
namespace Lk
open Kv374

theorem idx_ne {l : List Nat} {x y : Nat} (h : y ≠ x) : (y :: l).idxOf x = l.idxOf x + 1 := by
  rw [List.idxOf_cons]
  have : (y == x) = false := by simpa using h
  rw [this]
  rfl
theorem idx_take : ∀ {l : List Nat} {k x j : Nat}, l.Nodup → l[k]? = some x → j ∈ l → (l.idxOf x < l.idxOf j ↔ j ∉ l.take (k + 1))
  | [], _, _, _, _, h, _ => by simp at h
  | y :: l, 0, x, j, nd, h, hj => by
    have e : y = x := Option.some.inj h
    subst e
    rw [List.idxOf_cons_self, List.take_succ_cons, List.take_zero, List.mem_singleton]
    by_cases e : j = y
    · subst e; simp
    · rw [idx_ne (fun z => e z.symm)]
      simp [e]
  | y :: l, k + 1, x, j, nd, h, hj => by
    obtain ⟨n1, n2⟩ := List.nodup_cons.mp nd
    have h' : l[k]? = some x := h
    have hx : x ∈ l := List.mem_of_getElem? h'
    have hxy : y ≠ x := fun z => n1 (z ▸ hx)
    rw [idx_ne hxy, List.take_succ_cons, List.mem_cons]
    by_cases e : j = y
    · subst e
      rw [List.idxOf_cons_self]
      simp
    · have hj' : j ∈ l := (List.mem_cons.mp hj).resolve_left e
      rw [idx_ne (fun z => e z.symm)]
      have ih := idx_take (l := l) (k := k) n2 h' hj'
      constructor
      · intro q z
        rcases z with z | z
        · exact e z
        · exact ih.mp (by omega) z
      · intro q
        have := ih.mpr fun z => q (.inr z)
        omega
theorem split_of_subset : ∀ {l o : List Nat}, l.Nodup → (∀ i ∈ l, i ∈ o) → ∃ r, o.Perm (l ++ r)
  | [], o, _, _ => ⟨o, List.Perm.refl _⟩
  | x :: l, o, nd, h => by
    obtain ⟨n1, n2⟩ := List.nodup_cons.mp nd
    have hx := h x List.mem_cons_self
    obtain ⟨r, hr⟩ := split_of_subset (l := l) (o := o.erase x) n2 fun i hi => (List.mem_erase_of_ne (fun (z : i = x) => n1 (by rw [← z]; exact hi))).mpr (h i (List.mem_cons_of_mem _ hi))
    exact ⟨r, (List.perm_cons_erase hx).trans (hr.cons x)⟩
theorem ok_perm {a : Abs} {o : List Nat} : a.okOrder o = true ↔ o.Perm a.all_ := by
  unfold Abs.okOrder
  rw [Bool.and_eq_true, decide_eq_true_eq, List.all_eq_true]
  constructor
  · rintro ⟨h1, h2⟩
    obtain ⟨r, hr⟩ := split_of_subset (nd_all a) fun i hi => by simpa using h2 i hi
    have hl := hr.length_eq
    rw [List.length_append, h1, all_eq, List.length_range'] at hl
    have : r = [] := List.length_eq_zero_iff.mp (by omega)
    subst this
    rw [List.append_nil] at hr
    exact hr
  · intro h
    refine ⟨by rw [h.length_eq, all_eq, List.length_range'], fun i hi => ?_⟩
    simp
    exact h.mem_iff.mpr hi
noncomputable def tooSoon (a : Abs) (o : List Nat) (i : Nat) : Bool := (a.boughs i).any fun j => decide (o.idxOf i < o.idxOf j)
theorem early_eq (a : Abs) (o : List Nat) : a.early o = o.find? (tooSoon a o) := rfl
theorem soon_iff {a : Abs} {o : List Nat} (hp : o.Perm a.all_) {k x : Nat} (h : o[k]? = some x) : tooSoon a o x = true ↔ ∃ j ∈ a.boughs x, j ∉ o.take (k + 1) := by
  have nd : o.Nodup := hp.nodup_iff.mpr (nd_all a)
  unfold tooSoon
  rw [List.any_eq_true]
  constructor
  · rintro ⟨j, hj, q⟩
    have hjo : j ∈ o := hp.mem_iff.mpr (mem_all.mpr (mem_boughs.mp hj).1)
    exact ⟨j, hj, (idx_take nd h hjo).mp (of_decide_eq_true q)⟩
  · rintro ⟨j, hj, q⟩
    have hjo : j ∈ o := hp.mem_iff.mpr (mem_all.mpr (mem_boughs.mp hj).1)
    exact ⟨j, hj, decide_eq_true ((idx_take nd h hjo).mpr q)⟩
theorem find_at {α : Type} {p : α → Bool} : ∀ {l : List α} {k : Nat} {x : α}, l[k]? = some x → p x = true → (∀ y ∈ l.take k, p y = false) → l.find? p = some x
  | [], _, _, h, _, _ => by simp at h
  | y :: l, 0, x, h, hp, _ => by
    have e : y = x := Option.some.inj h
    subst e
    rw [List.find?_cons, hp]
  | y :: l, k + 1, x, h, hp, hn => by
    rw [List.find?_cons, hn y (by rw [List.take_succ_cons]; exact List.mem_cons_self)]
    exact find_at (l := l) (k := k) h hp fun z hz => hn z (by rw [List.take_succ_cons]; exact List.mem_cons_of_mem _ hz)
theorem find_no {α : Type} {p : α → Bool} {l : List α} (h : ∀ y ∈ l, p y = false) : l.find? p = none := by
  rw [List.find?_eq_none]
  intro y hy
  simp [h y hy]

theorem foldl_max : ∀ (l : List Int) (y : Int), (l.foldl max y = y ∨ l.foldl max y ∈ l) ∧ y ≤ l.foldl max y ∧ ∀ z ∈ l, z ≤ l.foldl max y
  | [], y => ⟨.inl rfl, Int.le_refl _, fun z h => by cases h⟩
  | x :: l, y => by
    obtain ⟨h1, h2, h3⟩ := foldl_max l (max y x)
    rw [List.foldl_cons]
    refine ⟨?_, by omega, fun z hz => ?_⟩
    · rcases h1 with h1 | h1
      · rw [h1]
        by_cases h : x ≤ y
        · exact .inl (by omega)
        · exact .inr (by rw [show max y x = x by omega]; exact List.mem_cons_self)
      · exact .inr (List.mem_cons_of_mem _ h1)
    · rcases List.mem_cons.mp hz with e | e
      · subst e; omega
      · exact h3 z e
theorem foldl_min2 : ∀ (l : List Int) (y : Int), (l.foldl min y = y ∨ l.foldl min y ∈ l) ∧ l.foldl min y ≤ y ∧ ∀ z ∈ l, l.foldl min y ≤ z
  | [], y => ⟨.inl rfl, Int.le_refl _, fun z h => by cases h⟩
  | x :: l, y => by
    obtain ⟨h1, h2, h3⟩ := foldl_min2 l (min y x)
    rw [List.foldl_cons]
    refine ⟨?_, by omega, fun z hz => ?_⟩
    · rcases h1 with h1 | h1
      · rw [h1]
        by_cases h : y ≤ x
        · exact .inl (by omega)
        · exact .inr (by rw [show min y x = x by omega]; exact List.mem_cons_self)
      · exact .inr (List.mem_cons_of_mem _ h1)
    · rcases List.mem_cons.mp hz with e | e
      · subst e; omega
      · exact h3 z e
theorem greatest_eq {l : List Int} {m : Int} (h1 : m ∈ l) (h2 : ∀ z ∈ l, z ≤ m) : greatest l = m := by
  cases l with
  | nil => cases h1
  | cons x l =>
    unfold greatest
    obtain ⟨q1, q2, q3⟩ := foldl_max (x :: l) ((x :: l).headD 0)
    have a1 := q3 m h1
    have a2 : (x :: l).foldl max ((x :: l).headD 0) ≤ m := by
      rcases q1 with q1 | q1
      · rw [q1]; exact h2 x List.mem_cons_self
      · exact h2 _ q1
    omega
theorem smallest_eq {l : List Int} {m : Int} (h1 : m ∈ l) (h2 : ∀ z ∈ l, m ≤ z) : smallest l = m := by
  cases l with
  | nil => cases h1
  | cons x l =>
    unfold smallest
    obtain ⟨q1, q2, q3⟩ := foldl_min2 (x :: l) ((x :: l).headD 0)
    have a1 := q3 m h1
    have a2 : m ≤ (x :: l).foldl min ((x :: l).headD 0) := by
      rcases q1 with q1 | q1
      · rw [q1]; exact h2 x List.mem_cons_self
      · exact h2 _ q1
    omega

noncomputable def leanBy (a : Abs) (o : List Nat) : Int := a.lean + (o.map fun i => (a.part i).change).sum
theorem sum_snoc (l : List Int) (z : Int) : (l ++ [z]).sum = l.sum + z := by simp
theorem leanBy_snoc (a : Abs) (o : List Nat) (x : Nat) : leanBy a (o ++ [x]) = leanBy a o + (a.part x).change := by
  unfold leanBy
  rw [List.map_append, List.map_cons, List.map_nil, sum_snoc]
  omega
theorem leans_snoc (a : Abs) (o : List Nat) (x : Nat) : a.leans (o ++ [x]) = a.leans o ++ [leanBy a (o ++ [x])] := by
  unfold Abs.leans
  rw [List.length_append, List.length_singleton, List.range_succ, List.map_append, List.cons_append]
  congr 2
  · refine List.map_congr_left fun k hk => ?_
    have hk' : k < o.length := List.mem_range.mp hk
    rw [List.take_append_of_le_length (by omega)]
  · rw [List.map_cons, List.map_nil]
    unfold leanBy
    rw [List.take_of_length_le (by simp)]
theorem leans_nil (a : Abs) : a.leans [] = [a.lean] := rfl
theorem far0 (l : List Int) : l.map (far 0) = l := by
  have : far 0 = id := by funext x; rfl
  rw [this, List.map_id]
theorem perm_sorted_eq : ∀ {l m : List Int}, l.Perm m → l.Pairwise (· ≤ ·) → m.Pairwise (· ≤ ·) → l = m
  | [], m, p, _, _ => by rw [List.nil_perm.mp p]
  | x :: l, [], p, _, _ => by cases p.length_eq
  | x :: l, y :: m, p, h1, h2 => by
    obtain ⟨a1, a2⟩ := List.pairwise_cons.mp h1
    obtain ⟨b1, b2⟩ := List.pairwise_cons.mp h2
    have e : x = y := by
      have hx : x ∈ y :: m := p.mem_iff.mp List.mem_cons_self
      have hy : y ∈ x :: l := p.mem_iff.mpr List.mem_cons_self
      have c1 : y ≤ x := by
        rcases List.mem_cons.mp hx with z | z
        · omega
        · exact b1 x z
      have c2 : x ≤ y := by
        rcases List.mem_cons.mp hy with z | z
        · omega
        · exact a1 y z
      omega
    subst e
    rw [perm_sorted_eq (List.Perm.cons_inv p) a2 b2]
end Lk

end
section
set_option Elab.async false
set_option linter.all false
set_option maxRecDepth 100000
set_option maxHeartbeats 4000000
namespace Le
open PySem PySem.Spec PyProof.Rows L2
open Kv374 (Abs Part has add far)
theorem take_snoc {α : Type} {l : List α} {i : Nat} {x : α} (h : l[i]? = some x) : l.take (i + 1) = l.take i ++ [x] := by
  rw [List.take_add_one, h]
  rfl
theorem intV_snoc (l : List Int) (z : Int) : intV l ++ [V.int z] = intV (l ++ [z]) := by
  unfold intV
  rw [List.map_append]
  rfl
section
variable {P : Program} {w : World} {K : PySem.W.Frag} {mg : Str → Option Value} {base : Heap} {C : Addr}
noncomputable def spLeans (K : PySem.W.Frag) (C : Addr) : Sp := fun vs H Q _ => ∃ (t p : Addr) (a : Abs) (o : List Nat), vs = [.ref t, .ref p] ∧ Tr C H t a ∧ SqL K H p (natV o) ∧ (∀ i ∈ o, i < a.n) ∧ o.length ≤ 1000 ∧
  ∀ (H' : Hp) (q : Addr), Same H H' → H q = none → H' q = some (.lst (intV (a.leans o))) → Q (.ref q) H'
theorem scLeans : FnScope ["tree", "row", "lean", "leans", "part"] ["tree", "row"] (defScope sLeans) := ⟨rfl, rfl, rfl, by decide +kernel, rfl, by decide +kernel, by decide +kernel⟩
theorem leans_len (a : Abs) (o : List Nat) : (a.leans o).length = o.length + 1 := by
  unfold Abs.leans
  rw [List.length_cons, List.length_map, List.length_range]
theorem ok_leans {f : Addr} {fd : FuncData} (F : Fun K "leans_by" "leans_by" sLeans f fd) (T : Txt K mg C) : FnOk P w K mg base CX0 1 f fd ["tree", "row"] (spLeans K C) := by
  refine F.ok scLeans (fun vs H Q E h => ?_) (fun cdv A outer s H vs Q E hr h => ?_)
  · obtain ⟨t, p, a, o, rfl, _⟩ := h
    rfl
  · obtain ⟨t, p, a, o, rfl, tr0, hp, hin, hlen, k⟩ := h
    have nd := scLeans.nd
    refine ⟨_, pss_cons (ps_set (i := 2) nd rfl (Or.inl rfl) (pe_fld (pv 0) rfl))
      (pss_cons (ps_set (i := 3) nd rfl (Or.inl rfl) (pe_lst (pa_cons (pv 2) pa_nil)))
      (pss_cons (ps_for PassesOwn.never rfl (pi_list (pv 1)) (pg_name (i := 4) nd rfl (Or.inl rfl))
        (pss_cons (ps_aug (i := 2) nd rfl (Or.inl rfl) (pe_ix ix_list (pe_fld (pv 0) rfl) (pv 4) (fun _ _ => rfl)) ip_add)
        (pss_one (ps_expr (pe_bm PySem.F.plainAttrs_list PySem.F.slot_list_append PySem.F.type_list_append mt_append (pv 3) (pa_cons (pv 2) pa_nil))))))
      (pss_one (ps_ret (pv 3))))), ?_⟩
    obtain ⟨dx, h, c, tr⟩ := id tr0
    refine ⟨_, rfl, t, C, dx, _, _, rfl, tr.ins, T.cl, T.nL, tf_lean, _, rfl, by show 1 ≤ sizeLine; decide, fun L hL => ?_⟩
    have s1 : Same H (upd H L (.lst [V.int a.lean])) := same_upd hL
    refine ⟨_, rfl, p, rfl, ⟨_, s1.seq hp⟩, for_list (K := K) (a := p) (xs := natV o) (fun i σ H' => i ≤ o.length ∧ ∃ v4 : Option V, σ = [some (.ref t), some (.ref p), some (.int (Lk.leanBy a (o.take i))), some (.ref L), v4] ∧ Same H H' ∧
      H' L = some (.lst (intV (a.leans (o.take i))))) ⟨Nat.zero_le _, none, ?_, s1, upd_same⟩ (fun i σ H' _ ⟨_, _, _, s', _⟩ => s'.seq hp) ?_ ?_⟩
    · have e0 : Lk.leanBy a [] = a.lean := by
        unfold Lk.leanBy
        simp
      rw [List.take_zero, e0]
      rfl
    · rintro i x σ H2 hi ⟨_, v4, rfl, s2, hL2⟩
      obtain ⟨m, hm, rfl⟩ := natV_at hi
      have hi' : i < o.length := (List.getElem?_eq_some_iff.mp hm).1
      have hmn := hin m (List.mem_of_getElem? hm)
      have et := take_snoc hm
      refine ⟨_, rfl, _, rfl, t, C, dx, _, _, rfl, s2 _ _ tr.ins, T.cl, T.nC, tf_chg, _, rfl, c, _, _, _, rfl, rfl, SqL.of (s2 _ _ tr.ch), atI_nat (ch_at hmn), _, _, rfl, rfl, ?_⟩
      have el : Lk.leanBy a (o.take i) + (a.part m).change = Lk.leanBy a (o.take (i + 1)) := by rw [et, Lk.leanBy_snoc]
      dsimp only
      rw [el]
      refine ⟨_, rfl, .inl ⟨rfl, _, SqL.of hL2⟩, _, rfl, L, _, _, rfl, rfl, hL2, ?_, ?_⟩
      · rw [len_intV, leans_len, List.length_take]
        exact Nat.lt_of_le_of_lt (show min i o.length + 1 ≤ 1001 by omega) (by decide)
      · refine ⟨by omega, _, rfl, fun b u e => ?_, ?_⟩
        · rw [upd_ne (ne_of_none e hL)]
          exact s2 _ _ e
        · rw [upd_same, intV_snoc, et, Lk.leans_snoc]
    · rintro σ H2 ⟨_, v4, rfl, s2, hL2⟩
      rw [len_natV, List.take_length] at hL2
      exact ⟨_, rfl, k H2 L s2 hL hL2⟩

noncomputable def spSoon (K : PySem.W.Frag) (C : Addr) : Sp := fun vs H Q _ => ∃ (t p : Addr) (a : Abs) (o : List Nat), vs = [.ref t, .ref p] ∧ Tr C H t a ∧ SqL K H p (natV o) ∧ o.Perm a.all_ ∧
  ∀ H' : Hp, Same H H' → Q (.int (((a.early o).getD 0 : Nat) : Int)) H'
theorem scSoon : FnScope ["tree", "row", "off", "part", "bough"] ["tree", "row"] (defScope sSoon) := ⟨rfl, rfl, rfl, by decide +kernel, rfl, by decide +kernel, by decide +kernel⟩
structure Off (kvs : List (Key × V)) (l : List Nat) : Prop where
  len : kvs.length ≤ l.length
  has : ∀ j : Nat, (valV kvs (Sum.inl (j : Int))).isSome = decide (j ∈ l)
theorem len_putK {kvs : List (Key × V)} {k : Key} {v : V} : (putK kvs k v).length ≤ kvs.length + 1 := by
  unfold putK
  split
  · rw [List.length_map]; omega
  · rw [List.length_append]; simp
theorem Off.put {kvs : List (Key × V)} {l : List Nat} (h : Off kvs l) (x : Nat) : Off (putK kvs (Sum.inl (x : Int)) (.bl true)) (l ++ [x]) := by
  refine ⟨?_, fun j => ?_⟩
  · rw [List.length_append, List.length_singleton]
    exact Nat.le_trans len_putK (Nat.succ_le_succ h.len)
  · rw [valV_put]
    by_cases e : j = x
    · subst e
      rw [if_pos rfl]
      simp
    · rw [if_neg (fun z => e (by injection z with z; omega)), h.has j, Bool.eq_iff_iff]
      simp [e]
theorem ok_soon {f : Addr} {fd : FuncData} (F : Fun K "first_too_soon" "first_too_soon" sSoon f fd) (T : Txt K mg C) (GO : MCallee P w K mg base C 2 "boughs_on" ["self", "part"] (spOn C)) : FnOk P w K mg base CX0 3 f fd ["tree", "row"] (spSoon K C) := by
  refine F.ok scSoon (fun vs H Q E h => ?_) (fun cdv A outer s H vs Q E hr h => ?_)
  · obtain ⟨t, p, a, o, rfl, _⟩ := h
    rfl
  · obtain ⟨t, p, a, o, rfl, tr0, hp, hperm, k⟩ := h
    have nd := scSoon.nd
    have hu := hu_of hr
    refine ⟨_, pss_cons (ps_set (i := 2) nd rfl (Or.inl rfl) pe_dnewK)
      (pss_cons (ps_for PassesOwn.never rfl (pi_list (pv 1)) (pg_name (i := 3) nd rfl (Or.inl rfl))
        (pss_cons (ps_dput hu (pv 2) (pv 3) pe_bl rfl)
        (pss_one (ps_for PassesOwn.never rfl (pi_list (pe_methC GO T.cl hr (pv 0) (pa_cons (pv 3) pa_nil))) (pg_name (i := 4) nd rfl (Or.inl rfl))
          (pss_one (ps_if (pt_cmp (pc_dnotin hu (pv 4) (pv 2))) (pss_one (ps_ret (pv 3))) pss_nil))))))
      (pss_one (ps_ret pe_int))), ?_⟩
    obtain ⟨dx, h, c, tr⟩ := id tr0
    have W := tr.wf
    have holen : o.length = a.n - 1 := by rw [hperm.length_eq, all_len]
    intro d hd
    have s1 : Same H (upd H d (.dK [])) := same_upd hd
    refine ⟨_, rfl, p, rfl, ⟨_, s1.seq hp⟩, for_list (K := K) (a := p) (xs := natV o) (fun i σ H' => ∃ (v3 v4 : Option V) (kvs : List (Key × V)), σ = [some (.ref t), some (.ref p), some (.ref d), v3, v4] ∧ Same H H' ∧
      H' d = some (.dK kvs) ∧ Off kvs (o.take i) ∧ ∀ y ∈ o.take i, Lk.tooSoon a o y = false) ⟨none, none, [], rfl, s1, upd_same, ⟨by simp, fun j => by simp [valV_nil]⟩, fun y hy => by simp at hy⟩ (fun i σ H' _ ⟨_, _, _, _, s', _⟩ => s'.seq hp) ?_ ?_⟩
    · rintro i x σ H2 hi ⟨v3, v4, kvs, rfl, s2, hd2, off, hno⟩
      obtain ⟨m, hm, rfl⟩ := natV_at hi
      have et := take_snoc hm
      have hi' : i < o.length := (List.getElem?_eq_some_iff.mp hm).1
      have hWle := W.le
      refine ⟨_, rfl, _, rfl, d, _, rfl, DPut.k (k := Sum.inl (m : Int)) hd2 ?_, ?_⟩
      · have := off.len
        rw [List.length_take] at this
        exact Nat.lt_of_le_of_lt (show kvs.length ≤ 9 by omega) (by decide)
      have off3 := off.put m
      rw [← et] at off3
      have hd3 : (upd H2 d (.dK (putK kvs (Sum.inl (m : Int)) (.bl true)))) d = some (.dK (putK kvs (Sum.inl (m : Int)) (.bl true))) := upd_same
      have s3 : Same H (upd H2 d (.dK (putK kvs (Sum.inl (m : Int)) (.bl true)))) := fun b u e => by
        rw [upd_ne (ne_of_none e hd)]
        exact s2 _ _ e
      generalize (upd H2 d (.dK (putK kvs (Sum.inl (m : Int)) (.bl true)))) = H3 at hd3 s3
      generalize putK kvs (Sum.inl (m : Int)) (.bl true) = kvs3 at hd3 off3
      refine ⟨_, rfl, t, dx, _, rfl, s3 _ _ tr.ins, rfl, _, rfl, t, a, m, rfl, tr0.same s3, fun H4 l s4 hl hl4 => ⟨l, rfl, ⟨_, SqL.of hl4⟩, ?_⟩⟩
      refine for_list (K := K) (a := l) (xs := natV (a.boughs m)) (fun j σ H' => ∃ v4 : Option V, σ = [some (.ref t), some (.ref p), some (.ref d), some (.int (m : Int)), v4] ∧ H' = H4 ∧ ∀ b ∈ (a.boughs m).take j, b ∈ o.take (i + 1))
        ⟨_, rfl, rfl, fun b hb => by simp at hb⟩ (fun j σ H' _ ⟨_, _, e, _⟩ => by rw [e]; exact SqL.of hl4) ?_ ?_
      · rintro j x σ H5 hj ⟨v5, rfl, rfl, hin⟩
        obtain ⟨b, hb, rfl⟩ := natV_at hj
        have hd4 := s4 _ _ hd3
        refine ⟨_, rfl, _, rfl, d, _, rfl, DGet.k (k := Sum.inl (b : Int)) hd4, _, rfl, ?_⟩
        rw [off3.has b]
        by_cases hbt : b ∈ o.take (i + 1)
        · rw [decide_eq_true hbt]
          refine iteF ⟨_, rfl, rfl, fun y hy => ?_⟩
          rw [take_snoc hb] at hy
          rcases List.mem_append.mp hy with z | z
          · exact hin y z
          · rw [List.mem_singleton.mp z]
            exact hbt
        · rw [decide_eq_false hbt]
          refine iteT ⟨_, rfl, ?_⟩
          have hs : Lk.tooSoon a o m = true := (Lk.soon_iff hperm hm).mpr ⟨b, List.mem_of_getElem? hb, hbt⟩
          have he : a.early o = some m := by
            rw [Lk.early_eq]
            exact Lk.find_at hm hs hno
          have kk := k H5 (s3.trans s4)
          rw [he] at kk
          exact kk
      · rintro σ H5 ⟨v5, rfl, rfl, hin⟩
        rw [len_natV, List.take_length] at hin
        refine ⟨_, _, kvs3, rfl, s3.trans s4, s4 _ _ hd3, off3, fun y hy => ?_⟩
        rw [et] at hy
        rcases List.mem_append.mp hy with z | z
        · exact hno y z
        · rw [List.mem_singleton.mp z]
          cases e : Lk.tooSoon a o m with
          | false => rfl
          | true =>
            obtain ⟨j, hj, q⟩ := (Lk.soon_iff hperm hm).mp e
            exact absurd (hin j hj) q
    · rintro σ H2 ⟨v3, v4, kvs, rfl, s2, hd2, off, hno⟩
      rw [len_natV, List.take_length] at hno
      have he : a.early o = none := by
        rw [Lk.early_eq]
        exact Lk.find_no hno
      have kk := k H2 s2
      rw [he] at kk
      exact kk
end
end Le

end
section
set_option linter.all false
namespace Lk
open Kv374

theorem counts_len (a : Abs) : ∀ k, (a.counts k).length = k
  | 0 => rfl
  | k + 1 => by
    show List.length (_ :: _) = _
    rw [List.length_cons, counts_len a k]
noncomputable def ccell (a : Abs) (t : List Nat) (m : Nat) : Nat := if (a.next m).isEmpty then 1 else ((a.next m).map fun i => t.getD (2 ^ (i - 1) - 1) 0).sum
theorem counts_succ (a : Abs) (k : Nat) : a.counts (k + 1) = ccell a (a.counts k) (a.full - (k + 1)) :: a.counts k := rfl
theorem counts_drop (a : Abs) : ∀ j k, a.counts k = (a.counts (k + j)).drop j
  | 0, k => rfl
  | j + 1, k => by
    rw [show k + (j + 1) = (k + j) + 1 by omega, counts_succ, List.drop_succ_cons]
    exact counts_drop a j k
theorem counts_tail {a : Abs} {m : Nat} (hm : m ≤ a.full) : a.counts (a.full - m) = (a.counts a.full).drop m := by
  have := counts_drop a m (a.full - m)
  rw [show a.full - m + m = a.full by omega] at this
  exact this
noncomputable def cnt (a : Abs) (m : Nat) : Nat := (a.counts a.full).getD m 0
theorem cnt_at {a : Abs} {m : Nat} (hm : m < a.full) : cnt a m = if (a.next m).isEmpty then 1 else ((a.next m).map fun i => cnt a (add m i)).sum := by
  have e1 := counts_tail (a := a) (m := m) (by omega)
  have e2 := counts_tail (a := a) (m := m + 1) (by omega)
  rw [show a.full - m = (a.full - (m + 1)) + 1 by omega, counts_succ, e2] at e1
  have e3 : cnt a m = ccell a ((a.counts a.full).drop (m + 1)) (a.full - (a.full - (m + 1) + 1)) := by
    have := getD_drop (a.counts a.full) m 0 0
    rw [Nat.add_zero, ← e1] at this
    exact this.symm
  rw [e3, show a.full - (a.full - (m + 1) + 1) = m by omega]
  unfold ccell cnt
  simp only [getD_drop, bit_ix]
theorem cnt_last {a : Abs} : cnt a (a.full - 1) = 1 := by
  rw [cnt_at (by have := full_pos a; omega), next_nil]
  rfl
theorem cnt_step {a : Abs} (W : WF a) {m : Nat} (hm : m < a.full) (hne : m ≠ a.full - 1) : cnt a m = ((a.next m).map fun i => cnt a (add m i)).sum := by
  rw [cnt_at hm, if_neg]
  obtain ⟨i, hi⟩ := next_ne W hm hne
  intro h
  rw [List.isEmpty_iff] at h
  rw [h] at hi
  cases hi
theorem ways_cnt (a : Abs) : a.ways = cnt a 0 := rfl
noncomputable def wt (a : Abs) (F : List Int) (m : Nat) : Int := ((List.range' m (a.full - m)).map fun k => F.getD k 0 * (cnt a k : Int)).sum
theorem wt_cons {a : Abs} {F : List Int} {m : Nat} (hm : m < a.full) : wt a F m = F.getD m 0 * (cnt a m : Int) + wt a F (m + 1) := by
  unfold wt
  rw [show a.full - m = (a.full - (m + 1)) + 1 by omega, List.range'_succ, List.map_cons, List.sum_cons]
theorem wt_last {a : Abs} {F : List Int} : wt a F (a.full - 1) = F.getD (a.full - 1) 0 := by
  have := full_pos a
  rw [wt_cons (by omega), cnt_last]
  unfold wt
  rw [show a.full - (a.full - 1 + 1) = 0 by omega]
  simp
theorem getD_set {F : List Int} {j k : Nat} {y : Int} (hj : j < F.length) : (F.set j y).getD k 0 = if j = k then y else F.getD k 0 := by
  rw [List.getD_eq_getElem?_getD, List.getElem?_set, List.getD_eq_getElem?_getD]
  by_cases e : j = k
  · subst e
    simp [hj]
  · simp [e]
theorem sum_out {F : List Int} {j : Nat} {y : Int} {c : Nat → Int} (hj : j < F.length) : ∀ {l : List Nat}, j ∉ l → (l.map fun k => (F.set j y).getD k 0 * c k).sum = (l.map fun k => F.getD k 0 * c k).sum
  | [], _ => rfl
  | x :: l, h => by
    have h1 : j ≠ x := fun e => h (e ▸ List.mem_cons_self)
    have h2 : j ∉ l := fun e => h (List.mem_cons_of_mem _ e)
    rw [List.map_cons, List.map_cons, List.sum_cons, List.sum_cons, sum_out hj h2, getD_set hj, if_neg h1]
theorem sum_set {F : List Int} {j : Nat} {y : Int} {c : Nat → Int} (hj : j < F.length) : ∀ {l : List Nat}, l.Nodup → j ∈ l → (l.map fun k => (F.set j y).getD k 0 * c k).sum = (l.map fun k => F.getD k 0 * c k).sum + (y - F.getD j 0) * c j
  | [], _, h => by cases h
  | x :: l, nd, h => by
    obtain ⟨n1, n2⟩ := List.nodup_cons.mp nd
    rw [List.map_cons, List.map_cons, List.sum_cons, List.sum_cons]
    by_cases e : j = x
    · subst e
      rw [sum_out hj n1, getD_set hj, if_pos rfl, Int.sub_mul]
      omega
    · have hm : j ∈ l := (List.mem_cons.mp h).resolve_left e
      rw [sum_set hj n2 hm, getD_set hj, if_neg e]
      omega
theorem wt_set {a : Abs} {F : List Int} {m j : Nat} {y : Int} (hl : F.length = a.full) (hm : m ≤ j) (hj : j < a.full) : wt a (F.set j y) m = wt a F m + (y - F.getD j 0) * (cnt a j : Int) := by
  unfold wt
  refine sum_set (c := fun k => (cnt a k : Int)) (by omega) List.nodup_range' ?_
  rw [List.mem_range'_1]
  omega
theorem sum_zero {f : Nat → Int} : ∀ {l : List Nat}, (∀ k ∈ l, f k = 0) → (l.map f).sum = 0
  | [], _ => rfl
  | x :: l, h => by
    rw [List.map_cons, List.sum_cons, h x List.mem_cons_self, sum_zero fun k hk => h k (List.mem_cons_of_mem _ hk)]
    rfl
noncomputable def wt0 (a : Abs) : List Int := 1 :: List.replicate (a.full - 1) 0
theorem wt0_len (a : Abs) : (wt0 a).length = a.full := by
  have := full_pos a
  unfold wt0
  rw [List.length_cons, List.length_replicate]
  omega
theorem wt_start (a : Abs) : wt a (wt0 a) 0 = (a.ways : Int) := by
  have hp := full_pos a
  rw [wt_cons hp, ways_cnt]
  have e0 : (wt0 a).getD 0 0 = 1 := rfl
  have e1 : wt a (wt0 a) (0 + 1) = 0 := by
    unfold wt
    refine sum_zero fun k hk => ?_
    rw [List.mem_range'_1] at hk
    obtain ⟨j, rfl⟩ : ∃ j, k = j + 1 := ⟨k - 1, by omega⟩
    have e : (wt0 a).getD (j + 1) 0 = 0 := by
      unfold wt0
      rw [List.getD_cons_succ, List.getD_eq_getElem?_getD, List.getElem?_replicate]
      split <;> rfl
    rw [e, Int.zero_mul]
  rw [e0, e1]
  omega
noncomputable def cs (a : Abs) (m : Nat) (l : List Nat) : Int := (l.map fun i => (cnt a (add m i) : Int)).sum
theorem cs_snoc (a : Abs) (m : Nat) (l : List Nat) (i : Nat) : cs a m (l ++ [i]) = cs a m l + (cnt a (add m i) : Int) := by
  unfold cs
  rw [List.map_append, List.map_cons, List.map_nil, sum_snoc]
theorem cast_sum (f : Nat → Nat) : ∀ l : List Nat, (((l.map f).sum : Nat) : Int) = (l.map fun i => (f i : Int)).sum
  | [] => rfl
  | x :: l => by
    rw [List.map_cons, List.sum_cons, List.map_cons, List.sum_cons, ← cast_sum f l]
    omega
theorem cs_next {a : Abs} (W : WF a) {m : Nat} (hm : m < a.full) (hne : m ≠ a.full - 1) : cs a m (a.next m) = (cnt a m : Int) := by
  rw [cnt_step W hm hne, cast_sum]
  rfl
theorem wt_turn {a : Abs} (W : WF a) {F G : List Int} {m : Nat} (hm : m < a.full) (hne : m ≠ a.full - 1) (h : wt a G (m + 1) = wt a F (m + 1) + F.getD m 0 * cs a m (a.next m)) : wt a G (m + 1) = wt a F m := by
  rw [h, cs_next W hm hne, wt_cons hm]
  omega

noncomputable def offM (o : List Nat) (i : Nat) : Nat := (o.take i).foldl add 0
theorem offM_snoc {o : List Nat} {i x : Nat} (h : o[i]? = some x) : offM o (i + 1) = add (offM o i) x := by
  unfold offM
  rw [List.take_add_one, h, List.foldl_append]
  rfl
theorem offM_all (o : List Nat) : offM o o.length = o.foldl add 0 := by
  unfold offM
  rw [List.take_length]
theorem okOff_iff {a : Abs} {o : List Nat} : a.okOff o = true ↔ ∀ k x, o[k]? = some x → x ∈ a.next (offM o k) := by
  unfold Abs.okOff
  rw [List.all_eq_true]
  constructor
  · intro h k x hx
    have hk := (List.getElem?_eq_some_iff.mp hx).1
    have := h k (List.mem_range.mpr hk)
    rw [List.getD_eq_getElem?_getD, hx] at this
    simpa [offM] using this
  · intro h k hk
    have hk := List.mem_range.mp hk
    have := h k _ (List.getElem?_eq_getElem hk)
    rw [List.getD_eq_getElem?_getD, List.getElem?_eq_getElem hk]
    simpa [offM] using this
theorem okOff_no {a : Abs} {o : List Nat} {k x : Nat} (h : o[k]? = some x) (hn : x ∉ a.next (offM o k)) : a.okOff o = false := by
  cases e : a.okOff o with
  | false => rfl
  | true => exact absurd (okOff_iff.mp e k x h) hn

theorem has_zero (i : Nat) : has 0 i = false := by simp [has]
theorem next_zero {a : Abs} {i : Nat} (h0 : 0 < i) (hi : i < a.n) : (a.next 0).contains i = (a.boughs i).isEmpty := by
  rw [Bool.eq_iff_iff, List.isEmpty_iff]
  rw [List.contains_iff_mem, mem_next]
  constructor
  · rintro ⟨_, _, h⟩
    refine List.eq_nil_iff_forall_not_mem.mpr fun j hj => ?_
    have := h j hj
    rw [has_zero] at this
    cases this
  · intro h
    refine ⟨⟨h0, hi⟩, has_zero i, fun j hj => ?_⟩
    rw [h] at hj
    cases hj
theorem add_zero (i : Nat) : add 0 i = 2 ^ (i - 1) := by unfold add; omega
theorem add_zero_lt {a : Abs} {i : Nat} (h0 : 0 < i) (hi : i < a.n) : add 0 i < a.full := add_lt (full_pos a) h0 (by omega) (has_zero i)
theorem leanAt_full (a : Abs) : a.leanAt (a.full - 1) = leanBy a a.all_ := by
  unfold Abs.leanAt leanBy
  rw [List.filter_eq_self.mpr fun i hi => ?_]
  obtain ⟨h3, h4⟩ := mem_all.mp hi
  rw [show a.full = 2 ^ (a.n - 1) from rfl, has_full h3 (by omega)]
theorem leans_last (a : Abs) : ∀ (o : List Nat), ∃ r, a.leans o = r ++ [leanBy a o]
  | [] => ⟨[], by simp [Abs.leans, leanBy]⟩
  | x :: o => by
    rcases List.eq_nil_or_concat (x :: o) with h | ⟨l, y, h⟩
    · cases h
    · rw [h]
      exact ⟨a.leans l, by rw [List.concat_eq_append, leans_snoc]⟩
theorem leans_head (a : Abs) (o : List Nat) : (a.leans o)[0]? = some a.lean := rfl
end Lk

end
section
set_option Elab.async false
set_option linter.all false
set_option maxRecDepth 100000
set_option maxHeartbeats 4000000
namespace L2
open PySem PySem.Spec PyProof.Rows
noncomputable def rGetL (K : PySem.W.Frag) : V → V → Hp → VK → Prop := fun o i H Q => ∃ (p : Addr) (xs : List V) (j : Nat) (v : V), o = .ref p ∧ i = .int (j : Int) ∧ SqL K H p xs ∧ xs[j]? = some v ∧ Q v H
theorem get_list {X : Cx} : PGet X (rGetL X.K) := by
  intro pins s σ H o i ov iv Q I ro ri h
  obtain ⟨p, xs, j, z, rfl, rfl, hq, he, q⟩ := h
  cases ro
  obtain ⟨t, rfl⟩ := ri
  obtain ⟨its, r, pl, hz⟩ := I.list hq
  obtain ⟨w, ew, rw'⟩ := r.get he
  have hl := r.length
  have hn := line63
  have hj : j < xs.length := (List.getElem?_eq_some_iff.mp he).1
  exact wpAny_getItem_list pl.isList (by omega) (by omega) (by simpa using ew) ⟨z, H, I, rw', q⟩
end L2
namespace Le
open PySem PySem.Spec PyProof.Rows L2
open Kv374 (Abs Part has add far)
section
variable {P : Program} {w : World} {K : PySem.W.Frag} {mg : Str → Option Value} {base : Heap} {C : Addr}
noncomputable def spBeg (C : Addr) : Sp := fun vs H Q _ => ∃ (t : Addr) (a : Abs) (i side : Nat), vs = [.ref t, .int (i : Int), .int (side : Int)] ∧ Tr C H t a ∧ (0 < i ∧ i < a.n) ∧ ∀ H', Same H H' → Q (.int (max (far side a.lean) ((a.rows side).getD (add 0 i) 0))) H'
theorem scBeg : FnScope ["tree", "part", "side", "least"] ["tree", "part", "side"] (defScope sBeg) := ⟨rfl, rfl, rfl, by decide +kernel, rfl, by decide +kernel, by decide +kernel⟩
theorem ok_beg {f : Addr} {fd : FuncData} (F : Fun K "least_beginning_with" "least_beginning_with" sBeg f fd) (T : Txt K mg C) (GB : Callee P w K mg base 1 "bit_of" ["part"] spBit) (GP : Callee P w K mg base 3 "bits_on_parts" ["tree"] (spBoP C))
    (GF : Callee P w K mg base 3 "least_from" ["tree", "hanging", "side"] (spFrom K C)) (GH : Callee P w K mg base 1 "how_far" ["lean", "side"] spHow) : FnOk P w K mg base CX0 4 f fd ["tree", "part", "side"] (spBeg C) := by
  refine F.ok scBeg (fun vs H Q E h => ?_) (fun cdv A outer s H vs Q E hr h => ?_)
  · obtain ⟨t, a, i, side, rfl, _⟩ := h
    rfl
  · obtain ⟨t, a, i, side, rfl, tr0, ⟨i0, i1⟩, k⟩ := h
    have hr1 : Room 1 _ := hr.mono (by decide)
    have nd := scBeg.nd
    refine ⟨_, pss_cons (ps_set (i := 3) nd rfl (Or.inl rfl) (pe_callC GF hr rfl (pa_cons (pv 0) (pa_cons (pe_callC GP hr rfl (pa_cons (pv 0) pa_nil)) (pa_cons (pv 2) pa_nil)))))
      (pss_one (ps_ret (pe_callB (call_max2 rfl) (by rfl) T.max bt_max (pa_cons (pe_callC GH hr1 rfl (pa_cons (pe_fld (pv 0) rfl) (pa_cons (pv 2) pa_nil))) (pa_cons (pe_ix ix_list (pv 3) (pe_callC GB hr1 rfl (pa_cons (pv 1) pa_nil)) (fun _ _ => rfl)) pa_nil))))), ?_⟩
    obtain ⟨dx, h, c, y⟩ := id tr0
    have hn := y.wf.le
    refine ⟨_, rfl, _, rfl, t, a, rfl, tr0, fun H1 p s1 hp hl => ⟨_, rfl, t, p, a, side, rfl, tr0.same s1, SqL.of hl, fun H2 q s2 hq hl2 => ?_⟩⟩
    have s12 := s1.trans s2
    have eix : atI (intV (a.rows side)) ((2 ^ (i - 1) : Nat) : Int) = some (.int ((a.rows side).getD (add 0 i) 0)) := by
      rw [← Lk.add_zero]
      exact atI_nat (rows_get (Lk.add_zero_lt i0 i1))
    refine ⟨_, rfl, t, C, dx, _, _, rfl, s12 _ _ y.ins, T.cl, T.nL, tf_lean, _, rfl, _, side, rfl, _, rfl, _, rfl, i, rfl, i0, by omega, q, _, _, _, rfl, rfl, SqL.of hl2, eix, _, _, rfl, ?_⟩
    · have kk := k H2 s12
      have e : (if (a.rows side).getD (add 0 i) 0 > far side a.lean then (a.rows side).getD (add 0 i) 0 else far side a.lean) = max (far side a.lean) ((a.rows side).getD (add 0 i) 0) := by split <;> omega
      rw [← e] at kk
      exact kk

noncomputable def spCnt (C : Addr) : Sp := fun vs H Q _ => ∃ (t : Addr) (a : Abs), vs = [.ref t] ∧ Tr C H t a ∧ ∀ H', Same H H' → Q (.int ((a.ways : Nat) : Int)) H'
theorem scCnt : FnScope ["tree", "hanging", "all_off", "ways_to", "off", "part"] ["tree"] (defScope sCnt) := ⟨rfl, rfl, rfl, by decide +kernel, rfl, by decide +kernel, by decide +kernel⟩
theorem start_V (a : Abs) : [V.int 1] ++ (List.replicate (a.full - 1) [V.int 0]).flatten = intV (Lk.wt0 a) := by
  rw [rep_flat]
  rfl
theorem ok_cnt {f : Addr} {fd : FuncData} (F : Fun K "count_orders" "count_orders" sCnt f fd) (T : Txt K mg C) (GB : Callee P w K mg base 1 "bit_of" ["part"] spBit) (GS : Callee P w K mg base 2 "bits_of" ["parts"] (spBits K)) (GP : Callee P w K mg base 3 "bits_on_parts" ["tree"] (spBoP C))
    (GL : MCallee P w K mg base C 1 "loose_parts" ["self"] (spLoose C)) (GM : Callee P w K mg base 2 "may_come_off" ["hanging", "off"] (spMay K)) : FnOk P w K mg base CX0 4 f fd ["tree"] (spCnt C) := by
  refine F.ok scCnt (fun vs H Q E h => ?_) (fun cdv A outer s H vs Q E hr h => ?_)
  · obtain ⟨t, a, rfl, _⟩ := h
    rfl
  · obtain ⟨t, a, rfl, tr0, k⟩ := h
    have hr1 : Room 1 _ := hr.mono (by decide)
    have hr2 : Room 2 _ := hr.mono (by decide)
    have nd := scCnt.nd
    refine ⟨_, pss_cons (ps_set (i := 1) nd rfl (Or.inl rfl) (pe_callC GP hr rfl (pa_cons (pv 0) pa_nil)))
      (pss_cons (ps_set (i := 2) nd rfl (Or.inl rfl) (pe_callC GS hr2 rfl (pa_cons (pe_methC0 GL T.cl hr1 (pv 0)) pa_nil)))
      (pss_cons (ps_set (i := 3) nd rfl (Or.inl rfl) (pe_op op_cat (pe_lst (pa_cons pe_int pa_nil)) (pe_op op_rep (pe_lst (pa_cons pe_int pa_nil)) (pv 2))))
      (pss_cons (ps_for PassesOwn.never rfl (pi_range1 rfl T.range (pa_cons (pv 2) pa_nil)) (pg_name (i := 4) nd rfl (Or.inl rfl))
        (pss_one (ps_for PassesOwn.never rfl (pi_list (pe_callC GM hr2 rfl (pa_cons (pv 1) (pa_cons (pv 4) pa_nil)))) (pg_name (i := 5) nd rfl (Or.inl rfl))
          (pss_one (ps_augS (pv 3) (pe_op op_or (pv 4) (pe_callC GB hr1 rfl (pa_cons (pv 5) pa_nil))) get_list (pe_ix ix_list (pv 3) (pv 4) (fun _ _ => rfl)) ip_add set_list)))))
      (pss_one (ps_ret (pe_ix ix_list (pv 3) (pv 2) (fun _ _ => rfl))))))), ?_⟩
    obtain ⟨dx, h, c, y⟩ := id tr0
    have W := y.wf
    have hn := W.le
    have hfl := full_le W
    have hfp := Lk.full_pos a
    refine ⟨_, rfl, t, a, rfl, tr0, fun H1 p s1 hp hl => ?_⟩
    refine ⟨_, rfl, t, dx, _, rfl, s1 _ _ y.ins, rfl, t, a, rfl, tr0.same s1, fun H2 q2 s2 hq2 hl2 => ⟨q2, _, rfl, SqL.of hl2, by rw [all_len]; omega, fun i hi => by have := Lk.mem_all.mp hi; omega, fun H3 s3 => ?_⟩⟩
    rw [bsum_all W]
    have s13 : Same H1 H3 := s2.trans s3
    refine ⟨by show 1 ≤ sizeLine; decide, fun q4 hq4 => ⟨by show 1 ≤ sizeLine; decide, fun q5 hq5 => ⟨_, rfl, q5, _, _, rfl, rfl, upd_same, by omega, by omega, ?_, fun q6 hq6 => ?_⟩⟩⟩
    · rw [sizeLine_eq]
      show 1 * _ ≤ _
      omega
    rw [Int.toNat_natCast]
    have s4 := same_upd (o := .lst [V.int 1]) hq4
    have s5 := same_upd (o := .lst [V.int 0]) hq5
    have s6 := same_upd (o := .lst (List.replicate (a.full - 1) [V.int 0]).flatten) hq6
    refine ⟨q4, q6, _, _, rfl, rfl, s6 _ _ (s5 _ _ upd_same), upd_same, ?_, fun L hL => ?_⟩
    · rw [rep_flat, len_intV, List.length_replicate]
      exact Nat.le_trans (show 1 + (a.full - 1) ≤ 256 by omega) (by decide)
    rw [start_V]
    have s16 : Same H1 _ := s13.trans (s4.trans (s5.trans s6))
    have hL1 : H1 L = none := s16.free hL
    have s17 := s16.trans (same_upd (o := .lst (intV (Lk.wt0 a))) hL)
    refine ⟨_, rfl, _, rfl, by omega, by omega, ?_⟩
    rw [Int.toNat_natCast]
    refine for_range (fun i σ H' => i ≤ a.full - 1 ∧ ∃ (v4 v5 : Option V) (W0 : List Int), σ = [some (.ref t), some (.ref p), some (.int ((a.full - 1 : Nat) : Int)), some (.ref L), v4, v5] ∧ Same H1 H' ∧ H' L = some (.lst (intV W0)) ∧ W0.length = a.full ∧ Lk.wt a W0 i = ((a.ways : Nat) : Int))
      ⟨Nat.zero_le _, none, none, Lk.wt0 a, rfl, s17, upd_same, Lk.wt0_len a, Lk.wt_start a⟩ ?_ ?_
    · rintro m σ H8 hm ⟨_, v4, v5, W0, rfl, s8, hL8, hlen, hwt⟩
      have em : (0 : Int) + (m : Int) = (m : Int) := by omega
      rw [em]
      have hmf : m < a.full := by omega
      have hne : m ≠ a.full - 1 := by omega
      refine ⟨_, rfl, _, rfl, p, a, m, rfl, W, SqL.of (s8 _ _ hl), fun H9 q9 s9 hq9 hl9 => ⟨q9, rfl, ⟨_, SqL.of hl9⟩, ?_⟩⟩
      have nqL : q9 ≠ L := fun z => by
        rw [z, hL8] at hq9
        cases hq9
      have hL9 := s9 _ _ hL8
      have s19 := s8.trans s9
      refine for_list (K := K) (a := q9) (xs := natV (a.next m)) (fun j σ H' => ∃ (v5 : Option V) (G : List Int), σ = [some (.ref t), some (.ref p), some (.int ((a.full - 1 : Nat) : Int)), some (.ref L), some (.int (m : Int)), v5] ∧ Same H1 H' ∧ H' q9 = some (.lst (natV (a.next m))) ∧
          H' L = some (.lst (intV G)) ∧ G.length = a.full ∧ G.getD m 0 = W0.getD m 0 ∧ Lk.wt a G (m + 1) = Lk.wt a W0 (m + 1) + W0.getD m 0 * Lk.cs a m ((a.next m).take j))
        ⟨_, W0, rfl, s19, hl9, hL9, hlen, rfl, by rw [List.take_zero]; simp [Lk.cs]⟩ (fun j σ H' _ ⟨_, _, _, _, hq, _⟩ => SqL.of hq) ?_ ?_
      · rintro j x σ H10 hj ⟨v5', G, rfl, s10, hq10, hL10, hGl, hGm, hGw⟩
        obtain ⟨b, hb, rfl⟩ := natV_at hj
        have hbm := List.mem_of_getElem? hb
        obtain ⟨⟨b0, b1⟩, b2, _⟩ := Lk.mem_next.mp hbm
        obtain ⟨hadd, hgt⟩ := Lk.next_add hmf hbm
        refine ⟨_, rfl, _, rfl, _, rfl, b, rfl, b0, by omega, _, _, rfl, rfl, L, _, add m b, _, rfl, congrArg V.int (or_bit b0 b2), SqL.of hL10, intV_at (getD_some (by rw [hGl]; exact hadd)), _, rfl, _, rfl, L, _, _, _, rfl, rfl, SqL.of hL10, atI_nat (intV_at (getD_some (by rw [hGl]; exact hmf))),
          _, _, rfl, rfl, L, _, _, add m b, rfl, congrArg V.int (or_bit b0 b2), hL10, ixN_nat (by rw [len_intV, hGl]; exact hadd), ?_⟩
        rw [intV_set]
        refine ⟨_, G.set (add m b) (G.getD (add m b) 0 + G.getD m 0), rfl, fun z o e => ?_, ?_, upd_same, by rw [List.length_set]; exact hGl, ?_, ?_⟩
        · rw [upd_ne (ne_of_none e hL1)]
          exact s10 _ _ e
        · rw [upd_ne nqL]
          exact hq10
        · rw [Lk.getD_set (by omega), if_neg (by omega)]
          exact hGm
        · rw [Lk.wt_set hGl (by omega) hadd, hGw, take_snoc hb, Lk.cs_snoc, Int.mul_add, show G.getD (add m b) 0 + G.getD m 0 - G.getD (add m b) 0 = G.getD m 0 by omega, hGm]
          omega
      · rintro σ H10 ⟨v5', G, rfl, s10, hq10, hL10, hGl, hGm, hGw⟩
        rw [len_natV, List.take_length] at hGw
        exact ⟨by omega, _, _, G, rfl, s10, hL10, hGl, by rw [Lk.wt_turn W hmf hne hGw]; exact hwt⟩
    · rintro σ H8 ⟨_, v4, v5, W0, rfl, s8, hL8, hlen, hwt⟩
      rw [Lk.wt_last] at hwt
      refine ⟨_, rfl, _, rfl, L, _, _, _, rfl, rfl, SqL.of hL8, atI_nat (intV_at (getD_some (by rw [hlen]; omega))), ?_⟩
      rw [hwt]
      exact k H8 (s1.trans s8)

noncomputable def spNext (K : PySem.W.Frag) (C : Addr) : Sp := fun vs H Q _ => ∃ (t p : Addr) (a : Abs) (o : List Nat), vs = [.ref t, .ref p] ∧ Tr C H t a ∧ SqL K H p (natV o) ∧ (a.okOff o = false → ∀ H', Same H H' → Q .non H') ∧
  (a.okOff o = true → ∀ (H' : Hp) (q : Addr), Same H H' → H q = none → H' q = some (.lst (natV (a.next (o.foldl add 0)))) → Q (.ref q) H')
theorem scNext : FnScope ["tree", "row", "hanging", "off", "part"] ["tree", "row"] (defScope sNext) := ⟨rfl, rfl, rfl, by decide +kernel, rfl, by decide +kernel, by decide +kernel⟩
theorem in_natV {x : Nat} {l : List Nat} : inV (V.int (x : Int)) (natV l) = decide (x ∈ l) := by
  unfold inV natV eqV
  rw [List.any_map, Bool.eq_iff_iff]
  simp only [List.any_eq_true, decide_eq_true_eq, Function.comp]
  constructor
  · rintro ⟨y, hy, e⟩
    have : y = x := by simp at e; omega
    exact this ▸ hy
  · intro h
    exact ⟨x, h, by simp⟩
theorem flat_natV (l : List Nat) : (natV l).all flatV = true := by
  unfold natV
  rw [List.all_map, List.all_eq_true]
  intro x _
  rfl
theorem ok_next {f : Addr} {fd : FuncData} (F : Fun K "next_behind" "next_behind" sNext f fd) (GB : Callee P w K mg base 1 "bit_of" ["part"] spBit) (GP : Callee P w K mg base 3 "bits_on_parts" ["tree"] (spBoP C)) (GM : Callee P w K mg base 2 "may_come_off" ["hanging", "off"] (spMay K)) :
    FnOk P w K mg base CX0 4 f fd ["tree", "row"] (spNext K C) := by
  refine F.ok scNext (fun vs H Q E h => ?_) (fun cdv A outer s H vs Q E hr h => ?_)
  · obtain ⟨t, p, a, o, rfl, _⟩ := h
    rfl
  · obtain ⟨t, p, a, o, rfl, tr0, hp, kno, kyes⟩ := h
    have hr1 : Room 1 _ := hr.mono (by decide)
    have hr2 : Room 2 _ := hr.mono (by decide)
    have nd := scNext.nd
    refine ⟨_, pss_cons (ps_set (i := 2) nd rfl (Or.inl rfl) (pe_callC GP hr rfl (pa_cons (pv 0) pa_nil)))
      (pss_cons (ps_set (i := 3) nd rfl (Or.inl rfl) pe_int)
      (pss_cons (ps_for PassesOwn.never rfl (pi_list (pv 1)) (pg_name (i := 4) nd rfl (Or.inl rfl))
        (pss_cons (ps_if (pt_cmpR op_notIn_seq (pv 4) (pe_callC GM hr2 rfl (pa_cons (pv 2) (pa_cons (pv 3) pa_nil))) (by with_unfolding_all rfl)) (pss_one (ps_ret pe_non)) pss_nil)
        (pss_one (ps_set (i := 3) nd rfl (Or.inl rfl) (pe_op op_or (pv 3) (pe_callC GB hr1 rfl (pa_cons (pv 4) pa_nil)))))))
      (pss_one (ps_ret (pe_callC GM hr2 rfl (pa_cons (pv 2) (pa_cons (pv 3) pa_nil))))))), ?_⟩
    have W := tr0.wf
    have hn := W.le
    refine ⟨_, rfl, t, a, rfl, tr0, fun H1 b s1 hb hl => ?_⟩
    refine ⟨_, rfl, p, rfl, ⟨_, s1.seq hp⟩, for_list (K := K) (a := p) (xs := natV o) (fun i σ H' => ∃ v4 : Option V, σ = [some (.ref t), some (.ref p), some (.ref b), some (.int ((Lk.offM o i : Nat) : Int)), v4] ∧ Same H1 H' ∧ ∀ k x, k < i → o[k]? = some x → x ∈ a.next (Lk.offM o k))
      ⟨none, rfl, Same.refl _, fun k x hk => by omega⟩ (fun i σ H' _ ⟨_, _, s', _⟩ => (s1.trans s').seq hp) ?_ ?_⟩
    · rintro i x σ H2 hi ⟨v4, rfl, s2, hin⟩
      obtain ⟨m, hm, rfl⟩ := natV_at hi
      refine ⟨_, rfl, _, rfl, _, rfl, b, a, Lk.offM o i, rfl, W, SqL.of (s2 _ _ hl), fun H3 q3 s3 hq3 hl3 => ?_⟩
      refine ⟨q3, _, rfl, .inl (SqL.of hl3), rfl, flat_natV _, _, rfl, ?_⟩
      rw [if_pos rfl, in_natV]
      by_cases hmem : m ∈ a.next (Lk.offM o i)
      · rw [decide_eq_true hmem]
        obtain ⟨⟨m0, m1⟩, m2, _⟩ := Lk.mem_next.mp hmem
        refine iteF ⟨_, rfl, _, rfl, m, rfl, m0, by omega, _, _, rfl, rfl, ?_⟩
        show ∃ v4 : Option V, [some (V.ref t), some (V.ref p), some (V.ref b), some (V.int (Builtin.bitOr ((Lk.offM o i : Nat) : Int) ((2 ^ (m - 1) : Nat) : Int))), some (V.int (m : Int))] = _ ∧ _
        rw [or_bit m0 m2, ← Lk.offM_snoc hm]
        refine ⟨_, rfl, s2.trans s3, fun k x hk hx => ?_⟩
        by_cases e : k = i
        · subst e
          rw [hm] at hx
          have := Option.some.inj hx
          exact this ▸ hmem
        · exact hin k x (by omega) hx
      · rw [decide_eq_false hmem]
        exact iteT (kno (Lk.okOff_no hm hmem) H3 (s1.trans (s2.trans s3)))
    · rintro σ H2 ⟨v4, rfl, s2, hin⟩
      rw [len_natV] at hin ⊢
      have hok : a.okOff o = true := Lk.okOff_iff.mpr fun k x hx => hin k x (List.getElem?_eq_some_iff.mp hx).1 hx
      rw [Lk.offM_all]
      refine ⟨_, rfl, _, rfl, b, a, _, rfl, W, SqL.of (s2 _ _ hl), fun H3 q3 s3 hq3 hl3 => ?_⟩
      exact kyes hok H3 q3 ((s1.trans s2).trans s3) ((s1.trans s2).free hq3) hl3
end
end Le

end
section
set_option linter.all false
namespace Lk
open Kv374

noncomputable def pk : List Int → Int
  | [] => 0
  | [x] => x
  | x :: y :: l => max x (x + pk (y :: l))
theorem pk_cons {x : Int} {l : List Int} (h : l ≠ []) : pk (x :: l) = max x (x + pk l) := by
  cases l with
  | nil => exact absurd rfl h
  | cons y l => rfl
theorem pk_append : ∀ {l m : List Int}, l ≠ [] → m ≠ [] → pk (l ++ m) = max (pk l) (l.sum + pk m)
  | [], _, h, _ => absurd rfl h
  | [x], m, _, hm => by
    show pk (x :: m) = _
    rw [pk_cons hm]
    show max x (x + pk m) = max x ([x].sum + pk m)
    rw [show ([x] : List Int).sum = x by simp]
  | x :: y :: l, m, _, hm => by
    show pk (x :: (y :: l ++ m)) = _
    rw [pk_cons (by simp), pk_append (l := y :: l) (by simp) hm, pk_cons (l := y :: l) (by simp), List.sum_cons (a := x)]
    generalize (y :: l).sum = s
    generalize pk (y :: l) = p
    generalize pk m = q
    omega
theorem pk_snoc {l : List Int} {z : Int} (h : l ≠ []) : pk (l ++ [z]) = max (pk l) (l.sum + z) := pk_append h (by simp)
noncomputable def chs (a : Abs) (js : List Nat) : List Int := js.map fun i => (a.part i).change
noncomputable def rowOf (a : Abs) (js : List Nat) : Row := ⟨pk (chs a js), (chs a js).sum, js⟩
theorem chs_append (a : Abs) (l m : List Nat) : chs a (l ++ m) = chs a l ++ chs a m := by unfold chs; rw [List.map_append]
theorem chs_ne {a : Abs} {l : List Nat} (h : l ≠ []) : chs a l ≠ [] := by
  unfold chs
  intro e
  exact h (List.map_eq_nil_iff.mp e)
theorem join_rowOf {a : Abs} {l m : List Nat} (hl : l ≠ []) (hm : m ≠ []) : join (rowOf a l) (rowOf a m) = rowOf a (l ++ m) := by
  unfold join rowOf
  rw [chs_append, pk_append (chs_ne hl) (chs_ne hm), List.sum_append]
noncomputable def key (x : Row) : Int × Int := if x.total ≤ 0 then (0, x.peak) else (1, x.total - x.peak)
noncomputable def kl (p : Int × Int) : List Int := [p.1, p.2]
noncomputable def klt (p q : Int × Int) : Bool := decide (p.1 < q.1) || (decide (p.1 = q.1) && decide (p.2 < q.2))
theorem before_key (x y : Row) : before x y = !klt (key y) (key x) := by
  unfold before key klt
  rw [Bool.eq_iff_iff]
  by_cases hx : x.total ≤ 0 <;> by_cases hy : y.total ≤ 0
  · simp only [hx, hy, if_true]; simp
  · simp only [hx, hy, if_true, if_false]; simp
  · simp only [hx, hy, if_true, if_false]; simp
  · simp only [hx, hy, if_false]; simp; omega

theorem klt_irrefl (p : Int × Int) : klt p p = false := by unfold klt; simp
theorem klt_trans {p q r : Int × Int} (h1 : klt q p = false) (h2 : klt r q = false) : klt r p = false := by
  unfold klt at *
  simp at *
  omega
theorem klt_total (p q : Int × Int) : klt p q = false ∨ klt q p = false := by
  unfold klt
  simp
  omega
theorem klt_antisymm {p q : Int × Int} (h1 : klt p q = false) (h2 : klt q p = false) : p = q := by
  obtain ⟨a, b⟩ := p
  obtain ⟨c, d⟩ := q
  unfold klt at *
  simp at *
  omega
theorem stable_unique {α : Type} (k : α → Int × Int) : ∀ {l m : List α}, l.Pairwise (fun x y => klt (k y) (k x) = false) → m.Pairwise (fun x y => klt (k y) (k x) = false) →
    (∀ c, l.filter (fun x => k x == c) = m.filter (fun x => k x == c)) → l = m
  | [], [], _, _, _ => rfl
  | [], y :: m, _, _, h => by
    have := h (k y)
    rw [List.filter_nil, List.filter_cons, if_pos (by simp)] at this
    cases this
  | x :: l, [], _, _, h => by
    have := h (k x)
    rw [List.filter_nil, List.filter_cons, if_pos (by simp)] at this
    cases this
  | x :: l, y :: m, hl, hm, h => by
    obtain ⟨a1, a2⟩ := List.pairwise_cons.mp hl
    obtain ⟨b1, b2⟩ := List.pairwise_cons.mp hm
    have mem : ∀ {z : α} {u v : List α}, (∀ c, u.filter (fun x => k x == c) = v.filter (fun x => k x == c)) → z ∈ u → z ∈ v := fun {z u v} q hz => by
      have : z ∈ u.filter (fun x => k x == k z) := List.mem_filter.mpr ⟨hz, by simp⟩
      rw [q] at this
      exact (List.mem_filter.mp this).1
    have hx : x ∈ y :: m := mem h List.mem_cons_self
    have hy : y ∈ x :: l := mem (fun c => (h c).symm) List.mem_cons_self
    have c1 : klt (k x) (k y) = false := by
      rcases List.mem_cons.mp hx with z | z
      · rw [z]; exact klt_irrefl _
      · exact b1 x z
    have c2 : klt (k y) (k x) = false := by
      rcases List.mem_cons.mp hy with z | z
      · rw [z]; exact klt_irrefl _
      · exact a1 y z
    have ek : k x = k y := klt_antisymm c1 c2
    have e : x = y := by
      have := h (k x)
      rw [List.filter_cons, if_pos (by simp), List.filter_cons, if_pos (by simp [ek])] at this
      exact (List.cons.inj this).1
    subst e
    congr 1
    refine stable_unique k a2 b2 fun c => ?_
    have := h c
    rw [List.filter_cons, List.filter_cons] at this
    split at this
    · exact (List.cons.inj this).2
    · exact this
theorem before_trans (x y z : Row) : before x y = true → before y z = true → before x z = true := by
  rw [before_key, before_key, before_key]
  simp only [Bool.not_eq_true']
  exact fun h1 h2 => klt_trans h1 h2
theorem before_total (x y : Row) : (before x y || before y x) = true := by
  rw [before_key, before_key, Bool.or_eq_true, Bool.not_eq_true', Bool.not_eq_true']
  exact klt_total (key y) (key x)
theorem filter_sort (l : List Row) (c : Int × Int) : (l.mergeSort before).filter (fun x => key x == c) = l.filter (fun x => key x == c) := by
  have h1 : (l.filter (fun x => key x == c)).Pairwise (fun x y => before x y = true) := by
    refine List.Pairwise.imp_of_mem (R := fun _ _ => True) (fun {x y} hx hy _ => ?_) (by
      induction (l.filter (fun x => key x == c)) with
      | nil => exact List.Pairwise.nil
      | cons a r ih => exact List.pairwise_cons.mpr ⟨fun _ _ => trivial, ih⟩)
    have ex : key x = c := by simpa using (List.mem_filter.mp hx).2
    have ey : key y = c := by simpa using (List.mem_filter.mp hy).2
    rw [before_key, ex, ey, klt_irrefl]
    rfl
  have h2 := List.sublist_mergeSort (le := before) before_trans before_total h1 List.filter_sublist
  have h3 := h2.filter (fun x => key x == c)
  rw [List.filter_filter] at h3
  simp only [Bool.and_self] at h3
  refine (h3.eq_of_length ?_).symm
  exact ((List.mergeSort_perm l before).filter _).length_eq.symm
theorem sort_eq {l m : List Row} (h1 : m.Pairwise (fun x y => klt (key y) (key x) = false)) (h2 : ∀ c, m.filter (fun x => key x == c) = l.filter (fun x => key x == c)) : m = l.mergeSort before := by
  refine stable_unique key h1 ?_ fun c => ?_
  · refine (List.pairwise_mergeSort before_trans before_total l).imp fun {x y} h => ?_
    rw [before_key] at h
    simpa using h
  · rw [h2, filter_sort]

theorem runs_succ (a : Abs) (k i : Nat) : a.runs (k + 1) i = if i = 0 then ((a.boughs i).map fun j => a.runs k j).flatten.mergeSort before else
    (push (((a.boughs i).map fun j => a.runs k j).flatten.mergeSort before).reverse ⟨(a.part i).change, (a.part i).change, [i]⟩).reverse := rfl
theorem runs_more {a : Abs} (W : WF a) : ∀ (d i k k' : Nat), i < a.n → a.n - i ≤ d → a.n - i ≤ k → a.n - i ≤ k' → a.runs k i = a.runs k' i
  | 0, i, k, k', hi, hd, _, _ => by omega
  | d + 1, i, k, k', hi, hd, h1, h2 => by
    obtain ⟨k, rfl⟩ : ∃ q, k = q + 1 := ⟨k - 1, by omega⟩
    obtain ⟨k', rfl⟩ : ∃ q, k' = q + 1 := ⟨k' - 1, by omega⟩
    have e : ((a.boughs i).map fun j => a.runs k j) = (a.boughs i).map fun j => a.runs k' j := by
      refine List.map_congr_left fun j hj => ?_
      have h3 := boughs_gt W hj
      have h4 := (mem_boughs.mp hj).1.2
      exact runs_more W d j k k' h4 (by omega) (by omega) (by omega)
    rw [runs_succ, runs_succ, e]
noncomputable def R (a : Abs) (i : Nat) : List Row := a.runs (a.n - i) i
noncomputable def B (a : Abs) (i : Nat) : List Row := ((a.boughs i).map fun j => R a j).flatten.mergeSort before
theorem told_eq {a : Abs} (W : WF a) : a.told = B a 0 := by
  unfold Abs.told B
  obtain ⟨k, hk⟩ : ∃ q, a.n = q + 1 := ⟨a.n - 1, by have := W.pos; omega⟩
  rw [hk, runs_succ, if_pos rfl]
  have e : ((a.boughs 0).map fun j => a.runs k j) = (a.boughs 0).map fun j => R a j := by
    refine List.map_congr_left fun j hj => ?_
    have h3 := boughs_gt W hj
    have h4 := (mem_boughs.mp hj).1.2
    exact runs_more W a.n j k (a.n - j) h4 (by omega) (by omega) (Nat.le_refl _)
  rw [e]
theorem R_eq {a : Abs} (W : WF a) {i : Nat} (h0 : 0 < i) (hi : i < a.n) : R a i = (push (B a i).reverse (rowOf a [i])).reverse := by
  unfold R B
  obtain ⟨k, hk⟩ : ∃ q, a.n - i = q + 1 := ⟨a.n - i - 1, by omega⟩
  rw [hk, runs_succ, if_neg (by omega)]
  have e : ((a.boughs i).map fun j => a.runs k j) = (a.boughs i).map fun j => R a j := by
    refine List.map_congr_left fun j hj => ?_
    have h3 := boughs_gt W hj
    have h4 := (mem_boughs.mp hj).1.2
    exact runs_more W a.n j k (a.n - j) h4 (by omega) (by omega) (Nat.le_refl _)
  have e2 : rowOf a [i] = ⟨(a.part i).change, (a.part i).change, [i]⟩ := by
    unfold rowOf chs
    simp [pk]
  rw [e, e2]
noncomputable def Fine (a : Abs) (x : Row) : Prop := x = rowOf a x.jobs ∧ x.jobs ≠ [] ∧ ∀ i ∈ x.jobs, 0 < i ∧ i < a.n
theorem Fine.one {a : Abs} {i : Nat} (h0 : 0 < i) (hi : i < a.n) : Fine a (rowOf a [i]) := ⟨rfl, by simp [rowOf], fun j hj => by
  have : j = i := by simpa [rowOf] using hj
  rw [this]; exact ⟨h0, hi⟩⟩
theorem Fine.join {a : Abs} {x y : Row} (hx : Fine a x) (hy : Fine a y) : Fine a (join x y) := by
  refine ⟨?_, ?_, fun i hi => ?_⟩
  · rw [hx.1, hy.1, join_rowOf hx.2.1 hy.2.1]
    rfl
  · show x.jobs ++ y.jobs ≠ []
    simp [hx.2.1]
  · have hi : i ∈ x.jobs ++ y.jobs := hi
    rcases List.mem_append.mp hi with z | z
    · exact hx.2.2 i z
    · exact hy.2.2 i z
theorem push_fine {a : Abs} : ∀ {l : List Row} {s : Row}, (∀ x ∈ l, Fine a x) → Fine a s → ∀ x ∈ push l s, Fine a x
  | [], s, _, hs, x, hx => by
    have : x = s := by simpa [push] using hx
    rw [this]; exact hs
  | p :: r, s, hl, hs, x, hx => by
    unfold push at hx
    split at hx
    · rcases List.mem_cons.mp hx with z | z
      · rw [z]; exact hs
      · exact hl x z
    · exact push_fine (l := r) (fun y hy => hl y (List.mem_cons_of_mem _ hy)) ((hl p List.mem_cons_self).join hs) x hx
noncomputable def jobsOf (l : List Row) : List Nat := (l.map fun x => x.jobs).flatten
theorem jobsOf_cons (x : Row) (l : List Row) : jobsOf (x :: l) = x.jobs ++ jobsOf l := by unfold jobsOf; rw [List.map_cons, List.flatten_cons]
theorem jobsOf_append (l m : List Row) : jobsOf (l ++ m) = jobsOf l ++ jobsOf m := by unfold jobsOf; rw [List.map_append, List.flatten_append]
theorem push_jobs : ∀ (l : List Row) (s : Row), (jobsOf (push l s)).length = (jobsOf l).length + s.jobs.length
  | [], s => by simp [push, jobsOf]
  | p :: r, s => by
    unfold push
    split
    · rw [jobsOf_cons, List.length_append, Nat.add_comm]
    · rw [push_jobs r, jobsOf_cons, List.length_append]
      show _ + (p.jobs ++ s.jobs).length = _
      rw [List.length_append]
      omega
theorem jobs_perm {l m : List Row} (h : l.Perm m) : (jobsOf l).Perm (jobsOf m) := by
  unfold jobsOf
  exact (h.map _).flatten
theorem jobs_rev (l : List Row) : (jobsOf l.reverse).length = (jobsOf l).length := (jobs_perm l.reverse_perm).length_eq
theorem R_fine {a : Abs} (W : WF a) : ∀ (d i : Nat), a.n - i ≤ d → (0 < i → i < a.n → ∀ x ∈ R a i, Fine a x) ∧ (i < a.n → ∀ x ∈ B a i, Fine a x)
  | 0, i, h => ⟨fun _ _ => by omega, fun _ => by omega⟩
  | d + 1, i, h => by
    have hB : i < a.n → ∀ x ∈ B a i, Fine a x := fun hi x hx => by
      unfold B at hx
      have hx := (List.mergeSort_perm _ before).mem_iff.mp hx
      obtain ⟨l, hl, hxl⟩ := List.mem_flatten.mp hx
      obtain ⟨j, hj, rfl⟩ := List.mem_map.mp hl
      have h3 := boughs_gt W hj
      have h4 := (mem_boughs.mp hj).1
      exact (R_fine W d j (by omega)).1 h4.1 h4.2 x hxl
    refine ⟨fun h0 hi x hx => ?_, hB⟩
    rw [R_eq W h0 hi] at hx
    exact push_fine (fun y hy => hB hi y (List.mem_reverse.mp hy)) (Fine.one h0 hi) x (List.mem_reverse.mp hx)
theorem B_fine {a : Abs} (W : WF a) {i : Nat} (hi : i < a.n) : ∀ x ∈ B a i, Fine a x := (R_fine W (a.n - i) i (Nat.le_refl _)).2 hi
theorem R_fine' {a : Abs} (W : WF a) {i : Nat} (h0 : 0 < i) (hi : i < a.n) : ∀ x ∈ R a i, Fine a x := (R_fine W (a.n - i) i (Nat.le_refl _)).1 h0 hi
end Lk

end
section
set_option Elab.async false
set_option linter.all false
set_option maxRecDepth 100000
set_option maxHeartbeats 4000000
namespace Le
open PySem PySem.Spec PyProof.Rows L2
open Kv374 (Abs Part has add far Row)
noncomputable abbrev sPeak : Stmt := top 19
noncomputable abbrev sTotal : Stmt := top 20
noncomputable abbrev sStand : Stmt := top 21
theorem cut1 (xs : List V) : cutV xs (some 1) none = xs.drop 1 := by
  unfold cutV HT.sIx
  simp only [show ¬ ((1 : Int) < 0) by decide, if_false]
  cases xs with
  | nil => rfl
  | cons x r =>
    rw [show min (1 : Int).toNat (x :: r).length = 1 by rw [List.length_cons]; simp, List.drop_one, List.tail_cons, List.length_cons, Nat.add_sub_cancel, List.take_length]
section
variable {P : Program} {w : World} {K : PySem.W.Frag} {mg : Str → Option Value} {base : Heap} {C : Addr}
structure RowIn (K : PySem.W.Frag) (H : Hp) (c p : Addr) (a : Abs) (js : List Nat) : Prop where
  ch : SqL K H c (chV a)
  row : SqL K H p (natV js)
  ne : js ≠ []
  ok : ∀ i ∈ js, i < a.n
  len : js.length ≤ 1000
theorem RowIn.same {H H' : Hp} {c p : Addr} {a : Abs} {js : List Nat} (r : RowIn K H c p a js) (s : Same H H') : RowIn K H' c p a js := ⟨s.seq r.ch, s.seq r.row, r.ne, r.ok, r.len⟩
noncomputable def spPeak (K : PySem.W.Frag) : Sp := fun vs H Q _ => ∃ (c p : Addr) (a : Abs) (js : List Nat), vs = [.ref c, .ref p] ∧ RowIn K H c p a js ∧ ∀ H', Same H H' → Q (.int (Lk.pk (Lk.chs a js))) H'
theorem scPeak : FnScope ["changes", "row", "added", "greatest", "part"] ["changes", "row"] (defScope sPeak) := ⟨rfl, rfl, rfl, by decide +kernel, rfl, by decide +kernel, by decide +kernel⟩
theorem chs_take {a : Abs} {js : List Nat} {i m : Nat} (h : js[i]? = some m) : Lk.chs a (js.take (i + 1)) = Lk.chs a (js.take i) ++ [(a.part m).change] := by
  rw [take_snoc h, Lk.chs_append]
  rfl
theorem ok_peak {f : Addr} {fd : FuncData} (F : Fun K "peak" "peak" sPeak f fd) (T : Txt K mg C) : FnOk P w K mg base CX0 1 f fd ["changes", "row"] (spPeak K) := by
  refine F.ok scPeak (fun vs H Q E h => ?_) (fun cdv A outer s H vs Q E hr h => ?_)
  · obtain ⟨c, p, a, js, rfl, _⟩ := h
    rfl
  · obtain ⟨c, p, a, js, rfl, r, k⟩ := h
    have nd := scPeak.nd
    refine ⟨_, pss_cons (ps_set (i := 2) nd rfl (Or.inl rfl) (pe_ix ix_list (pv 0) (pe_ix ix_list (pv 1) pe_int (fun _ _ => rfl)) (fun _ _ => rfl)))
      (pss_cons (ps_set (i := 3) nd rfl (Or.inl rfl) (pv 2))
      (pss_cons (ps_for PassesOwn.never rfl (pi_list (pe_slice sl_list (pv 1) (po_some pe_int) po_none)) (pg_name (i := 4) nd rfl (Or.inl rfl))
        (pss_cons (ps_aug (i := 2) nd rfl (Or.inl rfl) (pe_ix ix_list (pv 0) (pv 4) (fun _ _ => rfl)) ip_add)
        (pss_one (ps_set (i := 3) nd rfl (Or.inl rfl) (pe_callB (call_max2 rfl) (by rfl) T.max bt_max (pa_cons (pv 3) (pa_cons (pv 2) pa_nil)))))))
      (pss_one (ps_ret (pv 3))))), ?_⟩
    obtain ⟨hc, hp, hne, hok, hlen⟩ := r
    obtain ⟨j0, jr, rfl⟩ : ∃ j0 jr, js = j0 :: jr := by
      cases js with
      | nil => exact absurd rfl hne
      | cons x r => exact ⟨x, r, rfl⟩
    have h0 := hok j0 List.mem_cons_self
    refine ⟨_, rfl, _, rfl, p, _, _, _, rfl, rfl, hp, atI_nat (j := 0) rfl, c, _, _, _, rfl, rfl, hc, atI_nat (ch_at h0), _, rfl, _, rfl, _, rfl, p, _, rfl, hp, fun q hq => ?_⟩
    rw [cut1]
    have s1 : Same H (upd H q (.lst ((natV (j0 :: jr)).drop 1))) := same_upd hq
    refine ⟨q, rfl, ⟨_, SqL.of upd_same⟩, for_list (K := K) (a := q) (xs := natV jr) (fun i σ H' => i ≤ jr.length ∧ ∃ v4 : Option V, σ = [some (.ref c), some (.ref p), some (.int (Lk.chs a ((j0 :: jr).take (i + 1))).sum), some (.int (Lk.pk (Lk.chs a ((j0 :: jr).take (i + 1))))), v4] ∧ H' = upd H q (.lst ((natV (j0 :: jr)).drop 1)))
      ⟨Nat.zero_le _, none, ?_, rfl⟩ (fun i σ H' _ ⟨_, _, _, e⟩ => by rw [e]; exact SqL.of upd_same) ?_ ?_⟩
    · have e1 : Lk.chs a ((j0 :: jr).take (0 + 1)) = [(a.part j0).change] := rfl
      have e2 : ([(a.part j0).change] : List Int).sum = (a.part j0).change := by simp
      rw [e1, e2]
      rfl
    · rintro i x σ H2 hi ⟨_, v4, rfl, rfl⟩
      obtain ⟨m, hm, rfl⟩ := natV_at hi
      have hi' : i < jr.length := (List.getElem?_eq_some_iff.mp hm).1
      have hmn := hok m (List.mem_cons_of_mem _ (List.mem_of_getElem? hm))
      have hm2 : (j0 :: jr)[i + 1]? = some m := hm
      refine ⟨_, rfl, _, rfl, _, rfl, c, _, _, _, rfl, rfl, s1.seq hc, atI_nat (ch_at hmn), _, _, rfl, rfl, _, rfl, _, rfl, _, _, rfl, ?_⟩
      have ec := chs_take (a := a) hm2
      have es : (Lk.chs a ((j0 :: jr).take (i + 1))).sum + (a.part m).change = (Lk.chs a ((j0 :: jr).take (i + 1 + 1))).sum := by rw [ec, List.sum_append]; simp
      have ep : (if (Lk.chs a ((j0 :: jr).take (i + 1))).sum + (a.part m).change > Lk.pk (Lk.chs a ((j0 :: jr).take (i + 1))) then (Lk.chs a ((j0 :: jr).take (i + 1))).sum + (a.part m).change else Lk.pk (Lk.chs a ((j0 :: jr).take (i + 1)))) = Lk.pk (Lk.chs a ((j0 :: jr).take (i + 1 + 1))) := by
        rw [ec, Lk.pk_snoc (Lk.chs_ne (by simp))]
        split <;> omega
      dsimp only
      rw [ep, es]
      exact ⟨by omega, _, rfl, rfl⟩
    · rintro σ H2 ⟨_, v4, rfl, rfl⟩
      refine ⟨_, rfl, ?_⟩
      rw [len_natV, List.take_of_length_le (by simp)]
      exact k _ s1

noncomputable def totF (a : Abs) (x : V) : V := match x with
  | .int z => .int (a.part z.toNat).change
  | v => v
theorem totF_nat (a : Abs) (i : Nat) : totF a (V.int (i : Int)) = V.int (a.part i).change := rfl
theorem map_totF (a : Abs) (l : List Nat) : ((natV l).filter fun _ => true).map (totF a) = (Lk.chs a l).map V.int := by
  rw [List.filter_eq_self.mpr (fun _ _ => rfl)]
  unfold natV Lk.chs
  rw [List.map_map, List.map_map]
  rfl
noncomputable def spTotal (K : PySem.W.Frag) : Sp := fun vs H Q _ => ∃ (c p : Addr) (a : Abs) (js : List Nat), vs = [.ref c, .ref p] ∧ RowIn K H c p a js ∧ ∀ H', Same H H' → Q (.int (Lk.chs a js).sum) H'
theorem scTotal : FnScope ["changes", "row", "part"] ["changes", "row"] (defScope sTotal) := ⟨rfl, rfl, rfl, by decide +kernel, rfl, by decide +kernel, by decide +kernel⟩
theorem ok_total {f : Addr} {fd : FuncData} (F : Fun K "total" "total" sTotal f fd) (T : Txt K mg C) : FnOk P w K mg base CX0 1 f fd ["changes", "row"] (spTotal K) := by
  refine F.ok scTotal (fun vs H Q E h => ?_) (fun cdv A outer s H vs Q E hr h => ?_)
  · obtain ⟨c, p, a, js, rfl, _⟩ := h
    rfl
  · obtain ⟨c, p, a, js, rfl, r, k⟩ := h
    refine ⟨_, pss_one (ps_ret (pe_callB (cr_sum rfl) (by rfl) T.sum bt_sum (pa_cons (pe_lc (own := [("part", 2)]) (te := tOp (rIxL K) (tVar 0) (tVar 2)) rfl scTotal.nd (pi_list (pv 1)) (blkOk_by (by show blkC ["changes", "row", "part"] (defScope sTotal) _ _ = true; decide +kernel))
      (fun _ _ _ _ _ => pg_name (i := 2) scTotal.nd rfl (Or.inl rfl)) (fun _ _ _ _ _ => pts_nil) (fun _ _ _ _ _ => pe_ix ix_list (pv 0) (pv 2) (fun _ _ => rfl))) pa_nil))), ?_⟩
    refine ⟨_, rfl, p, rfl, ⟨_, r.row⟩, fun D hD => ?_⟩
    refine lc_same (K := K) (fun _ => true) (totF a) r.row (by rw [len_natV]; exact Nat.le_trans r.len (by decide)) hD (fun j x H2 acc Nx hj s2 hacc kk => ?_) fun H2 s2 hq => ?_
    · obtain ⟨m, hm, rfl⟩ := natV_at hj
      have kk' := kk H2 (Same.refl _)
      rw [if_pos rfl, totF_nat] at kk'
      exact ⟨rfl, iteT (B := Nx H2) ⟨_, rfl, _, rfl, c, _, _, _, rfl, rfl, s2.seq r.ch, atI_nat (ch_at (r.ok m (List.mem_of_getElem? hm))), kk'⟩⟩
    · rw [map_totF] at hq
      exact ⟨D, _, rfl, SqL.of hq, k H2 s2⟩

noncomputable def spStand (K : PySem.W.Frag) : Sp := fun vs H Q _ => ∃ (c p : Addr) (a : Abs) (js : List Nat), vs = [.ref c, .ref p] ∧ RowIn K H c p a js ∧
  ∀ (H' : Hp) (q : Addr), Same H H' → H q = none → H' q = some (.tup ((Lk.kl (Lk.key (Lk.rowOf a js))).map V.int)) → Q (.ref q) H'
theorem scStand : FnScope ["changes", "row", "all_added", "greatest"] ["changes", "row"] (defScope sStand) := ⟨rfl, rfl, rfl, by decide +kernel, rfl, by decide +kernel, by decide +kernel⟩
theorem ok_stand {f : Addr} {fd : FuncData} (F : Fun K "standing" "standing" sStand f fd) (GT : Callee P w K mg base 1 "total" ["changes", "row"] (spTotal K)) (GP : Callee P w K mg base 1 "peak" ["changes", "row"] (spPeak K)) :
    FnOk P w K mg base CX0 2 f fd ["changes", "row"] (spStand K) := by
  refine F.ok scStand (fun vs H Q E h => ?_) (fun cdv A outer s H vs Q E hr h => ?_)
  · obtain ⟨c, p, a, js, rfl, _⟩ := h
    rfl
  · obtain ⟨c, p, a, js, rfl, r, k⟩ := h
    have nd := scStand.nd
    refine ⟨_, pss_cons (ps_set (i := 2) nd rfl (Or.inl rfl) (pe_callC GT hr rfl (pa_cons (pv 0) (pa_cons (pv 1) pa_nil))))
      (pss_cons (ps_set (i := 3) nd rfl (Or.inl rfl) (pe_callC GP hr rfl (pa_cons (pv 0) (pa_cons (pv 1) pa_nil))))
      (pss_cons (ps_if (pt_cmpR op_le (pv 2) pe_int (nomark _)) (pss_one (ps_ret (pe_tup (pa_cons pe_int (pa_cons (pv 3) pa_nil))))) pss_nil)
      (pss_one (ps_ret (pe_tup (pa_cons pe_int (pa_cons (pe_op op_sub (pv 2) (pv 3)) pa_nil))))))), ?_⟩
    refine ⟨_, rfl, _, rfl, c, p, a, js, rfl, r, fun H1 s1 => ⟨_, rfl, _, rfl, c, p, a, js, rfl, r.same s1, fun H2 s2 => ?_⟩⟩
    have s12 := s1.trans s2
    refine ⟨_, rfl, _, _, rfl, rfl, _, rfl, ite2 (fun e => ?_) fun e => ?_⟩
    · have e' : (Lk.chs a js).sum ≤ 0 := of_decide_eq_true e
      refine ⟨_, rfl, by show 2 ≤ sizeLine; decide, fun q hq => k _ q (s12.trans (same_upd hq)) (s12.free hq) ?_⟩
      rw [upd_same]
      unfold Lk.key Lk.rowOf
      rw [if_pos e']
      rfl
    · have e' : ¬ (Lk.chs a js).sum ≤ 0 := fun z => e (decide_eq_true z)
      refine ⟨_, rfl, _, rfl, _, _, rfl, rfl, by show 2 ≤ sizeLine; decide, fun q hq => k _ q (s12.trans (same_upd hq)) (s12.free hq) ?_⟩
      rw [upd_same]
      unfold Lk.key Lk.rowOf
      rw [if_neg e']
      rfl
end
end Le

end
section
set_option Elab.async false
set_option linter.all false
set_option maxRecDepth 100000
set_option maxHeartbeats 4000000
namespace L2
open PySem PySem.Spec PyProof.Rows

section
variable {X : Cx} {pins : List (Addr × Obj)} {σ : St} {H : Hp} {s : Shared}
theorem Inv.track {a : Addr} {o : HO} (I : Inv X pins σ H s) (f : FpOk X pins H a) (hs : X.s_0.heap.objs.size ≤ a) (new : ObjOk X.prog X.w (upd H a o) s.heap a o) : Inv X pins σ (upd H a o) s := by
  obtain ⟨f0, f1, f2, f3, f4, f5⟩ := f
  have old : ∀ b ob, X.s_0.heap.get? b = some ob → b ≠ a := fun b ob e => Nat.ne_of_lt (Nat.lt_of_lt_of_le (Heap.lt_size e) hs)
  have trk : ∀ {b : Addr} {u : HO}, H b = some u → b ≠ a := fun {b u} e z => by
    rw [z, f0] at e
    cases e
  refine ⟨I.ok, I.os, I.bare, ⟨I.base.keep, I.base.slot, fun b ob e n hx => ?_, I.base.there, fun b xs e => ?_, fun b ob u e => ?_, fun b ps e => ?_⟩, I.loc, I.cell, ?_, fun x c e => ?_, fun p hp => ?_, fun b u e => ?_, I.len⟩
  · rw [upd_ne (old b ob e)]
    exact I.base.free b ob e n hx
  · have z := I.base.tups b xs e
    rw [upd_ne (trk z)]
    exact z
  · have z := I.base.frzs b ob u e
    rw [upd_ne (trk z)]
    exact z
  · obtain ⟨more, z⟩ := I.base.tbls b ps e
    exact ⟨more, by rw [upd_ne (trk z)]; exact z⟩
  · rw [upd_ne (fun z => f1 z.symm)]
    exact I.free
  · rw [upd_ne (f4 x c e)]
    exact I.freeC x c e
  · obtain ⟨e, n, ne, nf, d⟩ := I.pin p hp
    exact ⟨e, by rw [upd_ne (f5 p hp)]; exact n, ne, nf, d⟩
  · by_cases hb : b = a
    · subst hb
      rw [upd_same] at e
      cases e
      exact new
    · rw [upd_ne hb] at e
      exact (I.hok b u e).stay (fun c v _ q => q) (fun c q => by rw [upd_ne (trk q)]; exact q) fun c xs q => by rw [upd_ne (trk q)]; exact q
theorem Inv.pinOne {a : Addr} {o : Obj} (I : Inv X pins σ H s) (f : FpOk X pins H a) (ho : s.heap.get? a = some o) (hd : ∀ v, o.data ≠ .cell v) : Inv X (pins ++ [(a, o)]) σ H s :=
  I.pins_of fun p hp => (List.mem_append.mp hp).elim (fun z => I.pin p (List.mem_append_right _ z)) fun z => by
    have e : p = (a, o) := List.mem_singleton.mp z
    subst e
    exact ⟨ho, f.1, f.2.1, f.2.2.1, hd⟩
end
theorem RelV.xd {x : V} {u : Value} (r : RelV x u) : (absV u).getD .non = x := by rw [r.abs]; rfl

noncomputable abbrev sh0 : Nat → Bool := fun _ => false
noncomputable def keyd (h : Heap) (v : Value) : Int × Int := match G.tupKeyC h sh0 v with
  | some [.inl a, .inl b] => (a, b)
  | _ => (0, 0)
noncomputable abbrev kvec (c : Int × Int) : List (Int ⊕ List Nat) := [.inl c.1, .inl c.2]
theorem lex2 (c d : Int × Int) : (listOrd itemOrd).blt (kvec c) (kvec d) = Lk.klt c d := by
  obtain ⟨a, b⟩ := c
  obtain ⟨c, d⟩ := d
  have e : (listOrd itemOrd).blt (kvec (a, b)) (kvec (c, d)) = (decide (a < c) || (!decide (c < a) && (decide (b < d) || (!decide (d < b) && false)))) := rfl
  rw [e]
  unfold Lk.klt
  rw [Bool.eq_iff_iff]
  simp only [Bool.or_eq_true, Bool.and_eq_true, Bool.not_eq_true', decide_eq_true_eq, decide_eq_false_iff_not, Bool.and_false, Bool.false_eq_true, or_false]
  omega
noncomputable def IsKey (h : Heap) (v : Value) (c : Int × Int) : Prop := ∃ p o its n t u, v = .ref p ∧ h.get? p = some o ∧ o.cls = .type "tuple" ∧ o.data = .seq its n ∧ its = #[Value.int c.1 t, Value.int c.2 u]
theorem IsKey.keyC {h : Heap} {v : Value} {c : Int × Int} (k : IsKey h v c) : G.tupKeyC h sh0 v = some (kvec c) := by
  obtain ⟨p, o, its, n, t, u, rfl, ho, hc, hd, rfl⟩ := k
  unfold G.tupKeyC
  have e : G.isTupObj h (.ref p) = true := by
    simp only [G.isTupObj, ho, hc]
    rfl
  rw [if_pos e]
  unfold tupKey
  simp only [ho, hd]
  rfl
theorem IsKey.keyd {h : Heap} {v : Value} {c : Int × Int} (k : IsKey h v c) : keyd h v = c := by
  unfold L2.keyd
  rw [k.keyC]
theorem IsKey.tup {h : Heap} {v : Value} {c : Int × Int} (k : IsKey h v c) : ∃ f, TupOf h sh0 v f := by
  obtain ⟨p, o, its, n, t, u, rfl, ho, hc, hd, rfl⟩ := k
  exact ⟨_, p, o, _, n, rfl, ho, hc, hd, rfl, fun _ => ⟨_, _, rfl⟩, fun z => by cases z⟩
theorem keys_tups {h : Heap} : ∀ {kA : List Value} {kz : List (Int × Int)}, Paired (IsKey h) kA kz → ∃ fs, TupsOf h sh0 kA fs ∧ fs.length = kA.length
  | _, _, .nil => ⟨[], .nil, rfl⟩
  | _, _, .cons k r => by
    obtain ⟨f, hf⟩ := k.tup
    obtain ⟨fs, h1, h2⟩ := keys_tups r
    exact ⟨f :: fs, .cons hf h1, by rw [List.length_cons, List.length_cons, h2]⟩
theorem keys_mem {h : Heap} : ∀ {kA : List Value} {kz : List (Int × Int)}, Paired (IsKey h) kA kz → ∀ v ∈ kA, ∃ c, IsKey h v c
  | _, _, .nil, v, hv => by cases hv
  | _, _, .cons k r, v, hv => by
    rcases List.mem_cons.mp hv with z | z
    · rw [z]; exact ⟨_, k⟩
    · exact keys_mem r v z
structure SortedBy (h : Heap) (ps zs : List Keyed) : Prop where
  perm : ps.Perm zs
  pw : ps.Pairwise fun p q => Lk.klt (keyd h q.1) (keyd h p.1) = false
  st : ∀ c : Int × Int, ps.filter (fun p => keyd h p.1 == c) = zs.filter (fun p => keyd h p.1 == c)
theorem sorted_by {h : Heap} {xs : Array Keyed} {zs : List Keyed} (hz : ∀ p ∈ zs, ∃ c, IsKey h p.1 c) (hp : xs.Perm zs.toArray) (hs : SortedToK (G.tupKindC h sh0) xs xs.size) (hst : Stable (G.tupKindC h sh0) xs zs.toArray) : SortedBy h xs.toList zs := by
  have hl : xs.toList.Perm zs := by
    have := Array.perm_iff_toList_perm.mp hp
    simpa using this
  have hx : ∀ p ∈ xs.toList, ∃ c, IsKey h p.1 c := fun p hp' => hz p (hl.mem_iff.mp hp')
  refine ⟨hl, ?_, fun c => ?_⟩
  · rw [List.pairwise_iff_getElem]
    intro i j hi hj hij
    have hi' : i < xs.size := by simpa using hi
    have hj' : j < xs.size := by simpa using hj
    have q := hs i j (Nat.le_of_lt hij) hj'
    obtain ⟨ci, ki⟩ := hx _ (List.getElem_mem hi)
    obtain ⟨cj, kj⟩ := hx _ (List.getElem_mem hj)
    have ei : KK (G.tupKindC h sh0) xs i = kvec ci := by
      unfold KK
      have e0 : xs[i]? = some (xs.toList[i]) := by simp [hi']
      rw [e0]
      show (G.tupKeyC h sh0 (xs.toList[i]).1).getD _ = _
      rw [ki.keyC]
      rfl
    have ej : KK (G.tupKindC h sh0) xs j = kvec cj := by
      unfold KK
      have e0 : xs[j]? = some (xs.toList[j]) := by simp [hj']
      rw [e0]
      show (G.tupKeyC h sh0 (xs.toList[j]).1).getD _ = _
      rw [kj.keyC]
      rfl
    rw [ei, ej] at q
    have q' : (listOrd itemOrd).blt (kvec cj) (kvec ci) = false := q
    rw [lex2] at q'
    rw [ki.keyd, kj.keyd]
    exact q'
  · have e : ∀ l : List Keyed, (∀ p ∈ l, ∃ c, IsKey h p.1 c) → l.filter (fun p => keyd h p.1 == c) = rowOf (G.tupKindC h sh0) (kvec c) l := fun l hl' => by
      unfold rowOf
      refine List.filter_congr fun p hp' => ?_
      obtain ⟨d, kd⟩ := hl' p hp'
      unfold sameKey
      have kk : (G.tupKindC h sh0).keyOf p.1 = some (kvec d) := kd.keyC
      rw [kk, kd.keyd]
      show (d == c) = (!(listOrd itemOrd).blt (kvec d) (kvec c) && !(listOrd itemOrd).blt (kvec c) (kvec d))
      rw [lex2, lex2]
      by_cases hdc : d = c
      · subst hdc
        rw [Lk.klt_irrefl]
        simp
      · have : ¬ (Lk.klt d c = false ∧ Lk.klt c d = false) := fun z => hdc (Lk.klt_antisymm z.1 z.2)
        have e1 : (d == c) = false := by simpa using hdc
        rw [e1]
        cases h1 : Lk.klt d c <;> cases h2 : Lk.klt c d <;> simp
        exact this ⟨h1, h2⟩
    have t := hst (kvec c)
    rw [e _ hx, e _ hz, t]
section
variable {prog : Program} {w : World} {A : Around} {E : Value → Shared → Prop} {s : Shared} {a kS : Addr} {e e1 : Nat} {kA its : List Value} {kz : List (Int × Int)} {P : PySem.Fin → Shared → Prop}
theorem skt_tail {st : SortSt} (hkS : s.heap.get? kS = some (seqObj "list" kA.toArray e)) (ha : s.heap.get? a = some (seqObj "list" #[] e1)) (hka : kS ≠ a) (hlk : kA.length = its.length) (hZ : its.length ≤ sizeLine)
    (hp : (arrOf st).Perm (kA.zip its).toArray) (hfl : failedOf st = none)
    (h : P (.done (.ret .none)) { s with heap := (s.heap.update kS (Obj.mapSeq fun _ => #[])).update a (Obj.mapSeq fun _ => ((arrOf st).map (·.2))) }) :
    wpAny (model prog w) A (ksk_tail a false e1 (.ref kS) st) P E s := by
  have hZ2 := hZ
  rw [sizeLine_eq] at hZ2
  have hsz2 : (arrOf st).size = its.length := by rw [hp.size_eq, List.size_toArray, List.length_zip, hlk, Nat.min_self]
  have s1 := Heap.SameBut.update s.heap kS (Obj.mapSeq fun _ => (#[] : Array Value))
  have na1 : (s.heap.update kS (Obj.mapSeq fun _ => (#[] : Array Value))).get? a = some (seqObj "list" #[] e1) := (s1.2 a hka.symm).trans ha
  unfold ksk_tail
  try dsimp only
  refine wpAny_bind (listUpdate_at hkS rfl ?_ (by rw [List.size_toArray, hlk, sizeLine_eq]; omega) (Nat.zero_le _))
  refine wpAny_bind (wpAny_letGo ?_)
  refine wpAny_bind (seqEpoch_at na1 rfl ?_)
  refine wpAny_bind (listUpdate_at na1 rfl ?_ (Nat.zero_le _) (Nat.le_trans (Nat.le_of_eq (show ((arrOf st).map (·.2)).size = its.length by rw [Array.size_map, hsz2])) (by rw [sizeLine_eq]; omega)))
  rw [hfl]
  simp only [bne_self_eq_false, Bool.false_eq_true, if_false]
  exact wpAny_pure h
theorem skt_end (hkS : s.heap.get? kS = some (seqObj "list" kA.toArray e)) (ha : s.heap.get? a = some (seqObj "list" #[] e1)) (hka : kS ≠ a) (hk : Paired (IsKey s.heap) kA kz) (hlk : kA.length = its.length) (hZ : its.length ≤ sizeLine)
    (h : ∀ ps : List Keyed, SortedBy s.heap ps (kA.zip its) → P (.done (.ret .none)) { s with heap := (s.heap.update kS (Obj.mapSeq fun _ => #[])).update a (Obj.mapSeq fun _ => (ps.map (·.2)).toArray) }) :
    wpAny (model prog w) A (ksk_end a false its.toArray e1 (.ref kS) kA.toArray) P E s := by
  have hz : ∀ p ∈ kA.zip its, ∃ c, IsKey s.heap p.1 c := fun p hp => keys_mem hk p.1 (List.of_mem_zip hp).1
  have ez : kA.toArray.zip its.toArray = (kA.zip its).toArray := Array.ext' (by rw [ksk_zip])
  have fin : ∀ st : SortSt, (arrOf st).Perm (kA.zip its).toArray → failedOf st = none → SortedToK (G.tupKindC s.heap sh0) (arrOf st) (arrOf st).size → Stable (G.tupKindC s.heap sh0) (arrOf st) (kA.zip its).toArray →
      wpAny (model prog w) A (ksk_tail a false e1 (.ref kS) st) P E s := fun st h1 h2 h3 h4 => by
    refine skt_tail hkS ha hka hlk hZ h1 h2 ?_
    have := h (arrOf st).toList (sorted_by hz h1 h3 h4)
    have e0 : ((arrOf st).toList.map (·.2)).toArray = (arrOf st).map (·.2) := Array.ext' (by rw [Array.toList_map])
    rw [e0] at this
    exact this
  unfold ksk_end
  try dsimp only
  simp only [Bool.false_eq_true, if_false, ez]
  by_cases h2 : its.toArray.size < 2
  · rw [if_pos h2, if_pos h2]
    refine wpAny_bind (wpAny_pure ?_)
    rw [StateT.run_pure]
    refine wpAny_bind (wpAny_pure ?_)
    try dsimp only
    refine fin (SortSt.mk' general' (kA.zip its).toArray #[] 7 none) (Array.Perm.refl _) rfl ?_ (Stable.refl _)
    intro i j hij hj
    have hj2 : j < (kA.zip its).toArray.size := hj
    rw [List.size_toArray, List.length_zip, hlk, Nat.min_self] at hj2
    rw [List.size_toArray] at h2
    have : i = j := by omega
    subst this
    exact KeyOrd.kle_refl _
  · rw [if_neg h2, if_neg h2]
    rw [List.size_toArray] at h2
    obtain ⟨fs, ht, hfs⟩ := keys_tups hk
    have hss : (kA.zip its).toArray.size = its.length := by rw [List.size_toArray, List.length_zip, hlk, Nat.min_self]
    refine wpAny_bind (tup_kind (by rw [hfs]; omega) ht ?_)
    refine wpAny_bind (wpAny_mono (G.wpS_sortRunsSt (κ := G.tupKindC s.heap sh0) (kd := tuples' true) (a₀ := (kA.zip its).toArray) (st := SortSt.mk' (tuples' true) (kA.zip its).toArray #[] 7 none)
      (Q := fun _ st' => (arrOf st').Perm (kA.zip its).toArray ∧ failedOf st' = none ∧ SortedToK (G.tupKindC s.heap sh0) (arrOf st') (arrOf st').size ∧ Stable (G.tupKindC s.heap sh0) (arrOf st') (kA.zip its).toArray)
      (G.tupC_ltAt true (G.KeepsTups.refl _)) (fun p hp => ?_) ⟨Array.Perm.refl _, rfl, rfl⟩ rfl (Stable.refl _) (by rw [hss]; omega)
      fun st' a1 a2 a3 a4 => ⟨a1, a2, by rw [a1.size_eq]; exact a3, a4⟩) ?_ fun _ _ e => e)
    · obtain ⟨c, kc⟩ := hz p (by simpa using hp)
      exact ⟨_, kc.keyC⟩
    rintro ⟨⟨⟩, st'⟩ s' ⟨rfl, hp, hf, hs, hst⟩
    try dsimp only
    exact fin st' hp hf hs hst
end
end L2

end
section
set_option Elab.async false
set_option linter.all false
set_option maxRecDepth 100000
set_option maxHeartbeats 4000000
namespace L2
open PySem PySem.Spec PyProof.Rows
noncomputable def xd (u : Value) : V := (absV u).getD .non
theorem Vals.xd : ∀ {xs : List V} {us : List Value}, Vals xs us → us.map xd = xs
  | _, _, .nil => rfl
  | _, _, .cons r t => by rw [List.map_cons, Vals.xd t]; congr 1; exact r.xd
theorem vals_of_mem : ∀ {us : List Value}, (∀ u ∈ us, ∃ x, RelV x u) → Vals (us.map L2.xd) us
  | [], _ => .nil
  | u :: us, h => by
    obtain ⟨x, r⟩ := h u List.mem_cons_self
    refine .cons ?_ (vals_of_mem fun v hv => h v (List.mem_cons_of_mem _ hv))
    show RelV (L2.xd u) u
    unfold L2.xd
    rw [r.xd]
    exact r
theorem Vals.mem : ∀ {xs : List V} {us : List Value}, Vals xs us → ∀ u ∈ us, ∃ x, RelV x u
  | _, _, .nil, u, h => by cases h
  | _, _, .cons r t, u, h => by
    rcases List.mem_cons.mp h with z | z
    · rw [z]; exact ⟨_, r⟩
    · exact Vals.mem t u z
noncomputable def KeysT (ky : V → Int × Int) (H : Hp) : List Value → List V → Prop := Paired fun v x => ∃ p, v = .ref p ∧ H p = some (.tup [.int (ky x).1, .int (ky x).2])
theorem KeysT.snoc {ky : V → Int × Int} {H : Hp} : ∀ {kA : List Value} {xs : List V} {v : Value} {x : V}, KeysT ky H kA xs → (∃ p, v = .ref p ∧ H p = some (.tup [.int (ky x).1, .int (ky x).2])) → KeysT ky H (kA ++ [v]) (xs ++ [x])
  | _, _, _, _, .nil, h => .cons h .nil
  | _, _, _, _, .cons a r, h => .cons a (KeysT.snoc r h)
theorem KeysT.same {ky : V → Int × Int} {H H' : Hp} (s : Same H H') : ∀ {kA : List Value} {xs : List V}, KeysT ky H kA xs → KeysT ky H' kA xs
  | _, _, .nil => .nil
  | _, _, .cons ⟨p, e, h⟩ r => .cons ⟨p, e, s _ _ h⟩ (KeysT.same s r)
section
variable {X : Cx} {pins : List (Addr × Obj)} {σ : St} {H : Hp} {s : Shared}
theorem KeysT.is {ky : V → Int × Int} (I : Inv X pins σ H s) : ∀ {kA : List Value} {xs : List V}, KeysT ky H kA xs → Paired (IsKey s.heap) kA (xs.map ky)
  | _, _, .nil => .nil
  | _, _, .cons ⟨p, e, h⟩ r => by
    refine .cons ?_ (KeysT.is I r)
    obtain ⟨hz, its, rv, o, ho, hc, n, hd⟩ := I.hok p _ h
    obtain ⟨u1, u2, e3, r1, r2⟩ := rv.two
    obtain ⟨t, rfl⟩ := r1
    obtain ⟨u, rfl⟩ := r2
    subst e3
    exact ⟨p, o, _, n, t, u, e, ho, hc, hd, rfl⟩
theorem zip_snd : ∀ {kA its : List Value}, kA.length = its.length → (kA.zip its).map (·.2) = its
  | [], [], _ => rfl
  | [], _ :: _, h => by simp at h
  | _ :: _, [], h => by simp at h
  | k :: kA, i :: its, h => by
    rw [List.zip_cons_cons, List.map_cons, zip_snd (by simpa using h)]
theorem key_of_zip {ky : V → Int × Int} {h : Heap} : ∀ {kA its : List Value} {xs : List V}, Paired (IsKey h) kA (xs.map ky) → Vals xs its → ∀ p ∈ kA.zip its, keyd h p.1 = ky (xd p.2)
  | _, _, [], hk, rv, p, hp => by
    cases rv
    simp at hp
  | kA, its, x :: xs, hk, rv, p, hp => by
    rw [List.map_cons] at hk
    cases hk with
    | cons k1 k2 =>
      cases rv with
      | cons r1 r2 =>
        rw [List.zip_cons_cons] at hp
        rcases List.mem_cons.mp hp with z | z
        · subst z
          show keyd h _ = ky (xd _)
          rw [k1.keyd]
          unfold xd
          rw [r1.xd]
        · exact key_of_zip k2 r2 p z
structure StableBy (ky : V → Int × Int) (xs out : List V) : Prop where
  perm : out.Perm xs
  pw : out.Pairwise fun x y => Lk.klt (ky y) (ky x) = false
  st : ∀ c, out.filter (fun x => ky x == c) = xs.filter (fun x => ky x == c)
theorem stable_of {ky : V → Int × Int} {h : Heap} {kA its : List Value} {xs : List V} {ps : List Keyed} (hk : Paired (IsKey h) kA (xs.map ky)) (rv : Vals xs its) (S : SortedBy h ps (kA.zip its)) : StableBy ky xs (ps.map fun p => xd p.2) := by
  have hlk : kA.length = its.length := by
    have h1 := Paired.length hk
    rw [List.length_map] at h1
    rw [h1, rv.length]
  have ez : (kA.zip its).map (fun p => xd p.2) = xs := by
    have e := zip_snd hlk
    have e2 : (kA.zip its).map (fun p => xd p.2) = ((kA.zip its).map (·.2)).map xd := by rw [List.map_map]; rfl
    rw [e2, e, rv.xd]
  have kz := key_of_zip hk rv
  have kp : ∀ p ∈ ps, keyd h p.1 = ky (xd p.2) := fun p hp => kz p (S.perm.mem_iff.mp hp)
  refine ⟨?_, ?_, fun c => ?_⟩
  · have := S.perm.map (fun p : Keyed => xd p.2)
    rw [ez] at this
    exact this
  · rw [List.pairwise_map]
    refine List.Pairwise.imp_of_mem (fun {p q} hp hq h => ?_) S.pw
    rw [← kp p hp, ← kp q hq]
    exact h
  · rw [List.filter_map]
    have e1 : ps.filter ((fun x => ky x == c) ∘ fun p => xd p.2) = ps.filter (fun p => keyd h p.1 == c) := List.filter_congr fun p hp => by
      show (ky (xd p.2) == c) = _
      rw [kp p hp]
    have e2 : xs.filter (fun x => ky x == c) = ((kA.zip its).filter (fun p => keyd h p.1 == c)).map (fun p => xd p.2) := by
      have e3 : (kA.zip its).filter (fun p => keyd h p.1 == c) = (kA.zip its).filter ((fun x => ky x == c) ∘ fun p => xd p.2) := List.filter_congr fun p hp => by
        show _ = (ky (xd p.2) == c)
        rw [kz p hp]
      rw [e3, ← List.filter_map, ez]
    rw [e1, S.st, e2]
theorem skt_rest {ky : V → Int × Int} {f a kS : Addr} {e1 : Nat} {xs : List V} {its : List Value} {E : Value → Shared → Prop} {Pq : PySem.Fin → Shared → Prop} (I : Inv X (pins ++ [(a, seqObj "list" #[] e1)]) σ H s) (hka : kS ≠ a) (fa : FpOk X pins H a) (fk : FpOk X (pins ++ [(a, seqObj "list" #[] e1)]) H kS) (hsa : X.s_0.heap.objs.size ≤ a)
    (hkS : s.heap.get? kS = some (seqObj "list" #[] 0)) (rv : Vals xs its) (hZ : its.length ≤ sizeLine)
    (turn : ∀ (i : Nat) (x : V) (u : Value) (pins' : List (Addr × Obj)) (s' : Shared) (H' : Hp), xs[i]? = some x → RelV x u → (∀ q ∈ pins, q ∈ pins') → Inv X pins' σ H' s' → Same H H' →
      wpAny (model X.prog X.w) X.A.in1.in1 (call (.ref f) [u]) (EP X pins' σ fun v H'' => Same H' H'' ∧ ∃ p, v = .ref p ∧ H'' p = some (.tup [.int (ky x).1, .int (ky x).2])) (fun _ _ => False) s')
    (h : ∀ (s' : Shared) (H' : Hp) (out : List V), Same H H' → H' a = none → StableBy ky xs out → Inv X pins σ (upd H' a (.lst out)) s' → Pq (.done (.ret .none)) s') :
    wpAny (model X.prog X.w) X.A.in1.in1 (ksk_rest a (.ref f) false its.toArray e1 (.ref kS)) Pq E s := by
  have hZ2 := hZ
  rw [sizeLine_eq] at hZ2
  have hxl := rv.length
  unfold ksk_rest
  refine wpAny_bind (wpAny_rule ?_)
  first
    | rw [List.forIn_toArray]
    | (rw [← Array.forIn_toList]; simp only [List.toList_toArray])
    | rw [← Array.forIn_toList]
  refine wpAny_bind (ksk_fold (fun i s' => ∃ (kA : List Value) (e : Nat) (H' : Hp), Inv X (pins ++ [(a, seqObj "list" #[] e1)] ++ [(kS, seqObj "list" kA.toArray e)]) σ H' s' ∧ Same H H' ∧ KeysT ky H' kA (xs.take i)) its 0 s
    ⟨[], 0, H, I.pinOne fk hkS (fun v z => by cases z), Same.refl _, by rw [List.take_zero]; exact .nil⟩ ?step ?done)
  case step =>
    rintro j u s' hu ⟨kA, e, H', I', s1, kT⟩
    simp only [Nat.zero_add] at kT ⊢
    have hj : j < its.length := (List.getElem?_eq_some_iff.mp hu).1
    obtain ⟨x, hx⟩ : ∃ x, xs[j]? = some x := ⟨_, List.getElem?_eq_getElem (by omega)⟩
    obtain ⟨u', hu', rx⟩ := rv.get hx
    have eu : u' = u := Option.some.inj (hu'.symm.trans hu)
    subst eu
    have hzk : kA.length ≤ its.length := by
      have := Paired.length kT
      rw [List.length_take] at this
      omega
    refine wpAny_bind (wpAny_attempt (wpAny_mono (turn j x u' _ s' H' hx rx (fun q hq => List.mem_append_left _ (List.mem_append_left _ hq)) I' s1) (fun v s'' he => ?_) fun _ _ hF => hF.elim))
    obtain ⟨vv, H2, I2, r2, s2, p, rfl, hp⟩ := he
    obtain rfl : v = .ref p := r2
    try dsimp only
    have pk := I2.pin (kS, seqObj "list" kA.toArray e) (List.mem_append_right _ (List.mem_append_right _ (List.mem_singleton.mpr rfl)))
    have sb := Heap.SameBut.update s''.heap kS (Obj.mapSeq (·.push (.ref p)))
    obtain ⟨c2, hc2⟩ : ∃ c2, (s''.heap.update kS (Obj.mapSeq (·.push (.ref p)))).get? kS = some (seqObj "list" (kA ++ [Value.ref p]).toArray c2) := by
      have := get?_update_seq pk.1 (·.push (.ref p))
      have ep : kA.toArray.push (.ref p) = (kA ++ [Value.ref p]).toArray := by simp
      rw [ep] at this
      exact ⟨_, this⟩
    refine wpAny_bind (listUpdate_at pk.1 rfl ?_ (by rw [List.size_toArray, sizeLine_eq]; omega) (Nat.le_trans (Nat.le_of_eq (Array.size_push ..)) (by rw [List.size_toArray, sizeLine_eq]; omega)))
    have I2u : Inv X (pins ++ [(a, seqObj "list" #[] e1)]) σ H2 s'' := I2.unpinned
    have I3 : Inv X (pins ++ [(a, seqObj "list" #[] e1)]) σ H2 { s'' with heap := s''.heap.update kS (Obj.mapSeq (·.push (.ref p))) } :=
      I2u.turned (t' := s''.toks) (fun b o hb q => (sb.2 b hb).trans q) pk.2.1 fk.2.1 fk.2.2.2.1 fk.2.2.2.2.1 fk.2.2.2.2.2
    refine wpAny_pure ⟨rfl, kA ++ [.ref p], c2, H2, I3.pinOne ⟨pk.2.1, fk.2⟩ hc2 (fun v z => by cases z), s1.trans s2, ?_⟩
    have ek : xs.take (j + 1) = xs.take j ++ [x] := by rw [List.take_add_one, hx]; rfl
    rw [ek]
    exact (kT.same s2).snoc ⟨p, rfl, hp⟩
  case done =>
    rintro s' ⟨kA, e, H', I', s1, kT⟩
    rw [Nat.zero_add, List.take_of_length_le (by omega)] at kT
    have pk := I'.pin (kS, seqObj "list" kA.toArray e) (List.mem_append_right _ (List.mem_append_right _ (List.mem_singleton.mpr rfl)))
    have pa := I'.pin (a, seqObj "list" #[] e1) (List.mem_append_right _ (List.mem_append_left _ (List.mem_append_right _ (List.mem_singleton.mpr rfl))))
    have hk := kT.is I'
    have hlk : kA.length = its.length := by rw [Paired.length kT, hxl]
    try dsimp only
    refine wpAny_bind (listItems_at pk.1 rfl ?_)
    refine skt_end pk.1 pa.1 hka hk hlk hZ fun ps S => ?_
    have sb1 := Heap.SameBut.update s'.heap kS (Obj.mapSeq fun _ => (#[] : Array Value))
    have I2 : Inv X (pins ++ [(a, seqObj "list" #[] e1)]) σ H' { s' with heap := s'.heap.update kS (Obj.mapSeq fun _ => #[]) } :=
      (I'.unpinned).turned (t' := s'.toks) (fun b o hb q => (sb1.2 b hb).trans q) pk.2.1 fk.2.1 fk.2.2.2.1 fk.2.2.2.2.1 fk.2.2.2.2.2
    have na1 : (s'.heap.update kS (Obj.mapSeq fun _ => (#[] : Array Value))).get? a = some (seqObj "list" #[] e1) := (sb1.2 a hka.symm).trans pa.1
    have sb2 := Heap.SameBut.update (s'.heap.update kS (Obj.mapSeq fun _ => (#[] : Array Value))) a (Obj.mapSeq fun _ => (ps.map (·.2)).toArray)
    have fa' : FpOk X pins H' a := ⟨pa.2.1, fa.2⟩
    have I3 : Inv X pins σ H' { s' with heap := (s'.heap.update kS (Obj.mapSeq fun _ => #[])).update a (Obj.mapSeq fun _ => (ps.map (·.2)).toArray) } :=
      (I2.unpinned (pins := pins)).turned (t' := s'.toks) (fun b o hb q => (sb2.2 b hb).trans q) fa'.1 fa'.2.1 fa'.2.2.2.1 fa'.2.2.2.2.1 fa'.2.2.2.2.2
    have ha3 := get?_update_seq na1 fun _ => (ps.map (·.2)).toArray
    have St := stable_of hk rv S
    refine h _ H' (ps.map fun p => xd p.2) s1 pa.2.1 St (I3.track fa' hsa ?_)
    refine ⟨?_, ps.map (·.2), _, ?_, ha3⟩
    · have := St.perm.length_eq
      rw [this, hxl]
      exact hZ
    · have e2 : ps.map (fun p => xd p.2) = (ps.map (·.2)).map xd := by rw [List.map_map]; rfl
      rw [e2]
      refine vals_of_mem fun u hu => ?_
      obtain ⟨p, hp, rfl⟩ := List.mem_map.mp hu
      have := S.perm.mem_iff.mp hp
      exact rv.mem p.2 (List.of_mem_zip this).2
end
end L2

end
section
set_option Elab.async false
set_option linter.all false
set_option maxRecDepth 100000
set_option maxHeartbeats 4000000
namespace L2
open PySem PySem.Spec PyProof.Rows
section
variable {X : Cx} {pins : List (Addr × Obj)} {σ : St} {H : Hp} {s : Shared}
theorem skt_sorted {ky : V → Int × Int} {f l : Addr} {xs : List V} {E : Value → Shared → Prop} {Q : Value → Shared → Prop} (I : Inv X pins σ H s) (hl : SqL X.K H l xs)
    (turn : ∀ (i : Nat) (x : V) (u : Value) (pins' : List (Addr × Obj)) (s' : Shared) (H' : Hp), xs[i]? = some x → RelV x u → (∀ q ∈ pins, q ∈ pins') → Inv X pins' σ H' s' → Same H H' →
      wpAny (model X.prog X.w) X.A.in1.in1 (call (.ref f) [u]) (EP X pins' σ fun v H'' => Same H' H'' ∧ ∃ p, v = .ref p ∧ H'' p = some (.tup [.int (ky x).1, .int (ky x).2])) (fun _ _ => False) s')
    (h : ∀ (s' : Shared) (H' : Hp) (D : Addr) (out : List V), Same H H' → H D = none → H' D = none → StableBy ky xs out → Inv X pins σ (upd H' D (.lst out)) s' → Q (.ref D) s') :
    wpAny (model X.prog X.w) X.A (call (.builtin "sorted") [.ref l] [(Str.ofString "key", .ref f)]) Q E s := by
  obtain ⟨its, rv, pl, hz⟩ := I.list hl
  have hxl := rv.length
  have hZ : its.length ≤ sizeLine := by rw [← hxl]; exact hz
  have hZ2 := hZ
  rw [sizeLine_eq] at hZ2
  refine call_function_entry_kw kind_sorted plain_sorted entry_sorted (ksk_s1 _ _) ?_
  unfold Builtin.«sorted»
  refine wpAny_bind (m := checkCount "sorted" 1 1 _) (wpAny_pure ?_)
  refine wpAny_bind (collect_list pl.isList ?_ (by rw [sizeLine_eq]; omega))
  refine wpAny_bind (wpAny_newList ?_ (by rw [sizeLine_eq]; omega))
  have hsz : ((s.heap.push (seqObj "list" #[] 0)).update s.heap.objs.size (Obj.mapSeq (· ++ its.toArray))).objs.size = s.heap.objs.size + 1 := by
    rw [Heap.size_update, size_push']
  have hoL : (((s.heap.push (seqObj "list" #[] 0)).update s.heap.objs.size (Obj.mapSeq (· ++ its.toArray))).push (seqObj "list" its.toArray 0)).get? (s.heap.objs.size + 1) = some (seqObj "list" its.toArray 0) := by
    rw [← hsz]; exact Heap.get?_push_size _ rfl
  have keep : ∀ b o, s.heap.get? b = some o → (((s.heap.push (seqObj "list" #[] 0)).update s.heap.objs.size (Obj.mapSeq (· ++ its.toArray))).push (seqObj "list" its.toArray 0)).get? b = some o := fun b o q => by
    have hlt : b < s.heap.objs.size := Heap.lt_size q
    rw [Heap.get?_push_ne _ _ _ (by rw [hsz]; exact Nat.ne_of_lt (Nat.lt_succ_of_lt hlt)), Heap.get?_update_ne _ _ _ _ (Nat.ne_of_lt hlt), Heap.get?_push_ne _ _ _ (Nat.ne_of_lt hlt)]
    exact q
  show wpAny _ _ _ _ _ { s with heap := ((s.heap.push (seqObj "list" #[] 0)).update s.heap.objs.size (Obj.mapSeq (· ++ its.toArray))).push (seqObj "list" its.toArray 0) }
  rw [hsz]
  refine wpAny_bind (wpAny_holding (wpAny_call_entry_kw slot_list_sort ⟨_, hoL, rfl⟩ entry_list_sort ?body (ksk_l1 _ _)))
  case body =>
    show wpAny (model X.prog X.w) X.A.in1.in1 (Builtin.«list.sort» ⟨[.ref (s.heap.objs.size + 1)], [(Str.ofString "key", .ref f)]⟩) _ _ _
    rw [ksk_t1]
    generalize hs1 : (((s.heap.push (seqObj "list" #[] 0)).update s.heap.objs.size (Obj.mapSeq (· ++ its.toArray))).push (seqObj "list" its.toArray 0)) = h1 at hoL keep
    have h1sz : h1.objs.size = s.heap.objs.size + 2 := by
      rw [← hs1, size_push', hsz]
    generalize hag : s.heap.objs.size + 1 = a at hoL
    have ha : a < h1.objs.size := Heap.lt_size hoL
    have sb1 := Heap.SameBut.update h1 a (Obj.mapSeq fun _ => (#[] : Array Value))
    obtain ⟨e1, ho1⟩ : ∃ e1, (h1.update a (Obj.mapSeq fun _ => (#[] : Array Value))).get? a = some (seqObj "list" #[] e1) := ⟨_, get?_update_seq hoL fun _ => #[]⟩
    have hkS : ((h1.update a (Obj.mapSeq fun _ => (#[] : Array Value))).push (seqObj "tuple" its.toArray 0)).objs.size = s.heap.objs.size + 3 := by rw [size_push', Heap.size_update, h1sz]
    unfold ksk_tree
    refine wpAny_bind (listItems_at hoL rfl ?_)
    refine wpAny_bind (listUpdate_at hoL rfl ?_ (by rw [List.size_toArray, sizeLine_eq]; omega) (Nat.zero_le _))
    refine wpAny_bind (seqEpoch_at ho1 rfl ?_)
    refine wpAny_bind (wpAny_newTuple ?_ (by show its.length ≤ _; rw [sizeLine_eq]; omega))
    refine wpAny_bind (wpAny_newList ?_ (Nat.zero_le _))
    refine wpAny_holding ?_
    have keep6 : ∀ b o, s.heap.get? b = some o → (((h1.update a (Obj.mapSeq fun _ => (#[] : Array Value))).push (seqObj "tuple" its.toArray 0)).push (seqObj "list" #[] 0)).get? b = some o := fun b o q => by
      have hlt : b < s.heap.objs.size := Heap.lt_size q
      exact Heap.get?_push_of_some _ (Heap.get?_push_of_some _ ((sb1.2 b (by rw [← hag]; exact Nat.ne_of_lt (Nat.lt_succ_of_lt hlt))).trans (keep b o q)))
    have I6 : Inv X pins σ H { s with heap := ((h1.update a (Obj.mapSeq fun _ => (#[] : Array Value))).push (seqObj "tuple" its.toArray 0)).push (seqObj "list" #[] 0), toks := s.toks } := I.kept keep6
    have hage : s.heap.objs.size ≤ a := by rw [← hag]; exact Nat.le_succ _
    have Ha : H a = none := I.hok.fresh hage
    have fa : FpOk X pins H a := I.fpOk hage Ha
    have ho6 : (((h1.update a (Obj.mapSeq fun _ => (#[] : Array Value))).push (seqObj "tuple" its.toArray 0)).push (seqObj "list" #[] 0)).get? a = some (seqObj "list" #[] e1) := Heap.get?_push_of_some _ (Heap.get?_push_of_some _ ho1)
    have I7 := I6.pinOne fa ho6 (fun v z => by cases z)
    have hkn : ((h1.update a (Obj.mapSeq fun _ => (#[] : Array Value))).push (seqObj "tuple" its.toArray 0)).objs.size ≠ a := by
      rw [hkS, ← hag]
      exact Nat.ne_of_gt (by show s.heap.objs.size + 1 < s.heap.objs.size + 3; omega)
    have fk0 : FpOk X pins H ((h1.update a (Obj.mapSeq fun _ => (#[] : Array Value))).push (seqObj "tuple" its.toArray 0)).objs.size := I.fpOk (by rw [hkS]; omega) (I.hok.fresh (by rw [hkS]; omega))
    have fk : FpOk X (pins ++ [(a, seqObj "list" #[] e1)]) H ((h1.update a (Obj.mapSeq fun _ => (#[] : Array Value))).push (seqObj "tuple" its.toArray 0)).objs.size := ⟨fk0.1, fk0.2.1, fk0.2.2.1, fk0.2.2.2.1, fk0.2.2.2.2.1, fun p hp => by
      rcases List.mem_append.mp hp with z | z
      · exact fk0.2.2.2.2.2 p (List.mem_append_left _ z)
      · rcases List.mem_append.mp z with z | z
        · exact fk0.2.2.2.2.2 p (List.mem_append_right _ z)
        · rw [List.mem_singleton.mp z]
          exact hkn.symm⟩
    refine skt_rest I7 hkn fa fk (Nat.le_trans I.sz hage) (Heap.get?_push_size _ rfl) rv hZ turn fun s' H' out q1 q2 q3 q4 => ⟨_, rfl, ?_⟩
    exact wpAny_pure ⟨_, rfl, h s' H' _ out q1 Ha q2 q3 q4⟩
end
end L2

end
section
set_option Elab.async false
set_option linter.all false
set_option maxRecDepth 100000
set_option maxHeartbeats 4000000
namespace L2
open PySem PySem.Spec PyProof.Rows
noncomputable def Lam (pos : Pos) (qual : Str) (P : Addr) (H : Hp) : Prop := H P = some (.tbl #[]) ∨ ∃ c', H P = some (.tbl #[rawInt pos.line, rawInt pos.col, .ref c']) ∧ H c' = some (.ext fun h => h.CodeRec (.ref c') qual)
noncomputable def LamAt (pos : Pos) (qual : Str) (P c' : Addr) (H : Hp) : Prop := H P = some (.tbl #[rawInt pos.line, rawInt pos.col, .ref c']) ∧ H c' = some (.ext fun h => h.CodeRec (.ref c') qual)
noncomputable def SameP (P : Addr) (H H' : Hp) : Prop := ∀ b o, H b = some o → b ≠ P → H' b = some o
theorem Same.p {P : Addr} {H H' : Hp} (s : Same H H') : SameP P H H' := fun b o e _ => s b o e
theorem SameP.trans {P : Addr} {H H1 H2 : Hp} (a : SameP P H H1) (b : SameP P H1 H2) : SameP P H H2 := fun c o e n => b c o (a c o e n) n
theorem Lam.same {pos : Pos} {qual : Str} {P : Addr} {H H' : Hp} (l : Lam pos qual P H) (s : Same H H') : Lam pos qual P H' := by
  rcases l with l | ⟨c, l1, l2⟩
  · exact .inl (s _ _ l)
  · exact .inr ⟨c, s _ _ l1, s _ _ l2⟩
theorem LamAt.lam {pos : Pos} {qual : Str} {P c' : Addr} {H : Hp} (l : LamAt pos qual P c' H) : Lam pos qual P H := .inr ⟨c', l.1, l.2⟩
theorem among {pos : Pos} {c : Value} : codeAmong pos (#[rawInt pos.line, rawInt pos.col, c] : Array Value).toList = some c := by
  simp [codeAmong, rawInt]
section
variable {X : Cx} {pins : List (Addr × Obj)} {σ : St} {H : Hp} {s : Shared}
theorem lam_make {params : Arguments} {body : Expr} {scope : Scope} {pos : Pos} {clos : List (Str × Addr)} {c P : Addr} {qual : Str} {Q : Value → Shared → Prop} {E : Value → Shared → Prop} (I : Inv X pins σ H s) (L : Lam pos qual P H)
    (hdef : defaultsOf params X.env = ([], [])) (hq : X.env.qual ++ "<lambda>" = qual) (hcl : closureFor scope X.env = pure clos) (hcode : X.env.code = .ref c) (C : PySem.W.CodeHd X.base c P) (hb : X.base.BuiltinsAt X.mg P)
    (h : ∀ (f c' : Addr) (ctv : Value) (s' : Shared) (H' : Hp), SameP P H H' → LamAt pos qual P c' H' → Inv X (pins ++ [(f, PySem.W.kla_obj "<lambda>" qual params body scope clos ((X.mg "__name__").getD .none) c' ctv)]) σ H' s' → Q (.ref f) s') :
    wpAny (model X.prog X.w) X.A (eval (.Lambda params body scope pos) X.env) Q E s := by
  refine PySem.W.kla_eval hdef ?_
  rw [hq]
  have hg : s.heap.Ns mainGlobals X.mg := I.mod.glob.keeps I.bk
  have hC := C.keeps I.bk
  have hbs : s.heap.BuiltinsAt X.mg P := by
    obtain ⟨bm, o, b1, b2, b3, b4, b5, r⟩ := hb
    exact ⟨bm, o, b1, b2, b3, b4, I.bk _ _ b5, r⟩
  rcases L with L | ⟨c', L1, L2⟩
  · have hP : s.heap.get? P = some (PySem.W.tabObj #[]) := I.hok P _ L
    have hgP : mainGlobals ≠ P := fun z => by
      obtain ⟨o, es, ep, e, hd, _⟩ := hg
      rw [z, hP] at e
      cases e
      cases hd
    refine PySem.W.kla_makeFunction hcl I.ok.glob hg hcode hC hP (by simp [TriplesOk]) (by simp [codeAmong]) hgP hbs fun c' ctv h' tk hx hge hlt hrec htb => ?_
    have keepb : ∀ b o, b ≠ P → s.heap.get? b = some o → (h'.push (PySem.W.kla_obj "<lambda>" qual params body scope clos ((X.mg "__name__").getD .none) c' ctv)).get? b = some o := fun b o hb e => Heap.get?_push_of_some _ (hx b o hb e)
    have tb : (h'.push (PySem.W.kla_obj "<lambda>" qual params body scope clos ((X.mg "__name__").getD .none) c' ctv)).get? P = some (PySem.W.tabObj #[rawInt pos.line, rawInt pos.col, .ref c']) := by
      have := Heap.get?_push_of_some (PySem.W.kla_obj "<lambda>" qual params body scope clos ((X.mg "__name__").getD .none) c' ctv) htb
      simpa using this
    have hrec' : (h'.push (PySem.W.kla_obj "<lambda>" qual params body scope clos ((X.mg "__name__").getD .none) c' ctv)).CodeRec (.ref c') qual := by
      obtain ⟨c2, oc, vs, tq, e1, e2, e3, e4⟩ := hrec
      exact ⟨c2, oc, vs, tq, e1, Heap.get?_push_of_some _ e2, e3, e4⟩
    have hco : ∃ o, (h'.push (PySem.W.kla_obj "<lambda>" qual params body scope clos ((X.mg "__name__").getD .none) c' ctv)).get? c' = some o := by
      obtain ⟨c2, oc, vs, tq, e1, e2, e3, e4⟩ := hrec'
      cases e1
      exact ⟨oc, e2⟩
    have Hc : H c' = none := I.hok.fresh hge
    have nP : ∀ {b : Addr} {u : HO}, H b = some u → u ≠ .tbl #[] → b ≠ P := fun {b u} e n z => by
      rw [z, L] at e
      exact n (Option.some.inj e).symm
    have nc : ∀ {b : Addr} {u : HO}, H b = some u → b ≠ c' := fun {b u} e => ne_of_none e Hc
    have hcP : c' ≠ P := fun z => by
      rw [z, L] at Hc
      cases Hc
    have Hn : ∀ b, b ≠ P → b ≠ c' → upd (upd H P (.tbl #[rawInt pos.line, rawInt pos.col, .ref c'])) c' (.ext fun h => h.CodeRec (.ref c') qual) b = H b := fun b h1 h2 => by rw [upd_ne h2, upd_ne h1]
    have HP : upd (upd H P (.tbl #[rawInt pos.line, rawInt pos.col, .ref c'])) c' (.ext fun h => h.CodeRec (.ref c') qual) P = some (.tbl #[rawInt pos.line, rawInt pos.col, .ref c']) := by rw [upd_ne hcP.symm, upd_same]
    have HC : upd (upd H P (.tbl #[rawInt pos.line, rawInt pos.col, .ref c'])) c' (.ext fun h => h.CodeRec (.ref c') qual) c' = some (.ext fun h => h.CodeRec (.ref c') qual) := upd_same
    generalize upd (upd H P (.tbl #[rawInt pos.line, rawInt pos.col, .ref c'])) c' (.ext fun h => h.CodeRec (.ref c') qual) = H2 at Hn HP HC
    have un : Un X.fs [] H H2 s.heap (h'.push (PySem.W.kla_obj "<lambda>" qual params body scope clos ((X.mg "__name__").getD .none) c' ctv)) := by
      have nPn : ∀ {b : Addr}, H b = none → b ≠ P := fun {b} n z => by
        rw [z, L] at n
        cases n
      refine ⟨fun b o e n _ _ => keepb b o (nPn n) e, fun b o e n _ _ => ⟨o.slots, keepb b o (nPn n) e⟩, fun b o e n _ => ?_, fun b o e _ => ?_, fun b xs e => ?_, fun b o u e => ?_, fun b ps e => ?_⟩
      · rw [Hn b (nPn n) (Nat.ne_of_lt (Nat.lt_of_lt_of_le (Heap.lt_size e) hge))]
        exact n
      · by_cases hbP : b = P
        · exact ⟨_, by rw [hbP]; exact tb⟩
        · exact ⟨o, keepb b o hbP e⟩
      · rw [Hn b (nP e (fun z => by cases z)) (nc e)]
        exact e
      · rw [Hn b (nP e (fun z => by cases z)) (nc e)]
        exact e
      · by_cases hbP : b = P
        · subst hbP
          rw [L] at e
          have e' : ps = #[] := by
            have := Option.some.inj e
            injection this with this
            exact this.symm
          subst e'
          exact ⟨#[rawInt pos.line, rawInt pos.col, .ref c'], by rw [HP]; simp⟩
        · exact ⟨#[], by rw [Hn b hbP (nc e), e]; simp⟩
    have hok : HOk X.prog X.w H2 (h'.push (PySem.W.kla_obj "<lambda>" qual params body scope clos ((X.mg "__name__").getD .none) c' ctv)) := fun b u e => by
      by_cases hbP : b = P
      · subst hbP
        rw [HP] at e
        cases e
        exact tb
      · by_cases hbc : b = c'
        · subst hbc
          rw [HC] at e
          cases e
          refine ⟨hrec', hco, fun h1 h2 q k => ?_⟩
          obtain ⟨c2, oc, vs, tq, e1, e2, e3, e4⟩ := q
          cases e1
          exact ⟨b, oc, vs, tq, rfl, k oc e2, e3, e4⟩
        · rw [Hn b hbP hbc] at e
          refine (I.hok b u e).stay (fun d v hd q => keepb d v ?_ q) (fun d q => ?_) fun d xs q => ?_
          · rcases hd with z | z
            · rw [z]; exact hbP
            · exact nP z (fun z => by cases z)
          · rw [Hn d (nP q (fun z => by cases z)) (nc q)]
            exact q
          · rw [Hn d (nP q (fun z => by cases z)) (nc q)]
            exact q
    have I2 : Inv X pins σ H2 { s with heap := h'.push (PySem.W.kla_obj "<lambda>" qual params body scope clos ((X.mg "__name__").getD .none) c' ctv), toks := tk } := I.un un hok
    have hfs : s.heap.objs.size ≤ h'.objs.size := Nat.le_trans hge (Nat.le_of_lt hlt)
    have Hf : H2 h'.objs.size = none := by
      rw [Hn _ (fun z => by rw [z] at hfs; exact absurd (Heap.lt_size hP) (Nat.not_lt.mpr hfs)) (Nat.ne_of_gt hlt)]
      exact I.hok.fresh hfs
    refine h h'.objs.size c' ctv _ H2 (fun b o e hb => ?_) ⟨HP, HC⟩ (I2.pinOne (I.fpOk hfs Hf) (Heap.get?_push_size _ rfl) (fun v z => by cases z))
    rw [Hn b hb (nc e)]
    exact e
  · have hP : s.heap.get? P = some (PySem.W.tabObj #[rawInt pos.line, rawInt pos.col, .ref c']) := I.hok P _ L1
    refine PySem.W.kla_makeFunctionHit hcl I.ok.glob hg hcode hC hP (by simp [TriplesOk, rawInt]) among hbs fun ctv h' tk hk hsz => ?_
    have I2 : Inv X pins σ H { s with heap := h'.push (PySem.W.kla_obj "<lambda>" qual params body scope clos ((X.mg "__name__").getD .none) c' ctv), toks := tk } := I.kept fun b o e => Heap.get?_push_of_some _ (hk b o e)
    exact h h'.objs.size c' ctv _ H (fun b o e _ => e) ⟨L1, L2⟩ (I2.pinOne (I.fpOk hsz (I.hok.fresh hsz)) (Heap.get?_push_size _ rfl) (fun v z => by cases z))
end
end L2

end
section
set_option Elab.async false
set_option linter.all false
set_option maxRecDepth 100000
set_option maxHeartbeats 4000000
namespace L2
open PySem PySem.Spec PyProof.Rows
noncomputable def lamCx (X : Cx) (A2 : Around) (r tn : Str) (qual : Str) (scope : Scope) (f : Addr) (cd : Value) (cc : Addr) (s : Shared) (H : Hp) : Cx where
  prog := X.prog
  w := X.w
  K := X.K
  mg := X.mg
  base := X.base
  A := A2.deeper (PySem.W.envX qual scope s.heap.objs.size f cd [(tn, cc)])
  N := [r, tn]
  s_0 := s
  H_0 := H
  env := PySem.W.envX qual scope s.heap.objs.size f cd [(tn, cc)]
  outer := X.stack
  stack := PySem.W.envX qual scope s.heap.objs.size f cd [(tn, cc)] :: X.stack
  ex := []
  fn := fun x => x == r
  calm := true
  pn := []
  xe := fun _ _ => False
section
variable {X : Cx} {pins : List (Addr × Obj)} {σ : St} {H : Hp} {s : Shared}
theorem lam_call {A2 : Around} {r tn qual : Str} {params : Arguments} {body : Expr} {scope : Scope} {f c' cc : Addr} {pm ctv u : Value} {x tv : V} {i : Nat} {t : TE} {Q : VK} {E : Value → Shared → Prop} (I : Inv X pins σ H s)
    (hA : A2.frames = some X.stack) (hh : A2.handled = none) (hroom : A2.depth < recursionLimit)
    (hf : (f, PySem.W.kla_obj "<lambda>" qual params body scope [(tn, cc)] pm c' ctv) ∈ X.pn ++ pins) (hc' : H c' = some (.ext fun h => h.CodeRec (.ref c') qual))
    (hbind : bindArgs (PySem.W.kla_fn "<lambda>" qual params body scope [(tn, cc)] pm (.ref c') ctv) ⟨[u], []⟩ = pure [(r, u)]) (hr : scope.names.lookup r = some .local) (htn : scope.names.lookup tn = some .free) (hrt : tn ≠ r)
    (hk : scope.kind = .function) (hco : scope.isCoroutine = false) (hgen : scope.isGenerator = false) (hcell : ∀ y ∈ scope.names, y.2 ≠ .cell) (hfree : ∀ y, scope.names.lookup y = some .free → y = tn)
    (hcc : X.env.cells.lookup tn = some cc) (hN : X.N[i]? = some tn) (hkc : X.env.kindOf tn = some .cell) (hσ : σ[i]? = some (some tv)) (rx : RelV x u)
    (PB : PE (lamCx X A2 r tn qual scope f (.ref c') cc s H) body t) (ht : t [some x, some tv] H Q) :
    wpAny (model X.prog X.w) A2 (call (.ref f) [u]) (EP X pins σ Q) E s := by
  have pf := I.pin _ hf
  have hcode : s.heap.CodeRec (.ref c') qual := (I.hok c' _ hc').1
  refine wpAny_call (codeAny_mono (R := fun r s' => match r with | .ok (.ret v) => EP X pins σ Q v s' | _ => False) ?_ fun r s' hq => ?_)
  · refine PySem.W.kla_callFunE hroom pf.1 rfl hco hgen rfl hcode ?_
    rw [hbind]
    refine wpAny_pure (wpAny_newFunctionEnv hcell (fun y hy => ?_) (fun h₁ hns hsb => ⟨I.nolimit.fresh _ hsb, ?_⟩) hk)
    · rw [List.mem_singleton.mp hy]
      exact hr
    show codeAny _ _ (.expr body (PySem.W.envX qual scope s.heap.objs.size f (.ref c') [(tn, cc)])) _ _
    have hk₁ : ∀ b o, s.heap.get? b = some o → h₁.get? b = some o := fun b o e => hsb.extBut b o (Nat.ne_of_lt (Heap.lt_size e)) (Heap.get?_push_of_some _ e)
    have hl1 : ([(tn, cc)] : List (Str × Addr)).lookup tn = some cc := by
      rw [List.lookup_cons]
      simp
    have hl2 : ∀ {y : Str} {c : Addr}, ([(tn, cc)] : List (Str × Addr)).lookup y = some c → y = tn ∧ c = cc := fun {y c} e => by
      rw [List.lookup_cons] at e
      cases hb : y == tn with
      | true =>
        rw [hb] at e
        exact ⟨eq_of_beq hb, (Option.some.inj e).symm⟩
      | false =>
        rw [hb] at e
        cases e
    obtain ⟨m, hn, hlk⟩ := I.loc
    obtain ⟨tu, rt, lk⟩ := hlk i tn tv hN hσ (.inr (.inl hkc))
    have hcellv : s.heap.IsCell cc (some tu) := by
      rcases lk with ⟨z, _⟩ | ⟨_, c, e, z⟩
      · rw [hkc] at z
        cases z
      · rw [hcc] at e
        cases e
        exact z
    have hcell1 : h₁.IsCell cc (some tu) := by
      obtain ⟨o, e, d⟩ := hcellv
      exact ⟨o, hk₁ _ _ e, d⟩
    have I1 : Inv (lamCx X A2 r tn qual scope f (.ref c') cc s H) [] [some x, some tv] H { s with heap := h₁, toks := s.toks + ([(r, u)] : List (Str × Value)).length } := by
      refine ⟨⟨I.ok.mod, hk, rfl, rfl, Nat.le_refl _, fun y z c e1 e2 => ?_, fun y hy => ?_, fun y c e1 e2 => ?_, fun _ => hh, Around.frames_deeper hA, .inr ⟨rfl, rfl⟩, fun b z => (nomatch z), I.bs, Nat.le_trans I.ok.bsz I.sz, fun b o _ z => (nomatch z), fun b z => (nomatch z), I.stack, I.stkFree⟩,
        rfl, I.bare, Un.kept hk₁, ⟨_, hns, fun j y v e1 e2 e3 => ?_⟩, fun y c e => ?_, I.hok.fresh (Nat.le_refl _), fun y c e => ?_, fun p hp => (nomatch hp), I.hok.kept hk₁, rfl⟩
      · have e1' := hl2 (show ([(tn, cc)] : List (Str × Addr)).lookup y = some c from e1)
        have e2' := hl2 (show ([(tn, cc)] : List (Str × Addr)).lookup z = some c from e2)
        rw [e1'.1, e2'.1]
      · rcases hy with hy | hy
        · exact absurd rfl (hcell (y, .cell) (PySem.mem_of_lookup hy))
        · rw [hfree y hy]
          exact ⟨cc, hl1⟩
      · have e2' := hl2 (show ([(tn, cc)] : List (Str × Addr)).lookup y = some c from e2)
        have e1' : (y == r) = true := e1
        rw [e2'.1] at e1'
        exact absurd (eq_of_beq e1') hrt
      · match j, e1, e2 with
        | 0, e1, e2 =>
          have ey : r = y := Option.some.inj e1
          have ev : x = v := Option.some.inj (Option.some.inj e2)
          subst ey ev
          refine ⟨u, rx, .inl ⟨hr, ?_⟩⟩
          show ([(r, u)] : List (Str × Value)).reverse.lookup r = some u
          simp
        | 1, e1, e2 =>
          have ey : tn = y := Option.some.inj e1
          have ev : tv = v := Option.some.inj (Option.some.inj e2)
          subst ey ev
          exact ⟨tu, rt, .inr ⟨.inr htn, cc, hl1, hcell1⟩⟩
        | j + 2, e1, _ => cases e1
      · have e' := hl2 (show ([(tn, cc)] : List (Str × Addr)).lookup y = some c from e)
        rw [e'.2]
        exact ⟨_, hcell1⟩
      · have e' := hl2 (show ([(tn, cc)] : List (Str × Addr)).lookup y = some c from e)
        rw [e'.2]
        exact I.freeC tn cc hcc
    refine PySem.W.kla_codeExpr (wpAny_mono (PB [] _ _ H Q I1 ht) (fun v s' hs => ?_) fun _ _ z => False.elim z)
    obtain ⟨vv, H2, J, rv, q⟩ := hs
    exact I.after ⟨vv, H2, J.os, J.bare, J.base, J.hok, rv, q⟩
  · cases r with
    | error e => exact False.elim hq
    | ok fl =>
      cases fl with
      | ret v => exact hq
      | next => exact False.elim hq
      | brk => exact False.elim hq
      | cont => exact False.elim hq
end
end L2

end
section
set_option linter.all false
namespace Lk
open Kv374
theorem jobs_ge {a : Abs} : ∀ {l : List Row}, (∀ x ∈ l, Fine a x) → l.length ≤ (jobsOf l).length
  | [], _ => Nat.zero_le _
  | x :: l, h => by
    have ih := jobs_ge (l := l) fun y hy => h y (List.mem_cons_of_mem _ hy)
    have h1 : 0 < x.jobs.length := List.length_pos_iff.mpr (h x List.mem_cons_self).2.1
    rw [jobsOf_cons, List.length_append, List.length_cons]
    omega
theorem jobs_flatten (f : Nat → List Row) : ∀ l : List Nat, (jobsOf (l.map f).flatten).length = (l.map fun j => (jobsOf (f j)).length).sum
  | [] => rfl
  | j :: l => by
    rw [List.map_cons, List.flatten_cons, jobsOf_append, List.length_append, jobs_flatten f l, List.map_cons, List.sum_cons]
theorem sum_le {f g : Nat → Nat} : ∀ {l : List Nat}, (∀ j ∈ l, f j ≤ g j) → (l.map f).sum ≤ (l.map g).sum
  | [], _ => Nat.le_refl _
  | j :: l, h => by
    rw [List.map_cons, List.map_cons, List.sum_cons, List.sum_cons]
    have h1 := h j List.mem_cons_self
    have h2 := sum_le (f := f) (g := g) (l := l) fun i hi => h i (List.mem_cons_of_mem _ hi)
    omega
theorem pow_sum {a : Abs} (W : WF a) {i : Nat} (hi : i < a.n) : ((a.boughs i).map fun j => 2 ^ (a.n - 1 - j)).sum < 2 ^ (a.n - 1 - i) := by
  have e : ((a.boughs i).map fun j => 2 ^ (a.n - 1 - j)).sum = bsum ((a.boughs i).map fun j => a.n - j) := by
    unfold bsum
    rw [List.map_map]
    congr 1
    refine List.map_congr_left fun j hj => ?_
    show 2 ^ (a.n - 1 - j) = 2 ^ (a.n - j - 1)
    congr 1
    omega
  rw [e]
  refine bsum_lt ?_ fun k hk => ?_
  · have hb : ∀ j ∈ a.boughs i, j < a.n := fun j hj => (mem_boughs.mp hj).1.2
    have nd := nd_boughs a i
    revert hb nd
    generalize a.boughs i = l
    intro hb nd
    induction l with
    | nil => exact List.Pairwise.nil
    | cons x l ih =>
      obtain ⟨n1, n2⟩ := List.nodup_cons.mp nd
      rw [List.map_cons]
      refine List.nodup_cons.mpr ⟨fun m => ?_, ih (fun j hj => hb j (List.mem_cons_of_mem _ hj)) n2⟩
      obtain ⟨j, hj, e⟩ := List.mem_map.mp m
      have h1 := hb x List.mem_cons_self
      have h2 := hb j (List.mem_cons_of_mem _ hj)
      have : j = x := by omega
      rw [this] at hj
      exact n1 hj
  · obtain ⟨j, hj, rfl⟩ := List.mem_map.mp hk
    have h1 := (mem_boughs.mp hj).1.2
    have h2 := boughs_gt W hj
    omega
theorem jobs_bound {a : Abs} (W : WF a) : ∀ (d i : Nat), a.n - i ≤ d → i < a.n → (jobsOf (B a i)).length < 2 ^ (a.n - 1 - i) ∧ (0 < i → (jobsOf (R a i)).length ≤ 2 ^ (a.n - 1 - i))
  | 0, i, h, hi => by omega
  | d + 1, i, h, hi => by
    have hB : (jobsOf (B a i)).length < 2 ^ (a.n - 1 - i) := by
      unfold B
      rw [(jobs_perm (List.mergeSort_perm _ before)).length_eq, jobs_flatten]
      refine Nat.lt_of_le_of_lt (sum_le fun j hj => ?_) (pow_sum W hi)
      have h1 := (mem_boughs.mp hj).1
      have h2 := boughs_gt W hj
      exact (jobs_bound W d j (by omega) h1.2).2 h1.1
    refine ⟨hB, fun h0 => ?_⟩
    rw [R_eq W h0 hi, jobs_rev, push_jobs, jobs_rev]
    show (jobsOf (B a i)).length + ([i] : List Nat).length ≤ _
    rw [List.length_singleton]
    omega
theorem pow_le {a : Abs} (W : WF a) (i : Nat) : 2 ^ (a.n - 1 - i) ≤ 256 := by
  show 2 ^ (a.n - 1 - i) ≤ 2 ^ 8
  exact Nat.pow_le_pow_right (by decide) (by have := W.le; omega)
theorem B_jobs {a : Abs} (W : WF a) {i : Nat} (hi : i < a.n) : (jobsOf (B a i)).length ≤ 256 := by
  have := (jobs_bound W (a.n - i) i (Nat.le_refl _) hi).1
  have := pow_le W i
  omega
theorem R_jobs {a : Abs} (W : WF a) {i : Nat} (h0 : 0 < i) (hi : i < a.n) : (jobsOf (R a i)).length ≤ 256 := by
  have := (jobs_bound W (a.n - i) i (Nat.le_refl _) hi).2 h0
  have := pow_le W i
  omega
theorem R_len {a : Abs} (W : WF a) {i : Nat} (h0 : 0 < i) (hi : i < a.n) : (R a i).length ≤ 256 := Nat.le_trans (jobs_ge (R_fine' W h0 hi)) (R_jobs W h0 hi)
theorem B_len {a : Abs} (W : WF a) {i : Nat} (hi : i < a.n) : (B a i).length ≤ 256 := Nat.le_trans (jobs_ge (B_fine W hi)) (B_jobs W hi)
theorem jobs_mem_le : ∀ {l : List Row} {x : Row}, x ∈ l → x.jobs.length ≤ (jobsOf l).length
  | y :: l, x, h => by
    rw [jobsOf_cons, List.length_append]
    rcases List.mem_cons.mp h with z | z
    · rw [z]; omega
    · have := jobs_mem_le z
      omega
end Lk

end
section
set_option Elab.async false
set_option linter.all false
set_option maxRecDepth 100000
set_option maxHeartbeats 4000000
namespace Le
open PySem PySem.Spec PyProof.Rows L2
open Kv374 (Abs Part has add far Row)
noncomputable abbrev sRfb : Stmt := top 22
noncomputable abbrev sWith : Stmt := top 23
noncomputable abbrev sRows : Stmt := top 24
noncomputable def lamPos (s : Stmt) : Pos := match s with
  | .Return (some (.Call _ _ (kw :: _) _)) _ => kw.value.pos
  | _ => ⟨0, 0, 0, 0⟩
noncomputable def rfbPos : Pos := lamPos ((defBody sRfb).getD 2 (.Pass ⟨0, 0, 0, 0⟩))
noncomputable def rfbQual : Str := "rows_for_boughs.<locals>.<lambda>"
noncomputable def rowAt (H : Hp) (x : V) : List Nat := match x with
  | .ref p => (match H p with
    | some (.lst vs) => vs.map fun v => match v with
      | .int z => z.toNat
      | _ => 0
    | _ => [])
  | _ => []
theorem rowAt_eq {H : Hp} {p : Addr} {js : List Nat} (h : H p = some (.lst (natV js))) : rowAt H (.ref p) = js := by
  unfold rowAt
  simp only [h]
  unfold natV
  rw [List.map_map]
  have : ((fun v => match v with | V.int z => z.toNat | _ => 0) ∘ fun (i : Nat) => V.int (i : Int)) = id := by
    funext i
    rfl
  rw [this, List.map_id]
noncomputable def kyH (H : Hp) (a : Abs) (x : V) : Int × Int := Lk.key (Lk.rowOf a (rowAt H x))
noncomputable def OkRow (H : Hp) (a : Abs) (p : Addr) : Prop := ∃ js, H p = some (.lst (natV js)) ∧ js ≠ [] ∧ (∀ i ∈ js, i < a.n) ∧ js.length ≤ 1000
noncomputable def tSortLam (C P : Addr) : TE := fun σ H Q => ∃ (t L : Addr) (a : Abs) (as : List Addr), σ[0]? = some (some (.ref t)) ∧ σ[3]? = some (some (.ref L)) ∧ Tr C H t a ∧ H L = some (.lst (as.map V.ref)) ∧ (∀ p ∈ as, OkRow H a p) ∧ Lam rfbPos rfbQual P H ∧
  ∀ (H' : Hp) (D : Addr) (out : List V), SameP P H H' → Lam rfbPos rfbQual P H' → H D = none → H' D = none → StableBy (kyH H a) (as.map V.ref) out → Q (.ref D) (upd H' D (.lst out))
section
variable {P : Program} {w : World} {K : PySem.W.Frag} {mg : Str → Option Value} {base : Heap} {C : Addr}
theorem scRfb : FnScope ["tree", "part", "rows_for", "rows", "bough"] ["tree", "part", "rows_for"] (defScope sRfb) := ⟨rfl, rfl, rfl, by decide +kernel, rfl, by decide +kernel, by decide +kernel⟩
theorem tr_p {H H' : Hp} {Pt t : Addr} {a : Abs} {ps : Array Value} (tr : Tr C H t a) (s : SameP Pt H H') (hP : H Pt = some (.tbl ps)) : Tr C H' t a := by
  obtain ⟨dx, h, c, y⟩ := tr
  refine ⟨dx, h, c, s _ _ y.ins ?_, s _ _ y.hu ?_, s _ _ y.ch ?_, y.wf⟩
  · exact ne_of y.ins hP (fun z => by cases z)
  · exact ne_of y.hu hP (fun z => by cases z)
  · exact ne_of y.ch hP (fun z => by cases z)
theorem lam_tbl {pos : Pos} {qual : Str} {Pt : Addr} {H : Hp} (l : Lam pos qual Pt H) : ∃ ps, H Pt = some (.tbl ps) := by
  rcases l with l | ⟨_, l, _⟩
  · exact ⟨_, l⟩
  · exact ⟨_, l⟩
theorem lst_p {H H' : Hp} {Pt q : Addr} {ps : Array Value} {xs : List V} (h : H q = some (.lst xs)) (s : SameP Pt H H') (hP : H Pt = some (.tbl ps)) : H' q = some (.lst xs) := s _ _ h (ne_of h hP (fun z => by cases z))
noncomputable abbrev tLamBody (K : PySem.W.Frag) : TE := tCall (spStand K) [] E0 (tCons (tFld K (tVar 1) "changes") (tCons (tVar 0) tNil))
theorem pe_sortLam {X : Cx} {Pt c cc : Addr} {params : Arguments} {lbody : Expr} {lscope : Scope} {lpos kpos p p2 pos : Pos} (T : Txt X.K X.mg C) (hr : Room 5 X.A) (hC : PySem.W.CodeHd X.base c Pt) (hB : X.base.BuiltinsAt X.mg Pt)
    (hg : Gl X "sorted") (hrows : PE X (.Name "rows" p2) (tVar 3)) (hpos : lpos = rfbPos) (hdef : defaultsOf params X.env = ([], [])) (hq : X.env.qual ++ "<lambda>" = rfbQual) (hcl : closureFor lscope X.env = pure [(("tree" : Str), cc)]) (hcode : X.env.code = .ref c)
    (hcc : X.env.cells.lookup ("tree" : Str) = some cc) (hN : X.N[0]? = some ("tree" : Str)) (hkc : X.env.kindOf ("tree" : Str) = some .cell)
    (hbind : ∀ (pm ctv u : Value) (c' : Addr), bindArgs (PySem.W.kla_fn "<lambda>" rfbQual params lbody lscope [(("tree" : Str), cc)] pm (.ref c') ctv) ⟨[u], []⟩ = pure [(("row" : Str), u)])
    (hsr : lscope.names.lookup ("row" : Str) = some .local) (hst : lscope.names.lookup ("tree" : Str) = some .free) (hk : lscope.kind = .function) (hco : lscope.isCoroutine = false) (hgen : lscope.isGenerator = false)
    (hcell : ∀ y ∈ lscope.names, y.2 ≠ .cell) (hfree : ∀ y, lscope.names.lookup y = some .free → y = ("tree" : Str))
    (PB : ∀ (A2 : Around) (f c' : Addr) (s : Shared) (H : Hp), Room 2 (A2.deeper (PySem.W.envX rfbQual lscope s.heap.objs.size f (.ref c') [(("tree" : Str), cc)])) → PE (lamCx X A2 "row" "tree" rfbQual lscope f (.ref c') cc s H) lbody (tLamBody X.K))
    (he : backTo pos (starEach [.Name "rows" p2] X.env) = (false, eval (.Name "rows" p2) X.env) :: backTo pos (starEach [] X.env) := by rfl)
    (hplain : (backTo pos (starEach [.Name "rows" p2] X.env)).any (·.1) = false := by rfl) (hss : starEach [.Name "rows" p2] X.env = (false, eval (.Name "rows" p2) X.env) :: starEach [] X.env := by rfl) :
    PE X (.Call (.Name "sorted" p) [.Name "rows" p2] [⟨some "key", .Lambda params lbody lscope lpos, kpos⟩] pos) (tSortLam C Pt) := by
  intro pins s σ H Q I h
  obtain ⟨t, L, a, as, h0, h3, tr, hL, hrs, lam, k⟩ := h
  refine wpAny_Call_Name_kw (ld_blt I hg T.sorted bt_sorted ?_)
  refine callWith_kw ?_ he hplain
  refine thn ((pa_cons hrows pa_nil hss) pos pins s σ H (fun vs H1 => vs = [.ref L] ∧ H1 = H) I ⟨_, h3, rfl, rfl⟩) fun us s1 zq => ?_
  obtain ⟨vs, H1, I1, r1, e1, e2⟩ := zq
  subst e1 e2
  have eus := Vals.ref1 r1
  subst eus
  show wpAny _ _ (evalAll ((do let v ← eval (.Lambda params lbody lscope lpos) X.env; standAt pos; pure v) :: [])) _ _ s1
  refine wpAny_evalAll_cons (wpAny_bind ?_)
  subst hpos
  refine lam_make I1 lam hdef hq hcl hcode hC hB fun f c' ctv s2 H2 sp la I2 => wpAny_bind (wpAny_standAt (wpAny_pure (wpAny_evalAll_nil ?_)))
  show wpAny _ _ (call (.builtin "sorted") [.ref L] [(Str.ofString "key", .ref f)]) _ _ s2
  obtain ⟨ps, hP⟩ := lam_tbl lam
  have hL2 := lst_p hL sp hP
  have tr2 := tr_p tr sp hP
  have rows2 : ∀ p ∈ as, OkRow H2 a p := fun p hp => by
    obtain ⟨js, j1, j2⟩ := hrs p hp
    exact ⟨js, lst_p j1 sp hP, j2⟩
  have kyE : ∀ p ∈ as, kyH H2 a (.ref p) = kyH H1 a (.ref p) := fun p hp => by
    obtain ⟨js, j1, _⟩ := hrs p hp
    unfold kyH
    rw [rowAt_eq j1, rowAt_eq (lst_p j1 sp hP)]
  refine skt_sorted (ky := kyH H2 a) I2 (SqL.of hL2) (fun i x u pins' s' H' hx rx hpin I' sm => ?_) fun s' H' D out sm d1 d2 S I' => ?_
  · obtain ⟨p, hp, rfl⟩ : ∃ p, as[i]? = some p ∧ x = V.ref p := by
      rw [List.getElem?_map] at hx
      cases e : as[i]? with
      | none => rw [e] at hx; cases hx
      | some p => rw [e] at hx; exact ⟨p, rfl, (Option.some.inj hx).symm⟩
    obtain ⟨js, j1, j2, j3, j4⟩ := rows2 p (List.mem_of_getElem? hp)
    have tr3 := tr2.same sm
    obtain ⟨dx, hh, ch, y⟩ := id tr3
    have hr2 : Room 3 X.A.in1.in1 := hr.in1.in1
    refine lam_call (A2 := X.A.in1.in1) (r := "row") (tn := "tree") (i := 0) (x := V.ref p) (tv := V.ref t) (t := tLamBody X.K) I' I.ok.frames hr2.hd hr2.depth (hf := List.mem_append_right _ (hpin _ (List.mem_append_right _ (List.mem_singleton.mpr rfl)))) (sm _ _ la.2) (hbind _ _ _ _) hsr hst (by decide) hk hco hgen hcell hfree hcc hN hkc h0 rx
      (PB _ _ _ _ _ (hr2.deeper _)) ?_
    refine ⟨_, rfl, t, C, dx, _, _, rfl, y.ins, T.cl, T.nC, tf_chg, _, rfl, ch, p, a, js, rfl, ⟨SqL.of y.ch, SqL.of (sm _ _ j1), j2, j3, j4⟩, fun H3 q s3 hq hq3 => ⟨s3, q, rfl, ?_⟩⟩
    rw [hq3]
    unfold kyH
    rw [rowAt_eq j1]
    rfl
  · have S' : StableBy (kyH H1 a) (as.map V.ref) out := by
      have mem : ∀ x ∈ out, ∃ p ∈ as, x = V.ref p := fun x hx => by
        obtain ⟨p, hp, e⟩ := List.mem_map.mp (S.perm.mem_iff.mp hx)
        exact ⟨p, hp, e.symm⟩
      refine ⟨S.perm, List.Pairwise.imp_of_mem (fun {x y} hx hy q => ?_) S.pw, fun c => ?_⟩
      · obtain ⟨p, hp, rfl⟩ := mem x hx
        obtain ⟨q', hq', rfl⟩ := mem y hy
        rw [← kyE p hp, ← kyE q' hq']
        exact q
      · have e1 : out.filter (fun x => kyH H1 a x == c) = out.filter (fun x => kyH H2 a x == c) := List.filter_congr fun x hx => by
          obtain ⟨p, hp, rfl⟩ := mem x hx
          rw [kyE p hp]
        have e2 : (as.map V.ref).filter (fun x => kyH H1 a x == c) = (as.map V.ref).filter (fun x => kyH H2 a x == c) := List.filter_congr fun x hx => by
          obtain ⟨p, hp, rfl⟩ := List.mem_map.mp hx
          rw [kyE p hp]
        rw [e1, e2]
        exact S.st c
    have hD1 : H1 D = none := by
      cases e : H1 D with
      | none => rfl
      | some o =>
        by_cases z : D = Pt
        · rw [z] at d1
          rw [la.1] at d1
          cases d1
        · rw [sp D o e z] at d1
          cases d1
    exact ⟨.ref D, _, I'.unpinned, rfl, k H' D out (sp.trans sm.p) (la.lam.same sm) hD1 d2 S'⟩
end
end Le

end
section
set_option Elab.async false
set_option linter.all false
set_option maxRecDepth 100000
set_option maxHeartbeats 4000000
namespace L2
open PySem PySem.Spec PyProof.Rows
structure FunC (K : PySem.W.Frag) (x qual : Str) (st : Stmt) (f : Addr) (fd : FuncData) (c : Addr) : Prop where
  ex : ∃ (oc : Value) (od : Option Addr) (kV doc pm : Value) (an : Option Addr) (ct : Value) (osl : Array (Option Value)),
    fd = PySem.W.fnOf x qual (defArgs st) (defBody st) (defScope st) .none kV doc pm an (.ref c) ct ∧ K.lookup f = some ⟨oc, od, .func fd, osl⟩ ∧ PySem.W.codeIn K (.ref c) qual = true
  kp : PySem.W.keepIn K (.ref f) = true
section
variable {P : Program} {w : World} {K : PySem.W.Frag} {mg : Str → Option Value} {base : Heap}
theorem FunC.fn {x qual : Str} {st : Stmt} {f c : Addr} {fd : FuncData} (F : FunC K x qual st f fd c) : Fun K x qual st f fd := by
  obtain ⟨oc, od, kV, doc, pm, an, ct, osl, h⟩ := F.ex
  exact ⟨⟨oc, od, kV, doc, pm, an, _, ct, osl, h⟩, F.kp⟩
theorem FunC.ok {x qual : Str} {st : Stmt} {f c : Addr} {fd : FuncData} {N ps : List Str} {k : Nat} {sp : Sp} (F : FunC K x qual st f fd c) (S : FnScope N ps (defScope st)) (len : ∀ vs H Q E, sp vs H Q E → vs.length = ps.length)
    (hbody : ∀ (A : Around) (outer : List Env) (s : Shared) (H : Hp) (vs : List V) (Q : VK) (E : XK), Room k (A.deeper (envOfC qual (defScope st) s.heap.objs.size f (.ref c))) → sp vs H Q E →
      ∃ t, PSs (cxOf CX0 P w K mg base N qual (defScope st) f (.ref c) A outer s H E).nox (defBody st) t ∧ t { nx := fun _ H' => Q .non H', rt := Q } (start N vs) H) : FnOk P w K mg base CX0 (k + 1) f fd ps sp := by
  obtain ⟨oc, od, kV, doc, pm, an, ct, osl, rfl, lk, hcd⟩ := F.ex
  refine fn_of lk hcd S len fun A outer s H vs Q E hr hsp => ?_
  obtain ⟨t, h, q⟩ := hbody A outer s H vs Q E hr hsp
  exact ⟨t, h.nox, q⟩
end
end L2
namespace Le
open PySem PySem.Spec PyProof.Rows L2
open Kv374 (Abs Part has add far)
noncomputable abbrev KRow := Kv374.Row
noncomputable abbrev RowsP (H : Hp) : List Addr → List KRow → Prop := Paired fun q r => H q = some (.lst (natV r.jobs))
noncomputable def RowsAt (H : Hp) (p : Addr) (rs : List KRow) : Prop := ∃ as : List Addr, H p = some (.lst (as.map V.ref)) ∧ RowsP H as rs
theorem RowsP.imp {H H' : Hp} (s : ∀ q xs, H q = some (.lst xs) → H' q = some (.lst xs)) : ∀ {as : List Addr} {rs : List KRow}, RowsP H as rs → RowsP H' as rs
  | _, _, .nil => .nil
  | _, _, .cons a r => .cons (s _ _ a) (RowsP.imp s r)
theorem RowsP.append {H : Hp} : ∀ {as bs : List Addr} {rs qs : List KRow}, RowsP H as rs → RowsP H bs qs → RowsP H (as ++ bs) (rs ++ qs)
  | _, _, _, _, .nil, h => h
  | _, _, _, _, .cons a r, h => .cons a (RowsP.append r h)
theorem RowsAt.imp {H H' : Hp} {p : Addr} {rs : List KRow} (h : RowsAt H p rs) (s : ∀ q xs, H q = some (.lst xs) → H' q = some (.lst xs)) : RowsAt H' p rs := by
  obtain ⟨as, h1, h2⟩ := h
  exact ⟨as, s _ _ h1, h2.imp s⟩
theorem same_l {H H' : Hp} (s : Same H H') : ∀ q xs, H q = some (.lst xs) → H' q = some (.lst xs) := fun q xs h => s _ _ h
theorem RowsP.len {H : Hp} {as : List Addr} {rs : List KRow} (h : RowsP H as rs) : as.length = rs.length := Paired.length h
theorem RowsP.ok {H : Hp} {a : Abs} : ∀ {as : List Addr} {rs : List KRow}, RowsP H as rs → (∀ r ∈ rs, Lk.Fine a r ∧ r.jobs.length ≤ 1000) → ∀ p ∈ as, OkRow H a p
  | _, _, .nil, _, p, hp => by cases hp
  | _, _, .cons x r, h, p, hp => by
    rcases List.mem_cons.mp hp with z | z
    · obtain ⟨f, l⟩ := h _ List.mem_cons_self
      rw [z]
      exact ⟨_, x, f.2.1, fun i hi => (f.2.2 i hi).2, l⟩
    · exact RowsP.ok r (fun y hy => h y (List.mem_cons_of_mem _ hy)) p z
theorem RowsP.row {H : Hp} {a : Abs} : ∀ {as : List Addr} {rs : List KRow}, RowsP H as rs → (∀ r ∈ rs, Lk.Fine a r) → (as.map V.ref).map (fun x => Lk.rowOf a (rowAt H x)) = rs
  | _, _, .nil, _ => rfl
  | _, _, .cons x r, h => by
    rw [List.map_cons, List.map_cons, RowsP.row r fun y hy => h y (List.mem_cons_of_mem _ hy), rowAt_eq x]
    congr 1
    exact ((h _ List.mem_cons_self).1).symm
noncomputable def DictAt (H : Hp) (d : Addr) (a : Abs) (lo : Nat) : Prop := ∃ kvs : List (Key × V), H d = some (.dK kvs) ∧ kvs.length + lo ≤ a.n ∧ ∀ j, lo ≤ j → 0 < j → j < a.n → ∃ p, valV kvs (Sum.inl (j : Int)) = some (.ref p) ∧ RowsAt H p (Lk.R a j)
theorem DictAt.same {H H' : Hp} {d : Addr} {a : Abs} {lo : Nat} (h : DictAt H d a lo) (s : Same H H') : DictAt H' d a lo := by
  obtain ⟨kvs, h1, h2, h3⟩ := h
  refine ⟨kvs, s _ _ h1, h2, fun j q1 q2 q3 => ?_⟩
  obtain ⟨p, e, r⟩ := h3 j q1 q2 q3
  exact ⟨p, e, r.imp (same_l s)⟩
theorem refs_ne {as : List Addr} {js : List Nat} (h : js ≠ []) : as.map V.ref ≠ natV js := by
  cases js with
  | nil => exact absurd rfl h
  | cons j js =>
    cases as with
    | nil => exact fun e => by cases e
    | cons p as => exact fun e => by cases (List.cons.inj e).1
noncomputable def freeOnly (names : List (Str × NameKind)) (tn : Str) : Bool := names.all fun p => match p.2 with
  | .free => decide (p.1 = tn)
  | _ => true
theorem free_one {names : List (Str × NameKind)} {tn y : Str} (h : freeOnly names tn = true) (e : names.lookup y = some .free) : y = tn := by
  have := List.all_eq_true.mp h (y, .free) (PySem.mem_of_lookup e)
  exact of_decide_eq_true this
theorem flat_snoc {f : Nat → List KRow} {l : List Nat} {j b : Nat} (h : l[j]? = some b) : ((l.take (j + 1)).map f).flatten = ((l.take j).map f).flatten ++ f b := by
  rw [take_snoc h, List.map_append, List.flatten_append]
  simp
theorem flat_len {a : Abs} (W : Lk.WF a) {i : Nat} (hi : i < a.n) : ∀ {l : List Nat}, (∀ j ∈ l, 0 < j ∧ j < a.n) → ((l.map fun j => Lk.R a j).flatten).length ≤ 256 * l.length
  | [], _ => Nat.zero_le _
  | j :: l, h => by
    have h1 := Lk.R_len W (h j List.mem_cons_self).1 (h j List.mem_cons_self).2
    have h2 := flat_len W hi (l := l) fun x hx => h x (List.mem_cons_of_mem _ hx)
    rw [List.map_cons, List.flatten_cons, List.length_append, List.length_cons]
    omega
theorem sorted_rows {H : Hp} {a : Abs} {as : List Addr} {rs : List KRow} {out : List V} (h : RowsP H as rs) (hf : ∀ r ∈ rs, Lk.Fine a r) (S : StableBy (kyH H a) (as.map V.ref) out) : ∃ bs : List Addr, out = bs.map V.ref ∧ RowsP H bs (rs.mergeSort Kv374.before) := by
  have e := h.row hf
  have mem : ∀ x ∈ out, ∃ p ∈ as, x = V.ref p := fun x hx => by
    obtain ⟨p, hp, e⟩ := List.mem_map.mp (S.perm.mem_iff.mp hx)
    exact ⟨p, hp, e.symm⟩
  have hs : out.map (fun x => Lk.rowOf a (rowAt H x)) = rs.mergeSort Kv374.before := by
    refine Lk.sort_eq ?_ fun c => ?_
    · rw [List.pairwise_map]
      exact S.pw
    · rw [List.filter_map, ← e, List.filter_map]
      have := S.st c
      exact congrArg (List.map fun x => Lk.rowOf a (rowAt H x)) this
  have at_ : ∀ p ∈ as, ∃ js, H p = some (.lst (natV js)) := by
    clear S mem hs e hf
    intro p hp
    induction h with
    | nil => cases hp
    | cons x r ih =>
      rcases List.mem_cons.mp hp with z | z
      · rw [z]; exact ⟨_, x⟩
      · exact ih z
  rw [← hs]
  have go : ∀ l : List V, (∀ x ∈ l, ∃ p ∈ as, x = V.ref p) → ∃ bs : List Addr, l = bs.map V.ref ∧ RowsP H bs (l.map fun x => Lk.rowOf a (rowAt H x)) := by
    intro l
    induction l with
    | nil => exact fun _ => ⟨[], rfl, .nil⟩
    | cons x l ih =>
      intro hl
      obtain ⟨p, hp, rfl⟩ := hl x List.mem_cons_self
      obtain ⟨bs, e1, e2⟩ := ih fun y hy => hl y (List.mem_cons_of_mem _ hy)
      obtain ⟨js, hj⟩ := at_ p hp
      refine ⟨p :: bs, by rw [List.map_cons, e1], ?_⟩
      rw [List.map_cons]
      refine .cons ?_ e2
      show H p = some (.lst (natV (rowAt H (.ref p))))
      rw [rowAt_eq hj]
      exact hj
  exact go out mem
section
variable {P : Program} {w : World} {K : PySem.W.Frag} {mg : Str → Option Value} {base : Heap} {C : Addr}
noncomputable def spRfb (C Pt : Addr) : Sp := fun vs H Q _ => ∃ (t d : Addr) (a : Abs) (i : Nat), vs = [.ref t, .int (i : Int), .ref d] ∧ Tr C H t a ∧ i < a.n ∧ DictAt H d a (i + 1) ∧ Lam rfbPos rfbQual Pt H ∧
  ∀ (H' : Hp) (q : Addr), SameP Pt H H' → Lam rfbPos rfbQual Pt H' → H q = none → RowsAt H' q (Lk.B a i) → Q (.ref q) H'
theorem ok_rfb {f c Pt : Addr} {fd : FuncData} (F : FunC K "rows_for_boughs" "rows_for_boughs" sRfb f fd c) (T : Txt K mg C) (hC : PySem.W.CodeHd base c Pt) (hB : base.BuiltinsAt mg Pt) (GO : MCallee P w K mg base C 2 "boughs_on" ["self", "part"] (spOn C))
    (GS : Callee P w K mg base 2 "standing" ["changes", "row"] (spStand K)) : FnOk P w K mg base CX0 6 f fd ["tree", "part", "rows_for"] (spRfb C Pt) := by
  refine F.ok scRfb (fun vs H Q E h => ?_) (fun A outer s H vs Q E hr h => ?_)
  · obtain ⟨t, d, a, i, rfl, _⟩ := h
    rfl
  · obtain ⟨t, d, a, i, rfl, tr0, hi, dict, lam, k⟩ := h
    have nd := scRfb.nd
    have hu := hu_of hr
    refine ⟨_, pss_cons (ps_set (i := 3) nd rfl (Or.inl rfl) (pe_lst pa_nil))
      (pss_cons (ps_for PassesOwn.never rfl (pi_list (pe_methC GO T.cl (hr.mono (by decide)) (pv 0) (pa_cons (pv 1) pa_nil))) (pg_name (i := 4) nd rfl (Or.inl rfl))
        (pss_one (ps_expr (pe_bm PySem.F.plainAttrs_list PySem.F.slot_list_extend PySem.F.type_list_extend mt_extend (pv 3) (pa_cons (pe_dget hu (pv 2) (pv 4) (fun _ _ => rfl)) pa_nil)))))
      (pss_one (ps_ret (pe_sortLam (cc := s.heap.objs.size + 1) T hr hC hB rfl (pv 3) rfl rfl rfl rfl rfl rfl rfl rfl (fun _ _ _ _ => rfl) rfl rfl rfl rfl rfl (by decide +kernel) (fun y hy => ?_)
        (fun A2 f' c' s' H' hr' => pe_callC GS hr' rfl (pa_cons (pe_fld (pv 1) rfl) (pa_cons (pv 0) pa_nil))))))), ?_⟩
    · exact free_one (by decide +kernel) hy
    · obtain ⟨dx, h, c', tr⟩ := id tr0
      have W := tr.wf
      refine ⟨Nat.zero_le _, fun L hL => ?_⟩
      have s1 : Same H (upd H L (.lst [])) := same_upd hL
      refine ⟨_, rfl, t, dx, _, rfl, s1 _ _ tr.ins, rfl, _, rfl, t, a, i, rfl, tr0.same s1, fun H2 l s2 hl hl2 => ⟨l, rfl, ⟨_, SqL.of hl2⟩, ?_⟩⟩
      have nlL : l ≠ L := fun z => by
        rw [z, upd_same] at hl
        cases hl
      have hbo : ∀ j ∈ a.boughs i, 0 < j ∧ j < a.n := fun j hj => (Lk.mem_boughs.mp hj).1
      refine for_list (K := K) (a := l) (xs := natV (a.boughs i)) (fun j σ H' => j ≤ (a.boughs i).length ∧ ∃ (v4 : Option V) (as : List Addr), σ = [some (.ref t), some (.int (i : Int)), some (.ref d), some (.ref L), v4] ∧ Same H H' ∧ H' l = some (.lst (natV (a.boughs i))) ∧
        H' L = some (.lst (as.map V.ref)) ∧ RowsP H' as ((((a.boughs i).take j).map fun b => Lk.R a b).flatten)) ⟨Nat.zero_le _, none, [], rfl, s1.trans s2, hl2, s2 _ _ upd_same, .nil⟩ (fun j σ H' _ ⟨_, _, _, _, _, z, _⟩ => SqL.of z) ?_ ?_
      · rintro j x σ H3 hj ⟨_, v4, as, rfl, s3, hl3, hL3, hP3⟩
        obtain ⟨b, hb, rfl⟩ := natV_at hj
        have hj' : j < (a.boughs i).length := (List.getElem?_eq_some_iff.mp hb).1
        have hbm := List.mem_of_getElem? hb
        obtain ⟨b0, b1⟩ := hbo b hbm
        obtain ⟨kvs, d1, d2, d3⟩ := dict.same s3
        obtain ⟨q, q1, bs, q2, q3⟩ := d3 b (Lk.boughs_gt W hbm) b0 b1
        have hget : DGet H3 d (V.int (b : Int)) (some (V.ref q)) := by
          have := DGet.k (k := Sum.inl (b : Int)) d1
          rw [q1] at this
          exact this
        have hlen1 : as.length ≤ 256 * 8 := by
          rw [hP3.len]
          refine Nat.le_trans (flat_len W hi fun y hy => hbo y (List.mem_of_mem_take hy)) ?_
          have := boughs_len W i
          rw [List.length_take]
          omega
        have hlen2 : bs.length ≤ 256 := by
          rw [q3.len]
          exact Lk.R_len W b0 b1
        refine ⟨_, rfl, .inl ⟨rfl, _, SqL.of hL3⟩, _, rfl, _, rfl, d, _, rfl, hget, L, q, _, _, rfl, rfl, hL3, q2, ?_, ?_⟩
        · rw [List.length_map, List.length_map]
          exact Nat.le_trans (show as.length + bs.length ≤ 10000 by omega) (by decide)
        · have keep : ∀ z xs, z ≠ L → H3 z = some (.lst xs) → (upd H3 L (.lst (as.map V.ref ++ bs.map V.ref))) z = some (.lst xs) := fun z xs hz e => by
            rw [upd_ne hz]
            exact e
          have nL : ∀ {cs : List Addr} {rs : List KRow}, RowsP H3 cs rs → (∀ r ∈ rs, Lk.Fine a r) → RowsP (upd H3 L (.lst (as.map V.ref ++ bs.map V.ref))) cs rs := by
            intro cs rs hc hf
            induction hc with
            | nil => exact .nil
            | cons x r ih =>
              refine .cons (keep _ _ (fun z => ?_) x) (ih fun y hy => hf y (List.mem_cons_of_mem _ hy))
              rw [z, hL3] at x
              have e1 := Option.some.inj x
              injection e1 with e1
              exact refs_ne (hf _ List.mem_cons_self).2.1 e1
          refine ⟨by omega, _, as ++ bs, rfl, fun b' o e => ?_, ?_, ?_, ?_⟩
          · rw [upd_ne (ne_of_none e hL)]
            exact s3 _ _ e
          · rw [upd_ne nlL]
            exact hl3
          · rw [upd_same, List.map_append]
          · rw [flat_snoc hb]
            refine (nL hP3 fun r hr => ?_).append (nL q3 (Lk.R_fine' W b0 b1))
            obtain ⟨z, hz, hrz⟩ := List.mem_flatten.mp hr
            obtain ⟨y, hy, rfl⟩ := List.mem_map.mp hz
            have := hbo y (List.mem_of_mem_take hy)
            exact Lk.R_fine' W this.1 this.2 r hrz
      · rintro σ H3 ⟨_, v4, as, rfl, s3, hl3, hL3, hP3⟩
        rw [len_natV, List.take_length] at hP3
        have hf : ∀ r ∈ ((a.boughs i).map fun b => Lk.R a b).flatten, Lk.Fine a r ∧ r.jobs.length ≤ 1000 := fun r hr => by
          obtain ⟨z, hz, hrz⟩ := List.mem_flatten.mp hr
          obtain ⟨y, hy, rfl⟩ := List.mem_map.mp hz
          have hy' := hbo y hy
          refine ⟨Lk.R_fine' W hy'.1 hy'.2 r hrz, Nat.le_trans (Lk.jobs_mem_le hrz) (Nat.le_trans (Lk.R_jobs W hy'.1 hy'.2) (by decide))⟩
        refine ⟨t, L, a, as, rfl, rfl, tr0.same s3, hL3, hP3.ok hf, lam.same s3, fun H4 D out sp la d1 d2 S => ?_⟩
        obtain ⟨bs, e1, e2⟩ := sorted_rows hP3 (fun r hr => (hf r hr).1) S
        obtain ⟨ps, hPt⟩ := lam_tbl (lam.same s3)
        have la' : Lam rfbPos rfbQual Pt (upd H4 D (.lst out)) := la.same (same_upd d2)
        refine k _ D ((s3.p.trans sp).trans (same_upd d2).p) la' (s3.free d1) ⟨bs, by rw [upd_same, e1], ?_⟩
        refine RowsP.imp (fun q xs hq => ?_) e2
        rw [upd_ne (ne_of_none hq d1)]
        exact lst_p hq sp hPt
end
end Le

end
section
set_option Elab.async false
set_option linter.all false
set_option maxRecDepth 100000
set_option maxHeartbeats 4000000
namespace Le
open PySem PySem.Spec PyProof.Rows L2
open Kv374 (Abs Part has add far)
theorem lex_klt (p q : Int × Int) : HT.lexLt (Lk.kl p) (Lk.kl q) = Lk.klt p q := by
  obtain ⟨a, b⟩ := p
  obtain ⟨c, d⟩ := q
  show (if a = c then (if b = d then false else decide (b < d)) else decide (a < c)) = _
  unfold Lk.klt
  rw [Bool.eq_iff_iff]
  by_cases h1 : a = c
  · subst h1
    by_cases h2 : b = d
    · subst h2
      simp
    · simp [h2]
  · simp [h1]
theorem at_last {α : Type} (xs : List α) (u v : α) : atI (xs ++ [u, v]) (-2) = some u := by
  have hl : (xs ++ [u, v]).length = xs.length + 2 := by simp
  have e : ixN (xs ++ [u, v]).length (-2) = some xs.length := by
    unfold ixN
    rw [hl, if_neg (by decide), if_pos (by omega)]
    congr 1
    omega
  unfold atI
  rw [e]
  show (xs ++ [u, v])[xs.length]? = some u
  simp
theorem ix_last {n : Nat} : ixN (n + 1) (-1) = some n := by
  unfold ixN
  rw [if_neg (by decide), if_pos (by omega)]
  congr 1
  omega
theorem for_rev {K : PySem.W.Frag} {a : Addr} {xs : List V} {g : TG} {tb : TS} {D : Ends} {σ : L2.St} {H : Hp} (Pv : Nat → L2.St → Hp → Prop) (h0 : Pv 0 σ H) (hl : ∀ i σ H, i ≤ xs.length → Pv i σ H → SqL K H a xs)
    (hs : ∀ i x σ H, i < xs.length → xs[xs.length - 1 - i]? = some x → Pv i σ H → g x σ H fun σ2 H2 => tb { D with nx := Pv (i + 1), ct := Pv (i + 1), bk := D.nx } σ2 H2) (hd : ∀ σ H, Pv xs.length σ H → D.nx σ H) :
    ∃ W : Nat → Nat → L2.St → Hp → Prop, (∃ m, W 0 m σ H) ∧ ∀ i m σ H, W i m σ H →
      ((Itv K a xs.length).stop i H ∧ D.nx σ H) ∨ ((Itv K a xs.length).go i H ∧ ∃ N : L2.St → Hp → Prop, (∀ σ' H', N σ' H' → ∃ m', m' < m ∧ W (i + 1) m' σ' H') ∧ ∀ x H', (Itv K a xs.length).yld i H x H' → g x σ H' fun σ2 H2 => tb { D with nx := N, ct := N, bk := D.nx } σ2 H2) := by
  refine ⟨fun i m σ H => m = xs.length - i ∧ i ≤ xs.length ∧ Pv i σ H, ⟨xs.length, by simp, Nat.zero_le _, h0⟩, ?_⟩
  rintro i m σ H ⟨rfl, hi, p⟩
  have q := hl i σ H hi p
  by_cases hlt : i < xs.length
  · have hlt2 : xs.length - 1 - i < xs.length := by omega
    refine .inr ⟨⟨hlt, xs, xs[xs.length - 1 - i], q, by rw [List.getElem?_eq_getElem hlt2]⟩, Pv (i + 1), fun σ' H' p' => ⟨xs.length - (i + 1), by omega, rfl, hlt, p'⟩, fun x H' y => ?_⟩
    obtain ⟨e, y⟩ := y
    subst e
    exact hs i x σ _ hlt (y xs q) p
  · have e : i = xs.length := by omega
    subst e
    exact .inl ⟨Nat.le_refl _, hd σ H p⟩
theorem RowsP.fine {H H' : Hp} {a : Abs} (kk : ∀ (q : Addr) (js : List Nat), H q = some (.lst (natV js)) → js ≠ [] → H' q = some (.lst (natV js))) : ∀ {as : List Addr} {rs : List KRow}, RowsP H as rs → (∀ r ∈ rs, Lk.Fine a r) → RowsP H' as rs
  | _, _, .nil, _ => .nil
  | _, _, .cons z r, hf => .cons (kk _ _ z (hf _ List.mem_cons_self).2.1) (RowsP.fine kk r fun w hw => hf w (List.mem_cons_of_mem _ hw))
section
variable {P : Program} {w : World} {K : PySem.W.Frag} {mg : Str → Option Value} {base : Heap} {C : Addr}
noncomputable def spWith (K : PySem.W.Frag) : Sp := fun vs H Q _ => ∃ (c p : Addr) (a : Abs) (i : Nat) (rs : List KRow), vs = [.ref c, .ref p, .int (i : Int)] ∧ SqL K H c (chV a) ∧ RowsAt H p rs ∧ (0 < i ∧ i < a.n) ∧ (∀ r ∈ rs, Lk.Fine a r) ∧ (Lk.jobsOf rs).length ≤ 256 ∧
  ∀ (H' : Hp) (q : Addr), Same H H' → H q = none → RowsAt H' q (Kv374.push rs.reverse (Lk.rowOf a [i])).reverse → Q (.ref q) H'
theorem scWith : FnScope ["changes", "rows", "part", "joined", "last"] ["changes", "rows", "part"] (defScope sWith) := ⟨rfl, rfl, rfl, by decide +kernel, rfl, by decide +kernel, by decide +kernel⟩
theorem push_one (s : KRow) : Kv374.push [] s = [s] := rfl
theorem push_cons (p s : KRow) (r : List KRow) : Kv374.push (p :: r) s = if Kv374.before p s = true then s :: p :: r else Kv374.push r (Kv374.join p s) := rfl
theorem RowsP.snoc_inv {H : Hp} : ∀ {as : List Addr} {rs : List KRow} {x : KRow}, RowsP H as (rs ++ [x]) → ∃ bs q, as = bs ++ [q] ∧ RowsP H bs rs ∧ H q = some (.lst (natV x.jobs))
  | as, [], x, h => by
    cases h with
    | cons a r =>
      cases r
      exact ⟨[], _, rfl, .nil, a⟩
  | as, y :: rs, x, h => by
    cases h with
    | cons a r =>
      obtain ⟨bs, q, e, h1, h2⟩ := RowsP.snoc_inv r
      exact ⟨_ :: bs, q, by rw [e]; rfl, .cons a h1, h2⟩
theorem ok_with {f : Addr} {fd : FuncData} (F : Fun K "with_part" "with_part" sWith f fd) (T : Txt K mg C) (GS : Callee P w K mg base 2 "standing" ["changes", "row"] (spStand K)) : FnOk P w K mg base CX0 3 f fd ["changes", "rows", "part"] (spWith K) := by
  refine F.ok scWith (fun vs H Q E h => ?_) (fun cdv A outer s H vs Q E hr h => ?_)
  · obtain ⟨c, p, a, i, rs, rfl, _⟩ := h
    rfl
  · obtain ⟨c, p, a, i, rs, rfl, hc, ⟨as0, hp, hrs⟩, ⟨i0, i1⟩, hfine, hjobs, k⟩ := h
    have nd := scWith.nd
    refine ⟨_, pss_cons (ps_set (i := 3) nd rfl (Or.inl rfl) (pe_op op_cat (pv 1) (pe_lst (pa_cons (pe_lst (pa_cons (pv 2) pa_nil)) pa_nil))))
      (pss_cons (ps_while PassesOwn.never (PW.pt (pw_and (pt_cmpR op_gt (pe_callB call_len_seq (by rfl) T.len PySem.boot_len (pa_cons (pv 3) pa_nil)) pe_int (nomark _))
          (pw_and1 (pt_cmpR (op_ltT hr.units0) (pe_callC GS hr rfl (pa_cons (pv 0) (pa_cons (pe_ix ix_list (pv 3) (pe_un un_neg pe_int) (fun _ _ => rfl)) pa_nil))) (pe_callC GS hr rfl (pa_cons (pv 0) (pa_cons (pe_ix ix_list (pv 3) (pe_un un_neg pe_int) (fun _ _ => rfl)) pa_nil))) (nomark _)))))
        (pss_cons (ps_set (i := 4) nd rfl (Or.inl rfl) (pe_bm0 PySem.F.plainAttrs_list PySem.F.slot_list_pop PySem.F.type_list_pop mt_pop (pv 3)))
        (pss_one (ps_asg (pe_op op_cat (pe_ix ix_list (pv 3) (pe_un un_neg pe_int) (fun _ _ => rfl)) (pv 4)) (pg_sub (pv 3) (pe_un un_neg pe_int) set_list)))))
      (pss_one (ps_ret (pv 3)))), ?_⟩
    have hlen0 : as0.length ≤ 256 := by
      rw [hrs.len]
      exact Nat.le_trans (Lk.jobs_ge hfine) hjobs
    refine ⟨_, rfl, _, rfl, by show 1 ≤ sizeLine; decide, fun q0 hq0 => ⟨by show 1 ≤ sizeLine; decide, fun q1 hq1 => ?_⟩⟩
    have s0 : Same H (upd H q0 (.lst [V.int (i : Int)])) := same_upd hq0
    have s1 := s0.trans (same_upd (o := .lst [V.ref q0]) hq1)
    refine ⟨p, q1, _, _, rfl, rfl, s1 _ _ hp, upd_same, ?_, fun J hJ => ?_⟩
    · rw [List.length_map]
      exact Nat.le_trans (show as0.length + 1 ≤ 300 by omega) (by decide)
    have s2 := s1.trans (same_upd (o := .lst (as0.map V.ref ++ [V.ref q0])) hJ)
    have hJH : H J = none := s1.free hJ
    have nq0J : q0 ≠ J := fun z => by
      rw [← z, upd_ne (ne_of_none upd_same hq1), upd_same] at hJ
      cases hJ
    have hq0' : (upd (upd (upd H q0 (.lst [V.int (i : Int)])) q1 (.lst [V.ref q0])) J (.lst (as0.map V.ref ++ [V.ref q0]))) q0 = some (.lst (natV [i])) := by
      rw [upd_ne nq0J, upd_ne (ne_of_none upd_same hq1), upd_same]
      rfl
    have hJ' : (upd (upd (upd H q0 (.lst [V.int (i : Int)])) q1 (.lst [V.ref q0])) J (.lst (as0.map V.ref ++ [V.ref q0]))) J = some (.lst ((as0 ++ [q0]).map V.ref)) := by
      rw [upd_same, List.map_append]
      rfl
    generalize (upd (upd (upd H q0 (.lst [V.int (i : Int)])) q1 (.lst [V.ref q0])) J (.lst (as0.map V.ref ++ [V.ref q0]))) = H3 at s2 hq0' hJ'
    have hP3 : RowsP H3 (as0 ++ [q0]) ((Lk.rowOf a [i] :: rs.reverse).reverse) := by
      rw [List.reverse_cons, List.reverse_reverse]
      exact (hrs.imp (same_l s2)).append (.cons hq0' .nil)
    refine ⟨fun m σ H' => ∃ (v4 : Option V) (as : List Addr) (x : KRow) (st : List KRow), m = st.length ∧ σ = [some (.ref c), some (.ref p), some (.int (i : Int)), some (.ref J), v4] ∧ Same H H' ∧ H' J = some (.lst (as.map V.ref)) ∧ RowsP H' as (x :: st).reverse ∧
      Kv374.push st x = Kv374.push rs.reverse (Lk.rowOf a [i]) ∧ (∀ r ∈ x :: st, Lk.Fine a r) ∧ (Lk.jobsOf (x :: st)).length ≤ 257, ⟨_, none, as0 ++ [q0], Lk.rowOf a [i], rs.reverse, rfl, rfl, s2, hJ', hP3, rfl, fun r hr' => ?_, ?_⟩, ?_⟩
    · rcases List.mem_cons.mp hr' with z | z
      · rw [z]; exact Lk.Fine.one i0 i1
      · exact hfine r (List.mem_reverse.mp z)
    · rw [Lk.jobsOf_cons, List.length_append, Lk.jobs_rev]
      show ([i] : List Nat).length + _ ≤ _
      rw [List.length_singleton]
      omega
    rintro m σ H4 ⟨v4, as, x, st, rfl, rfl, s4, hJ4, hP4, hpush, hf4, hj4⟩
    have hlen4 : as.length = st.length + 1 := by rw [hP4.len, List.length_reverse, List.length_cons]
    refine ⟨_, rfl, J, _, rfl, .inl (SqL.of hJ4), _, _, rfl, rfl, _, rfl, ?_⟩
    rw [List.length_map, hlen4]
    cases st with
    | nil =>
      refine iteF (iteF ?_)
      refine ⟨_, rfl, k H4 J s4 hJH ⟨as, hJ4, ?_⟩⟩
      rw [push_one] at hpush
      rw [← hpush]
      exact hP4
    | cons y st =>
      have hgt : decide ((1 : Int) < (((y :: st).length + 1 : Nat) : Int)) = true := by
        rw [List.length_cons]
        exact decide_eq_true (by omega)
      rw [hgt]
      refine iteT ?_
      rw [List.reverse_cons] at hP4
      obtain ⟨bs1, q1', e1, hP5, hx⟩ := hP4.snoc_inv
      rw [List.reverse_cons] at hP5
      obtain ⟨bs, q2', e2, hP6, hy⟩ := hP5.snoc_inv
      subst e2
      have eas : as.map V.ref = bs.map V.ref ++ [V.ref q2', V.ref q1'] := by
        rw [e1, List.map_append, List.map_append, List.append_assoc]
        rfl
      have easA : as.map V.ref = (bs.map V.ref ++ [V.ref q2']) ++ [V.ref q1'] := by rw [eas, List.append_assoc]; rfl
      have fx := hf4 x List.mem_cons_self
      have fy := hf4 y (List.mem_cons_of_mem _ List.mem_cons_self)
      have hjx : x.jobs.length ≤ 1000 := Nat.le_trans (Lk.jobs_mem_le (l := x :: y :: st) List.mem_cons_self) (by omega)
      have hjy : y.jobs.length ≤ 1000 := Nat.le_trans (Lk.jobs_mem_le (l := x :: y :: st) (List.mem_cons_of_mem _ List.mem_cons_self)) (by omega)
      have at1 : atI (as.map V.ref) (-1) = some (V.ref q1') := by rw [easA]; exact atI_last _ _
      have at2 : atI (as.map V.ref) (-2) = some (V.ref q2') := by rw [eas]; exact at_last _ _ _
      refine ⟨_, rfl, _, rfl, _, rfl, J, _, _, _, rfl, rfl, SqL.of hJ4, at1, c, q1', a, x.jobs, rfl, ⟨s4.seq hc, SqL.of hx, fx.2.1, fun j hj => (fx.2.2 j hj).2, hjx⟩, fun H5 t1 s5 ht1 hv1 => ?_⟩
      refine ⟨_, rfl, _, rfl, _, rfl, J, _, _, _, rfl, rfl, SqL.of (s5 _ _ hJ4), at2, c, q2', a, y.jobs, rfl, ⟨(s4.trans s5).seq hc, SqL.of (s5 _ _ hy), fy.2.1, fun j hj => (fy.2.2 j hj).2, hjy⟩, fun H6 t2 s6 ht2 hv2 => ?_⟩
      refine ⟨t1, t2, _, _, rfl, rfl, SqT.of (s6 _ _ hv1), SqT.of hv2, _, rfl, ?_⟩
      have s56 := s5.trans s6
      rw [lex_klt, ← fx.1, ← fy.1]
      have hJ6 := s56 _ _ hJ4
      have eb : Kv374.before y x = !Lk.klt (Lk.key x) (Lk.key y) := Lk.before_key y x
      cases hk : Lk.klt (Lk.key x) (Lk.key y) with
      | true =>
        rw [hk] at eb
        refine iteT ⟨fun σ' H' => ∃ m', m' < (y :: st).length ∧ ∃ (v4 : Option V) (as : List Addr) (x : KRow) (st : List KRow), m' = st.length ∧ σ' = [some (.ref c), some (.ref p), some (.int (i : Int)), some (.ref J), v4] ∧ Same H H' ∧ H' J = some (.lst (as.map V.ref)) ∧ RowsP H' as (x :: st).reverse ∧
          Kv374.push st x = Kv374.push rs.reverse (Lk.rowOf a [i]) ∧ (∀ r ∈ x :: st, Lk.Fine a r) ∧ (Lk.jobsOf (x :: st)).length ≤ 257, fun σ' H' z => z, ?_⟩
        have hlast : (as.map V.ref)[(as.map V.ref).length - 1]? = some (V.ref q1') := by
          rw [easA]
          simp
        have hdrop : (as.map V.ref).dropLast = (bs ++ [q2']).map V.ref := by
          rw [easA, List.dropLast_concat, List.map_append]
          rfl
        refine ⟨_, rfl, .inl ⟨rfl, _, SqL.of hJ6⟩, J, _, _, rfl, rfl, hJ6, hlast, ?_⟩
        rw [hdrop]
        have keepr : ∀ {H' : Hp} {zs : List V} {q : Addr} {js : List Nat}, H6 q = some (.lst (natV js)) → js ≠ [] → (upd H6 J (.lst zs)) q = some (.lst (natV js)) := fun {H' zs q js} e hne => by
          rw [upd_ne (fun z => by
            rw [z, hJ6] at e
            have e1 := Option.some.inj e
            injection e1 with e1
            exact refs_ne hne e1)]
          exact e
        have hx7 : (upd H6 J (.lst ((bs ++ [q2']).map V.ref))) q1' = some (.lst (natV x.jobs)) := keepr (H' := H6) (s56 _ _ hx) fx.2.1
        have hy7 : (upd H6 J (.lst ((bs ++ [q2']).map V.ref))) q2' = some (.lst (natV y.jobs)) := keepr (H' := H6) (s56 _ _ hy) fy.2.1
        have hP7 : RowsP (upd H6 J (.lst ((bs ++ [q2']).map V.ref))) bs st.reverse := by
          have h6 := hP6.imp (same_l s56)
          have hfs : ∀ r ∈ st.reverse, Lk.Fine a r := fun r hr' => hf4 r (List.mem_cons_of_mem _ (List.mem_cons_of_mem _ (List.mem_reverse.mp hr')))
          exact h6.fine (fun q js e hne => keepr (H' := H6) e hne) hfs
        have hJ7 : (upd H6 J (.lst ((bs ++ [q2']).map V.ref))) J = some (.lst ((bs ++ [q2']).map V.ref)) := upd_same
        have s7 : Same H (upd H6 J (.lst ((bs ++ [q2']).map V.ref))) := fun b o e => by
          rw [upd_ne (ne_of_none e hJH)]
          exact s56 _ _ (s4 _ _ e)
        generalize (upd H6 J (.lst ((bs ++ [q2']).map V.ref))) = H7 at hx7 hy7 hP7 hJ7 s7
        have at3 : atI ((bs ++ [q2']).map V.ref) (-1) = some (V.ref q2') := by rw [List.map_append]; exact atI_last _ _
        refine ⟨_, rfl, _, rfl, J, _, _, _, rfl, rfl, SqL.of hJ7, at3, _, rfl, q2', q1', _, _, rfl, rfl, hy7, hx7, ?_, fun N hN => ?_⟩
        · rw [len_natV, len_natV]
          exact Nat.le_trans (show y.jobs.length + x.jobs.length ≤ 2000 by omega) (by decide)
        have nJN : J ≠ N := fun z => by
          rw [← z, hJ7] at hN
          cases hN
        have hJ8 : (upd H7 N (.lst (natV y.jobs ++ natV x.jobs))) J = some (.lst ((bs ++ [q2']).map V.ref)) := by
          rw [upd_ne nJN]
          exact hJ7
        refine ⟨_, rfl, _, rfl, J, _, _, bs.length, rfl, rfl, hJ8, ?_, ?_⟩
        · rw [List.length_map, List.length_append, List.length_singleton]
          exact ix_last
        have eset : ((bs ++ [q2']).map V.ref).set bs.length (V.ref N) = (bs ++ [N]).map V.ref := by
          rw [List.map_append, List.map_append, List.set_append_right _ _ (by simp)]
          simp
        rw [eset]
        have sN : Same H7 (upd H7 N (.lst (natV y.jobs ++ natV x.jobs))) := same_upd hN
        have hNr : (upd H7 N (.lst (natV y.jobs ++ natV x.jobs))) N = some (.lst (natV (Kv374.join y x).jobs)) := by
          rw [upd_same]
          show _ = some (HO.lst (natV (y.jobs ++ x.jobs)))
          unfold natV
          rw [List.map_append]
        refine ⟨st.length, by rw [List.length_cons]; omega, _, bs ++ [N], Kv374.join y x, st, rfl, rfl, fun b o e => ?_, upd_same, ?_, ?_, fun r hr' => ?_, ?_⟩
        · rw [upd_ne (ne_of_none e hJH)]
          exact sN _ _ (s7 _ _ e)
        · rw [List.reverse_cons]
          have kk : ∀ {q : Addr} {js : List Nat}, (upd H7 N (.lst (natV y.jobs ++ natV x.jobs))) q = some (.lst (natV js)) → js ≠ [] → (upd (upd H7 N (.lst (natV y.jobs ++ natV x.jobs))) J (.lst ((bs ++ [N]).map V.ref))) q = some (.lst (natV js)) := fun {q js} e hne => by
            rw [upd_ne (fun z => by
              rw [z, hJ8] at e
              have e1 := Option.some.inj e
              injection e1 with e1
              exact refs_ne hne e1)]
            exact e
          refine RowsP.append ?_ (.cons (kk hNr ((fy.join fx).2.1)) .nil)
          have h7 := hP7.imp (same_l sN)
          have hfs : ∀ r ∈ st.reverse, Lk.Fine a r := fun r hr' => hf4 r (List.mem_cons_of_mem _ (List.mem_cons_of_mem _ (List.mem_reverse.mp hr')))
          exact h7.fine (fun q js e hne => kk e hne) hfs
        · rw [← hpush, push_cons, if_neg (by rw [eb]; decide)]
        · rcases List.mem_cons.mp hr' with z | z
          · rw [z]; exact fy.join fx
          · exact hf4 r (List.mem_cons_of_mem _ (List.mem_cons_of_mem _ z))
        · rw [Lk.jobsOf_cons, List.length_append] at hj4 ⊢
          rw [Lk.jobsOf_cons, List.length_append] at hj4
          show (y.jobs ++ x.jobs).length + _ ≤ _
          rw [List.length_append]
          omega
      | false =>
        rw [hk] at eb
        refine iteF ?_
        refine ⟨_, rfl, k H6 J (s4.trans s56) hJH ⟨as, hJ6, ?_⟩⟩
        rw [← hpush, push_cons, if_pos (by rw [eb]; rfl)]
        have h4 : RowsP H4 as (x :: y :: st).reverse := by
          rw [e1, List.reverse_cons, List.reverse_cons]
          exact (hP6.append (.cons hy .nil)).append (.cons hx .nil)
        exact h4.imp (same_l s56)
end
end Le

end
section
set_option Elab.async false
set_option linter.all false
set_option maxRecDepth 100000
set_option maxHeartbeats 4000000
namespace Le
open PySem PySem.Spec PyProof.Rows L2
open Kv374 (Abs Part has add far)
section
variable {P : Program} {w : World} {K : PySem.W.Frag} {mg : Str → Option Value} {base : Heap} {C : Addr}
noncomputable def spRows (C Pt : Addr) : Sp := fun vs H Q _ => ∃ (t : Addr) (a : Abs), vs = [.ref t] ∧ Tr C H t a ∧ Lam rfbPos rfbQual Pt H ∧ ∀ (H' : Hp) (q : Addr), SameP Pt H H' → Lam rfbPos rfbQual Pt H' → H q = none → RowsAt H' q a.told → Q (.ref q) H'
theorem scRows : FnScope ["tree", "rows_for", "part"] ["tree"] (defScope sRows) := ⟨rfl, rfl, rfl, by decide +kernel, rfl, by decide +kernel, by decide +kernel⟩
theorem all_get {a : Abs} {k : Nat} (h : k < a.n - 1) : a.all_[k]? = some (k + 1) := by
  rw [Lk.all_eq, List.getElem?_range' h, Nat.one_mul, Nat.add_comm]
theorem SameP.freeP {Pt : Addr} {H H' : Hp} {l : Addr} {ps : Array Value} (s : SameP Pt H H') (hP' : H' Pt = some (.tbl ps)) (h : H' l = Option.none) : H l = Option.none := by
  cases e : H l with
  | none => rfl
  | some o =>
    by_cases z : l = Pt
    · rw [z, hP'] at h
      cases h
    · rw [s l o e z] at h
      cases h
theorem same_lp {Pt : Addr} {H H' : Hp} {ps : Array Value} (s : SameP Pt H H') (hP : H Pt = some (.tbl ps)) : ∀ q xs, H q = some (.lst xs) → H' q = some (.lst xs) := fun q xs h => lst_p h s hP
theorem DictAt.sameP {Pt : Addr} {H H' : Hp} {ps : Array Value} {d : Addr} {a : Abs} {lo : Nat} (h : DictAt H d a lo) (s : SameP Pt H H') (hP : H Pt = some (.tbl ps)) : DictAt H' d a lo := by
  obtain ⟨kvs, h1, h2, h3⟩ := h
  refine ⟨kvs, s _ _ h1 (ne_of h1 hP (fun z => by cases z)), h2, fun j q1 q2 q3 => ?_⟩
  obtain ⟨p, e, r⟩ := h3 j q1 q2 q3
  exact ⟨p, e, r.imp (same_lp s hP)⟩
theorem ok_rows {f Pt : Addr} {fd : FuncData} (F : Fun K "rows_of_tree" "rows_of_tree" sRows f fd) (T : Txt K mg C) (GL : MCallee P w K mg base C 1 "loose_parts" ["self"] (spLoose C)) (GW : Callee P w K mg base 3 "with_part" ["changes", "rows", "part"] (spWith K))
    (GB : Callee P w K mg base 6 "rows_for_boughs" ["tree", "part", "rows_for"] (spRfb C Pt)) : FnOk P w K mg base CX0 7 f fd ["tree"] (spRows C Pt) := by
  refine F.ok scRows (fun vs H Q E h => ?_) (fun cdv A outer s H vs Q E hr h => ?_)
  · obtain ⟨t, a, rfl, _⟩ := h
    rfl
  · obtain ⟨t, a, rfl, tr0, lam0, k⟩ := h
    have nd := scRows.nd
    have hu := hu_of hr
    refine ⟨_, pss_cons (ps_set (i := 1) nd rfl (Or.inl rfl) pe_dnewK)
      (pss_cons (ps_for PassesOwn.never rfl (pi_reversed rfl T.reversed (pa_cons (pe_methC0 GL T.cl (hr.mono (by decide)) (pv 0)) pa_nil)) (pg_name (i := 2) nd rfl (Or.inl rfl))
        (pss_one (ps_dput hu (pv 1) (pv 2) (pe_callC GW (hr.mono (by decide)) rfl (pa_cons (pe_fld (pv 0) rfl) (pa_cons (pe_callC GB hr rfl (pa_cons (pv 0) (pa_cons (pv 2) (pa_cons (pv 1) pa_nil)))) (pa_cons (pv 2) pa_nil)))) rfl)))
      (pss_one (ps_ret (pe_callC GB hr rfl (pa_cons (pv 0) (pa_cons pe_int (pa_cons (pv 1) pa_nil))))))), ?_⟩
    intro d hd
    obtain ⟨dx0, h0, c0, tr⟩ := id tr0
    have W := tr.wf
    have hpos := W.pos
    have hle := W.le
    have s1 : Same H (upd H d (.dK [])) := same_upd hd
    refine ⟨_, rfl, t, dx0, _, rfl, s1 _ _ tr.ins, rfl, t, a, rfl, tr0.same s1, fun H2 l s2 hl hl2 => ⟨l, natV a.all_, rfl, SqL.of hl2, ?_⟩⟩
    have s12 := s1.trans s2
    have nld : l ≠ d := fun z => by
      rw [z, upd_same] at hl
      cases hl
    refine for_rev (K := K) (a := l) (xs := natV a.all_) (fun i σ H' => i ≤ a.n - 1 ∧ ∃ v2 : Option V, σ = [some (.ref t), some (.ref d), v2] ∧ SameP Pt H H' ∧ Lam rfbPos rfbQual Pt H' ∧ H' l = some (.lst (natV a.all_)) ∧ DictAt H' d a (a.n - i))
      ⟨Nat.zero_le _, none, rfl, s12.p, lam0.same s12, hl2, [], s2 _ _ upd_same, (by show 0 + (a.n - 0) ≤ a.n; omega), fun j q1 q2 q3 => by omega⟩ (fun i σ H' _ ⟨_, _, _, _, _, z, _⟩ => SqL.of z) ?_ ?_
    · rintro i x σ H3 hi hx ⟨_, v2, rfl, s3, la3, hl3, dict⟩
      rw [len_natV, all_len] at hi hx
      obtain ⟨m, hm, rfl⟩ := natV_at hx
      have hm' : m = a.n - 1 - i := by
        have := all_get (a := a) (k := a.n - 1 - 1 - i) (by omega)
        rw [hm] at this
        have := Option.some.inj this
        omega
      have m0 : 0 < m := by omega
      have m1 : m < a.n := by omega
      obtain ⟨ps0, hP0⟩ := lam_tbl lam0
      obtain ⟨ps3, hP3⟩ := lam_tbl la3
      have tr3 := tr_p tr0 s3 hP0
      obtain ⟨dx, hh, c, y⟩ := id tr3
      have dict' : DictAt H3 d a (m + 1) := by
        rw [show m + 1 = a.n - i by omega]
        exact dict
      refine ⟨_, rfl, t, C, dx, _, _, rfl, y.ins, T.cl, T.nC, tf_chg, _, rfl, _, rfl, _, rfl, t, d, a, m, rfl, tr3, m1, dict', la3, fun H4 q s4 la4 hq hr4 => ⟨_, rfl, c, q, a, m, Lk.B a m, rfl, ?_, hr4, ⟨m0, m1⟩, Lk.B_fine W m1, Lk.B_jobs W m1, fun H5 q5 s5 hq5 hr5 => ?_⟩⟩
      · exact SqL.of (lst_p y.ch s4 hP3)
      rw [← Lk.R_eq W m0 m1] at hr5
      have dict5 := (dict'.sameP s4 hP3).same s5
      obtain ⟨kvs, d1, d2, d3⟩ := dict5
      refine ⟨_, rfl, _, rfl, d, _, rfl, DPut.k (k := Sum.inl (m : Int)) d1 (Nat.lt_of_le_of_lt (show kvs.length ≤ 9 by omega) (by decide)), ?_⟩
      have hd3 : H3 d ≠ none := fun z => by
        obtain ⟨kv, e, _⟩ := dict'
        rw [e] at z
        cases z
      have s45 : SameP Pt H3 H5 := s4.trans s5.p
      have la5 := la4.same s5
      obtain ⟨ps5, hP5⟩ := lam_tbl la5
      have ndP : d ≠ Pt := fun z => by
        rw [z, hP5] at d1
        cases d1
      have keep : ∀ (q : Addr) (xs : List V), H5 q = some (.lst xs) → (upd H5 d (.dK (putK kvs (Sum.inl (m : Int)) (.ref q5)))) q = some (.lst xs) := fun q xs e => by
        rw [upd_ne (ne_of e d1 (fun z => by cases z))]
        exact e
      have la6 : Lam rfbPos rfbQual Pt (upd H5 d (.dK (putK kvs (Sum.inl (m : Int)) (.ref q5)))) := by
        rcases la5 with z | ⟨c', z1, z2⟩
        · exact .inl (by rw [upd_ne ndP.symm]; exact z)
        · refine .inr ⟨c', by rw [upd_ne ndP.symm]; exact z1, ?_⟩
          rw [upd_ne (ne_of z2 d1 (fun z => by cases z))]
          exact z2
      refine ⟨by omega, _, rfl, fun b o e hb => ?_, la6, keep _ _ (s45 _ _ hl3 (ne_of hl3 hP3 (fun z => by cases z))), _, upd_same, ?_, fun j q1 q2 q3 => ?_⟩
      · rw [upd_ne (ne_of_none e hd)]
        exact s45 _ _ (s3 _ _ e hb) hb
      · have := len_putK (kvs := kvs) (k := Sum.inl (m : Int)) (v := V.ref q5)
        omega
      · by_cases ej : j = m
        · subst ej
          exact ⟨q5, by rw [valV_put, if_pos rfl], hr5.imp keep⟩
        · obtain ⟨p, e, r⟩ := d3 j (by omega) q2 q3
          exact ⟨p, by rw [valV_put, if_neg (fun z => ej (by injection z with z; omega))]; exact e, r.imp keep⟩
    · rintro σ H3 ⟨_, v2, rfl, s3, la3, hl3, dict⟩
      rw [len_natV, all_len] at dict
      obtain ⟨ps0, hP0⟩ := lam_tbl lam0
      have tr3 := tr_p tr0 s3 hP0
      have dict' : DictAt H3 d a (0 + 1) := by
        rw [show a.n - (a.n - 1) = 0 + 1 by omega] at dict
        exact dict
      refine ⟨_, rfl, _, rfl, t, d, a, 0, rfl, tr3, by omega, dict', la3, fun H4 q s4 la4 hq hr4 => ?_⟩
      rw [← Lk.told_eq W] at hr4
      obtain ⟨ps3, hP3⟩ := lam_tbl la3
      exact k H4 q (s3.trans s4) la4 (SameP.freeP s3 hP3 hq) hr4
end
end Le

end
section
set_option Elab.async false
set_option linter.all false
set_option maxRecDepth 100000
set_option maxHeartbeats 4000000
namespace Le
open PySem PySem.Spec PyProof.Rows L2
open Kv374 (Abs Part has add far)
noncomputable def Keep (t : Addr) (H H' : Hp) : Prop := ∀ b o, H b = some o → b ≠ t → (∀ a, Lk.WF a → o ≠ .lst (hungV a) ∧ o ≠ .lst (chV a)) → H' b = some o
theorem Same.keep {t : Addr} {H H' : Hp} (s : Same H H') : Keep t H H' := fun b o e _ _ => s b o e
theorem Keep.trans {t : Addr} {H H1 H2 : Hp} (x : Keep t H H1) (y : Keep t H1 H2) : Keep t H H2 := fun b o e n q => y b o (x b o e n q) n q
section
variable {P : Program} {w : World} {K : PySem.W.Frag} {mg : Str → Option Value} {base : Heap} {C : Addr}
noncomputable def spInit (C : Addr) : Sp := fun vs H Q _ => ∃ (p dx : Addr), vs = [.ref p] ∧ H p = some (.ins C dx []) ∧ ∀ (H' : Hp) (h c : Addr), H' p = some (.ins C dx (tf false 0 h c)) → (∀ b o, H b = some o → b ≠ p → H' b = some o) → Q .non H'
theorem scInit : FnScope ["self"] ["self"] (defScope sInit) := ⟨rfl, rfl, rfl, by decide +kernel, rfl, by decide +kernel, by decide +kernel⟩
theorem ok_init {f : Addr} {fd : FuncData} (F : Fun K "__init__" "Tree.__init__" sInit f fd) (T : Txt K mg C) : FnOk P w K mg base CX0 1 f fd ["self"] (spInit C) := by
  refine F.ok scInit (fun vs H Q E h => ?_) (fun cdv A outer s H vs Q E hr h => ?_)
  · obtain ⟨p, dx, rfl, _⟩ := h
    rfl
  · obtain ⟨p, dx, rfl, hp, k⟩ := h
    refine ⟨_, pss_cons (ps_fld (pv 0) pe_bl rfl) (pss_cons (ps_fld (pv 0) pe_int rfl) (pss_cons (ps_fld (pv 0) (pe_lst pa_nil) rfl) (pss_one (ps_fld (pv 0) (pe_lst pa_nil) rfl)))), ?_⟩
    refine ⟨_, rfl, p, C, dx, [], rfl, hp, T.cl, T.nB, by show 0 < 1000; decide, _, rfl, p, C, dx, _, rfl, upd_same, T.cl, T.nL, by show 1 < 1000; decide, Nat.zero_le _, fun h hh => ?_⟩
    have hp2 : ∀ {o : HO} {o' : HO}, (upd (upd H p o) p o') p ≠ none := fun {o o'} z => by
      rw [upd_same] at z
      cases z
    have nph : p ≠ h := fun z => by
      rw [← z] at hh
      exact hp2 hh
    refine ⟨_, rfl, p, C, dx, _, rfl, by rw [upd_ne nph, upd_same], T.cl, T.nH, by show 2 < 1000; decide, Nat.zero_le _, fun c hc => ?_⟩
    have npc : p ≠ c := fun z => by
      rw [← z, upd_same] at hc
      cases hc
    refine ⟨_, rfl, p, C, dx, _, rfl, by rw [upd_ne npc, upd_same], T.cl, T.nC, by show 3 < 1000; decide, ?_⟩
    refine k _ h c upd_same fun b o e hb => ?_
    have nbh : b ≠ h := fun z => by
      rw [← z, upd_ne hb, upd_ne hb, e] at hh
      cases hh
    have nbc : b ≠ c := fun z => by
      rw [← z, upd_ne hb, upd_ne nbh, upd_ne hb, upd_ne hb, e] at hc
      cases hc
    rw [upd_ne hb, upd_ne nbc, upd_ne hb, upd_ne nbh, upd_ne hb, upd_ne hb]
    exact e

theorem wf_begun {l : Int} (h : -200 ≤ l ∧ l ≤ 200) : Lk.WF (Kv374.begun l) := by
  refine ⟨Nat.le_refl _, (by show 1 ≤ 9; decide), rfl, fun j h0 h1 => ?_, fun j => ?_, h⟩
  · have : j < 1 := h1
    omega
  · have e : ((Kv374.begun l).part j).change = 0 := by
      match j with
      | 0 => rfl
      | j + 1 => rfl
    rw [e]
    exact ⟨by decide, by decide⟩
noncomputable def spAnew (C : Addr) : Sp := fun vs H Q _ => ∃ (t dx h c : Addr) (b : Bool) (l0 l : Int), vs = [.ref t, .int l] ∧ H t = some (.ins C dx (tf b l0 h c)) ∧ (-200 ≤ l ∧ l ≤ 200) ∧ ∀ H' : Hp, Tr C H' t (Kv374.begun l) → (∀ b o, H b = some o → b ≠ t → H' b = some o) → Q .non H'
theorem scAnew : FnScope ["self", "first_lean"] ["self", "first_lean"] (defScope sAnew) := ⟨rfl, rfl, rfl, by decide +kernel, rfl, by decide +kernel, by decide +kernel⟩
theorem ok_anew {f : Addr} {fd : FuncData} (F : Fun K "begin_anew" "Tree.begin_anew" sAnew f fd) (T : Txt K mg C) : FnOk P w K mg base CX0 1 f fd ["self", "first_lean"] (spAnew C) := by
  refine F.ok scAnew (fun vs H Q E h => ?_) (fun cdv A outer s H vs Q E hr h => ?_)
  · obtain ⟨t, dx, h, c, b, l0, l, rfl, _⟩ := h
    rfl
  · obtain ⟨p, dx, h0, c0, b0, l0, l, rfl, hp, hl, k⟩ := h
    refine ⟨_, pss_cons (ps_fld (pv 0) pe_bl rfl) (pss_cons (ps_fld (pv 0) (pv 1) rfl) (pss_cons (ps_fld (pv 0) (pe_lst (pa_cons (pe_un un_neg pe_int) pa_nil)) rfl) (pss_one (ps_fld (pv 0) (pe_lst (pa_cons pe_int pa_nil)) rfl)))), ?_⟩
    refine ⟨_, rfl, p, C, dx, _, rfl, hp, T.cl, T.nB, tf_len, ?_⟩
    rw [put_begun]
    refine ⟨_, rfl, _, rfl, p, C, dx, _, rfl, upd_same, T.cl, T.nL, tf_len, ?_⟩
    rw [put_lean]
    refine ⟨_, rfl, by show 1 ≤ sizeLine; decide, fun h hh => ?_⟩
    have nph : p ≠ h := fun z => by
      rw [← z, upd_same] at hh
      cases hh
    refine ⟨_, rfl, p, C, dx, _, rfl, by rw [upd_ne nph, upd_same], T.cl, T.nH, tf_len, ?_⟩
    rw [put_hung]
    refine ⟨by show 1 ≤ sizeLine; decide, fun c hc => ?_⟩
    have npc : p ≠ c := fun z => by
      rw [← z, upd_same] at hc
      cases hc
    refine ⟨_, rfl, p, C, dx, _, rfl, by rw [upd_ne npc, upd_same], T.cl, T.nC, tf_len, ?_⟩
    rw [put_chg]
    have nhc : h ≠ c := fun z => by
      rw [← z, upd_ne nph.symm, upd_same] at hc
      cases hc
    refine k _ ⟨dx, h, c, upd_same, ?_, ?_, wf_begun hl⟩ fun b o e hb => ?_
    · rw [upd_ne nph.symm, upd_ne nhc, upd_ne nph.symm, upd_same]
      rfl
    · rw [upd_ne npc.symm, upd_same]
      rfl
    · have nbh : b ≠ h := fun z => by
        rw [← z, upd_ne hb, upd_ne hb, e] at hh
        cases hh
      have nbc : b ≠ c := fun z => by
        rw [← z, upd_ne hb, upd_ne nbh, upd_ne hb, upd_ne hb, e] at hc
        cases hc
      rw [upd_ne hb, upd_ne nbc, upd_ne hb, upd_ne nbh, upd_ne hb, upd_ne hb]
      exact e

noncomputable def grown (a : Abs) (p : Nat) (z : Int) : Abs := { a with parts := a.parts ++ [⟨p, z⟩] }
theorem grown_n (a : Abs) (p : Nat) (z : Int) : (grown a p z).n = a.n + 1 := by
  unfold grown Abs.n
  rw [List.length_append, List.length_singleton]
theorem grown_old {a : Abs} {p : Nat} {z : Int} {j : Nat} (h : j < a.n) : (grown a p z).part j = a.part j := by
  unfold grown Abs.part
  rw [List.getD_eq_getElem?_getD, List.getElem?_append_left h, List.getD_eq_getElem?_getD]
theorem grown_new {a : Abs} {p : Nat} {z : Int} : (grown a p z).part a.n = ⟨p, z⟩ := by
  unfold grown Abs.part Abs.n
  rw [List.getD_eq_getElem?_getD, List.getElem?_append_right (Nat.le_refl _)]
  simp
theorem grown_out {a : Abs} {p : Nat} {z : Int} {j : Nat} (h : a.n < j) : (grown a p z).part j = ⟨0, 0⟩ := by
  unfold grown Abs.part
  rw [List.getD_eq_getElem?_getD, List.getElem?_eq_none (by rw [List.length_append, List.length_singleton]; exact h)]
  rfl
theorem wf_grown {a : Abs} (W : Lk.WF a) {p : Nat} {z : Int} (hp : p < a.n) (hn : a.n ≤ 8) (hz : -50 ≤ z ∧ z ≤ 50) : Lk.WF (grown a p z) := by
  have hpos := W.pos
  refine ⟨by rw [grown_n]; omega, by rw [grown_n]; omega, by rw [grown_old (by omega)]; exact W.zero, fun j h0 h1 => ?_, fun j => ?_, W.ln⟩
  · rw [grown_n] at h1
    by_cases e : j = a.n
    · rw [e, grown_new]
      exact hp
    · rw [grown_old (by omega)]
      exact W.on j h0 (by omega)
  · by_cases e : j = a.n
    · rw [e, grown_new]
      exact hz
    · by_cases e2 : j < a.n
      · rw [grown_old e2]
        exact W.ch j
      · rw [grown_out (by omega)]
        exact ⟨by decide, by decide⟩
theorem hung_grown {a : Abs} (W : Lk.WF a) (p : Nat) (z : Int) : hungV (grown a p z) = hungV a ++ [.int (p : Int)] := by
  have := W.pos
  unfold hungV grown
  rw [List.drop_append_of_le_length (show 1 ≤ a.parts.length from this), List.map_append, List.cons_append]
  rfl
theorem ch_grown (a : Abs) (p : Nat) (z : Int) : chV (grown a p z) = chV a ++ [.int z] := by
  unfold chV grown
  rw [List.map_append]
  rfl
noncomputable def spHang (C : Addr) : Sp := fun vs H Q _ => ∃ (t : Addr) (a : Abs) (p : Nat) (z : Int), vs = [.ref t, .int (p : Int), .int z] ∧ Tr C H t a ∧ p < a.n ∧ a.n ≤ 8 ∧ (-50 ≤ z ∧ z ≤ 50) ∧ ∀ H' : Hp, Tr C H' t (grown a p z) → Keep t H H' → Q .non H'
theorem scHang : FnScope ["self", "part", "change"] ["self", "part", "change"] (defScope sHang) := ⟨rfl, rfl, rfl, by decide +kernel, rfl, by decide +kernel, by decide +kernel⟩
theorem hc_ne {H : Hp} {t : Addr} {a : Abs} {dx h c : Addr} (y : TrAt C H t a dx h c) : h ≠ c ∧ t ≠ h ∧ t ≠ c := by
  refine ⟨fun z => ?_, ne_of y.ins y.hu (fun z => by cases z), ne_of y.ins y.ch (fun z => by cases z)⟩
  have e := y.hu
  rw [z, y.ch] at e
  have e1 := Option.some.inj e
  injection e1 with e1
  have e2 := congrArg (·[0]?) e1
  have e3 : (chV a)[0]? = some (.int 0) := by
    rw [ch_at (show 0 < a.n from y.wf.pos), y.wf.zero]
  simp only [e3] at e2
  unfold hungV at e2
  cases e2
theorem ok_hang {f : Addr} {fd : FuncData} (F : Fun K "hang" "Tree.hang" sHang f fd) (T : Txt K mg C) : FnOk P w K mg base CX0 1 f fd ["self", "part", "change"] (spHang C) := by
  refine F.ok scHang (fun vs H Q E h => ?_) (fun cdv A outer s H vs Q E hr h => ?_)
  · obtain ⟨t, a, p, z, rfl, _⟩ := h
    rfl
  · obtain ⟨t, a, p, z, rfl, ⟨dx, h, c, y⟩, hp, hn, hz, k⟩ := h
    refine ⟨_, pss_cons (ps_expr (pe_bm PySem.F.plainAttrs_list PySem.F.slot_list_append PySem.F.type_list_append mt_append (pe_fld (pv 0) rfl) (pa_cons (pv 1) pa_nil)))
      (pss_one (ps_expr (pe_bm PySem.F.plainAttrs_list PySem.F.slot_list_append PySem.F.type_list_append mt_append (pe_fld (pv 0) rfl) (pa_cons (pv 2) pa_nil)))), ?_⟩
    obtain ⟨n1, n2, n3⟩ := hc_ne y
    refine ⟨_, rfl, t, C, dx, _, _, rfl, y.ins, T.cl, T.nH, tf_hung, .inl ⟨rfl, _, SqL.of y.hu⟩, _, rfl, h, _, _, rfl, rfl, y.hu, by rw [hung_len y.wf]; exact Nat.lt_of_le_of_lt hn (by decide), ?_⟩
    have hc1 : (upd H h (.lst (hungV a ++ [V.int (p : Int)]))) c = some (.lst (chV a)) := by
      rw [upd_ne n1.symm]
      exact y.ch
    refine ⟨_, rfl, t, C, dx, _, _, rfl, by rw [upd_ne n2]; exact y.ins, T.cl, T.nC, tf_chg, .inl ⟨rfl, _, SqL.of hc1⟩, _, rfl, c, _, _, rfl, rfl, hc1, by rw [ch_len]; exact Nat.lt_of_le_of_lt hn (by decide), ?_⟩
    refine k _ ⟨dx, h, c, by rw [upd_ne n3, upd_ne n2]; exact y.ins, ?_, ?_, wf_grown y.wf hp hn hz⟩ fun b o e hb q => ?_
    · rw [upd_ne n1, upd_same, hung_grown y.wf]
    · rw [upd_same, ch_grown]
    · obtain ⟨q1, q2⟩ := q a y.wf
      rw [upd_ne (fun z => by rw [z, y.ch] at e; exact q2 (Option.some.inj e).symm), upd_ne (fun z => by rw [z, y.hu] at e; exact q1 (Option.some.inj e).symm)]
      exact e

noncomputable def cut (a : Abs) : Abs := { a with parts := a.parts.take (a.n - 1) }
theorem cut_n (a : Abs) : (cut a).n = a.n - 1 := by
  unfold cut Abs.n
  rw [List.length_take]
  show min (a.parts.length - 1) a.parts.length = a.parts.length - 1
  omega
theorem cut_old {a : Abs} {j : Nat} (h : j < a.n - 1) : (cut a).part j = a.part j := by
  unfold cut Abs.part
  rw [List.getD_eq_getElem?_getD, List.getElem?_take_of_lt h, List.getD_eq_getElem?_getD]
theorem cut_out {a : Abs} {j : Nat} (h : a.n - 1 ≤ j) : (cut a).part j = ⟨0, 0⟩ := by
  unfold cut Abs.part
  rw [List.getD_eq_getElem?_getD, List.getElem?_eq_none (by rw [List.length_take]; exact Nat.le_trans (Nat.min_le_left _ _) h)]
  rfl
theorem wf_cut {a : Abs} (W : Lk.WF a) (hn : 2 ≤ a.n) : Lk.WF (cut a) := by
  have := W.le
  refine ⟨by rw [cut_n]; omega, by rw [cut_n]; omega, by rw [cut_old (by omega)]; exact W.zero, fun j h0 h1 => ?_, fun j => ?_, W.ln⟩
  · rw [cut_n] at h1
    rw [cut_old h1]
    exact W.on j h0 (by omega)
  · by_cases e : j < a.n - 1
    · rw [cut_old e]
      exact W.ch j
    · rw [cut_out (by omega)]
      exact ⟨by decide, by decide⟩
theorem ch_cut (a : Abs) : chV (cut a) = (chV a).dropLast := by
  unfold chV cut
  rw [List.dropLast_eq_take, List.length_map, List.map_take]
  rfl
theorem hung_cut {a : Abs} (hn : 2 ≤ a.n) : hungV (cut a) = (hungV a).dropLast := by
  have e : ((a.parts.drop 1).map fun (p : Part) => V.int (p.on : Int)).length = a.n - 1 := by
    rw [List.length_map, List.length_drop]
    rfl
  unfold hungV cut
  rw [List.dropLast_cons_of_ne_nil (by intro z; rw [z] at e; simp at e; omega), List.dropLast_eq_take, e, List.drop_take, List.map_take]
noncomputable def spDrop (C : Addr) : Sp := fun vs H Q _ => ∃ (t : Addr) (a : Abs), vs = [.ref t] ∧ Tr C H t a ∧ 2 ≤ a.n ∧ ∀ H' : Hp, Tr C H' t (cut a) → Keep t H H' → Q .non H'
theorem scDrop : FnScope ["self"] ["self"] (defScope sDrop) := ⟨rfl, rfl, rfl, by decide +kernel, rfl, by decide +kernel, by decide +kernel⟩
theorem last_some {α : Type} {l : List α} (h : 0 < l.length) : ∃ y, l[l.length - 1]? = some y := ⟨_, List.getElem?_eq_getElem (by omega)⟩
theorem ok_drop {f : Addr} {fd : FuncData} (F : Fun K "drop_last" "Tree.drop_last" sDrop f fd) (T : Txt K mg C) : FnOk P w K mg base CX0 1 f fd ["self"] (spDrop C) := by
  refine F.ok scDrop (fun vs H Q E h => ?_) (fun cdv A outer s H vs Q E hr h => ?_)
  · obtain ⟨t, a, rfl, _⟩ := h
    rfl
  · obtain ⟨t, a, rfl, ⟨dx, h, c, y⟩, hn, k⟩ := h
    refine ⟨_, pss_cons (ps_expr (pe_bm0 PySem.F.plainAttrs_list PySem.F.slot_list_pop PySem.F.type_list_pop mt_pop (pe_fld (pv 0) rfl)))
      (pss_one (ps_expr (pe_bm0 PySem.F.plainAttrs_list PySem.F.slot_list_pop PySem.F.type_list_pop mt_pop (pe_fld (pv 0) rfl)))), ?_⟩
    obtain ⟨n1, n2, n3⟩ := hc_ne y
    obtain ⟨y1, hy1⟩ := last_some (l := hungV a) (by rw [hung_len y.wf]; omega)
    obtain ⟨y2, hy2⟩ := last_some (l := chV a) (by rw [ch_len]; omega)
    refine ⟨_, rfl, t, C, dx, _, _, rfl, y.ins, T.cl, T.nH, tf_hung, .inl ⟨rfl, _, SqL.of y.hu⟩, h, _, _, rfl, rfl, y.hu, hy1, ?_⟩
    have hc1 : (upd H h (.lst (hungV a).dropLast)) c = some (.lst (chV a)) := by
      rw [upd_ne n1.symm]
      exact y.ch
    refine ⟨_, rfl, t, C, dx, _, _, rfl, by rw [upd_ne n2]; exact y.ins, T.cl, T.nC, tf_chg, .inl ⟨rfl, _, SqL.of hc1⟩, c, _, _, rfl, rfl, hc1, hy2, ?_⟩
    refine k _ ⟨dx, h, c, by rw [upd_ne n3, upd_ne n2]; exact y.ins, ?_, ?_, wf_cut y.wf hn⟩ fun b o e hb q => ?_
    · rw [upd_ne n1, upd_same, hung_cut hn]
    · rw [upd_same, ch_cut]
    · obtain ⟨q1, q2⟩ := q a y.wf
      rw [upd_ne (fun z => by rw [z, y.ch] at e; exact q2 (Option.some.inj e).symm), upd_ne (fun z => by rw [z, y.hu] at e; exact q1 (Option.some.inj e).symm)]
      exact e
end
end Le

end
section
set_option Elab.async false
set_option linter.all false
set_option maxRecDepth 100000
set_option maxHeartbeats 4000000
namespace Le
open PySem PySem.Spec PyProof.Rows L2
open Kv374 (Abs Part has add far)
theorem Same.updN {H H1 : Hp} {u : Addr} {o : HO} (s : Same H H1) (h : H u = none) : Same H (upd H1 u o) := fun b x e => by
  rw [upd_ne (ne_of_none e h)]
  exact s b x e
section
variable {P : Program} {w : World} {K : PySem.W.Frag} {mg : Str → Option Value} {base : Heap} {C : Addr}
noncomputable def spTwin (C : Addr) : Sp := fun vs H Q _ => ∃ (t : Addr) (a : Abs), vs = [.ref t] ∧ Tr C H t a ∧ ∀ (H' : Hp) (u dx h c : Addr), Same H H' → H u = none → H h = none → H c = none → TrAt C H' u a dx h c → Q (.ref u) H'
theorem scTwin : FnScope ["self", "other"] ["self"] (defScope sTwin) := ⟨rfl, rfl, rfl, by decide +kernel, rfl, by decide +kernel, by decide +kernel⟩
theorem ok_twin {f fI : Addr} {fd fdI : FuncData} (F : Fun K "twin" "Tree.twin" sTwin f fd) (T : Txt K mg C) (M : Mk K C fI) (GI : FnOk P w K mg base CX0 1 fI fdI ["self"] (spInit C)) (bI : Binds K fdI ["self"] []) : FnOk P w K mg base CX0 3 f fd ["self"] (spTwin C) := by
  refine F.ok scTwin (fun vs H Q E h => ?_) (fun cdv A outer s H vs Q E hr h => ?_)
  · obtain ⟨t, a, rfl, _⟩ := h
    rfl
  · obtain ⟨t, a, rfl, ⟨dx, h, c, y⟩, k⟩ := h
    have nd := scTwin.nd
    refine ⟨_, pss_cons (ps_set (i := 1) nd rfl (Or.inl rfl) (pe_make0 M GI hr rfl T.mgC bI .nil pass0))
      (pss_cons (ps_fld (pv 1) (pe_fld (pv 0) rfl) rfl)
      (pss_cons (ps_fld (pv 1) (pe_fld (pv 0) rfl) rfl)
      (pss_cons (ps_fld (pv 1) (pe_callTy call_list_of (by rfl) T.list bt_list (pa_cons (pe_fld (pv 0) rfl) pa_nil)) rfl)
      (pss_cons (ps_fld (pv 1) (pe_callTy call_list_of (by rfl) T.list bt_list (pa_cons (pe_fld (pv 0) rfl) pa_nil)) rfl)
      (pss_one (ps_ret (pv 1))))))), ?_⟩
    intro u du nu ndu neu
    refine ⟨u, du, rfl, upd_same, fun H1 h0 c0 hu1 kp => ⟨rfl, ?_⟩⟩
    have s1 : Same H H1 := Same.made nu ndu kp
    have tu : t ≠ u := ne_of_none y.ins nu
    refine ⟨_, rfl, t, C, dx, _, _, rfl, s1 _ _ y.ins, T.cl, T.nB, tf_begun, _, rfl, u, C, du, _, rfl, hu1, T.cl, T.nB, tf_len, ?_⟩
    rw [put_begun]
    have s2 : Same H (upd H1 u (.ins C du (tf true 0 h0 c0))) := Same.updN s1 nu
    have hu2 : (upd H1 u (.ins C du (tf true 0 h0 c0))) u = some (.ins C du (tf true 0 h0 c0)) := upd_same
    generalize (upd H1 u (.ins C du (tf true 0 h0 c0))) = H2 at s2 hu2
    refine ⟨_, rfl, t, C, dx, _, _, rfl, s2 _ _ y.ins, T.cl, T.nL, tf_lean, _, rfl, u, C, du, _, rfl, hu2, T.cl, T.nL, tf_len, ?_⟩
    rw [put_lean]
    have s3 : Same H (upd H2 u (.ins C du (tf true a.lean h0 c0))) := Same.updN s2 nu
    have hu3 : (upd H2 u (.ins C du (tf true a.lean h0 c0))) u = some (.ins C du (tf true a.lean h0 c0)) := upd_same
    generalize (upd H2 u (.ins C du (tf true a.lean h0 c0))) = H3 at s3 hu3
    refine ⟨_, rfl, t, C, dx, _, _, rfl, s3 _ _ y.ins, T.cl, T.nH, tf_hung, h, _, rfl, .inl (SqL.of (s3 _ _ y.hu)), fun l hl => ?_⟩
    have s4 : Same H3 (upd H3 l (.lst (hungV a))) := same_upd hl
    have hlH : H l = none := s3.free hl
    have hl4 : (upd H3 l (.lst (hungV a))) l = some (.lst (hungV a)) := upd_same
    have lu : l ≠ u := fun z => by
      rw [z, hu3] at hl
      cases hl
    have hu4 := s4 _ _ hu3
    have s4' := s3.trans s4
    generalize (upd H3 l (.lst (hungV a))) = H4 at s4' hl4 hu4
    refine ⟨_, rfl, u, C, du, _, rfl, hu4, T.cl, T.nH, tf_len, ?_⟩
    rw [put_hung]
    have s5 : Same H (upd H4 u (.ins C du (tf true a.lean l c0))) := Same.updN s4' nu
    have hu5 : (upd H4 u (.ins C du (tf true a.lean l c0))) u = some (.ins C du (tf true a.lean l c0)) := upd_same
    have hl5 : (upd H4 u (.ins C du (tf true a.lean l c0))) l = some (.lst (hungV a)) := by rw [upd_ne lu]; exact hl4
    generalize (upd H4 u (.ins C du (tf true a.lean l c0))) = H5 at s5 hu5 hl5
    refine ⟨_, rfl, t, C, dx, _, _, rfl, s5 _ _ y.ins, T.cl, T.nC, tf_chg, c, _, rfl, .inl (SqL.of (s5 _ _ y.ch)), fun l2 hl2 => ?_⟩
    have s6 : Same H5 (upd H5 l2 (.lst (chV a))) := same_upd hl2
    have l2u : l2 ≠ u := fun z => by
      rw [z, hu5] at hl2
      cases hl2
    refine ⟨_, rfl, u, C, du, _, rfl, s6 _ _ hu5, T.cl, T.nC, tf_len, ?_⟩
    rw [put_chg]
    exact ⟨_, rfl, k _ u du l l2 (Same.updN (s5.trans s6) nu) nu hlH (s5.free hl2) ⟨upd_same, by rw [upd_ne lu]; exact s6 _ _ hl5, by rw [upd_ne l2u]; exact upd_same, y.wf⟩⟩
end
end Le

end
section
set_option Elab.async false
set_option linter.all false
set_option maxRecDepth 100000
set_option maxHeartbeats 4000000
namespace Le
open PySem PySem.Spec PyProof.Rows L2
open Kv374 (Abs Part has add far)
noncomputable abbrev sNob : Stmt := top 40
noncomputable abbrev sBegin : Stmt := top 41
noncomputable abbrev sBough : Stmt := top 42
noncomputable abbrev sChange : Stmt := top 43
noncomputable abbrev sLess : Stmt := top 44
noncomputable abbrev sLean : Stmt := top 45
noncomputable abbrev sTry : Stmt := top 46
noncomputable abbrev sRight : Stmt := top 47
noncomputable abbrev sLeft : Stmt := top 48
noncomputable abbrev sBoth : Stmt := top 49
noncomputable abbrev sOrder : Stmt := top 50
noncomputable abbrev sTold : Stmt := top 51
noncomputable abbrev sRowsC : Stmt := top 52
noncomputable abbrev sWays : Stmt := top 53
noncomputable abbrev sMayC : Stmt := top 54
noncomputable abbrev sFirst : Stmt := top 55
noncomputable abbrev sKeeps : Stmt := top 56
noncomputable abbrev sIfc : Stmt := top 57
noncomputable abbrev sIfl : Stmt := top 58
noncomputable abbrev sBoughs : Stmt := top 59
noncomputable abbrev sLook : Stmt := top 60
noncomputable abbrev sEnds : Stmt := top 61
noncomputable abbrev sState : Stmt := top 62
noncomputable def KeepP (t Pt : Addr) (H H' : Hp) : Prop := ∀ b o, H b = some o → b ≠ t → b ≠ Pt → (∀ a, Lk.WF a → o ≠ .lst (hungV a) ∧ o ≠ .lst (chV a)) → H' b = some o
theorem Keep.p {t Pt : Addr} {H H' : Hp} (k : Keep t H H') : KeepP t Pt H H' := fun b o e n _ q => k b o e n q
theorem keep_same {t Pt : Addr} {H H' : Hp} (s : Same H H') : KeepP t Pt H H' := fun b o e _ _ _ => s b o e
theorem keep_sameP {t Pt : Addr} {H H' : Hp} (s : SameP Pt H H') : KeepP t Pt H H' := fun b o e _ n _ => s b o e n
theorem KeepP.trans {t Pt : Addr} {H H1 H2 : Hp} (x : KeepP t Pt H H1) (y : KeepP t Pt H1 H2) : KeepP t Pt H H2 := fun b o e n m q => y b o (x b o e n m q) n m q
theorem Keep.lam {t Pt : Addr} {H H' : Hp} {pos : Pos} {qual : Str} (k : Keep t H H') (l : Lam pos qual Pt H) (ht : ∃ C dx fs, H t = some (.ins C dx fs)) : Lam pos qual Pt H' := by
  obtain ⟨C, dx, fs, ht⟩ := ht
  rcases l with l | ⟨c', l1, l2⟩
  · exact .inl (k _ _ l (ne_of l ht (fun z => by cases z)) fun a _ => ⟨fun z => (by cases z), fun z => (by cases z)⟩)
  · refine .inr ⟨c', k _ _ l1 (ne_of l1 ht (fun z => by cases z)) fun a _ => ⟨fun z => (by cases z), fun z => (by cases z)⟩, k _ _ l2 (ne_of l2 ht (fun z => by cases z)) fun a _ => ⟨fun z => (by cases z), fun z => (by cases z)⟩⟩
theorem Keep.free {t : Addr} {H H' : Hp} {q : Addr} (k : Keep t H H') (h : H' q = Option.none) (hq : ∀ o, H q = some o → q ≠ t ∧ ∀ a, Lk.WF a → o ≠ .lst (hungV a) ∧ o ≠ .lst (chV a)) : H q = Option.none := by
  cases e : H q with
  | none => rfl
  | some o =>
    obtain ⟨h1, h2⟩ := hq o e
    rw [k q o e h1 h2] at h
    cases h
noncomputable abbrev rowOfAns (x : Kv374.Ans) : List Int := Kv374Neutral.row x
section
variable {P : Program} {w : World} {K : PySem.W.Frag} {mg : Str → Option Value} {base : Heap} {C : Addr}
noncomputable def spC (K : PySem.W.Frag) (C Pt : Addr) (ok : List Nat → Prop) (mk : List Nat → Kv374.Call) : Sp := fun vs H Q _ => ∃ (t g : Addr) (args : List Nat) (a : Abs), vs = [.ref t, .ref g] ∧ SqL K H g (natV args) ∧ ok args ∧ Tr C H t a ∧ Lam rfbPos rfbQual Pt H ∧
  ∀ (H' : Hp) (q : Addr), Tr C H' t (a.does (mk args)).1 → Lam rfbPos rfbQual Pt H' → KeepP t Pt H H' → (H q = none ∨ ∃ a, Lk.WF a ∧ (H q = some (.lst (hungV a)) ∨ H q = some (.lst (chV a)))) → H' q = some (.lst (intV (rowOfAns (a.does (mk args)).2))) → Q (.ref q) H'
theorem sp_len {ok : List Nat → Prop} {mk : List Nat → Kv374.Call} {Pt : Addr} {vs : List V} {H : Hp} {Q : VK} {E : XK} (h : spC K C Pt ok mk vs H Q E) : vs.length = 2 := by
  obtain ⟨t, g, args, a, rfl, _⟩ := h
  rfl
theorem fin_same {Pt t : Addr} {H H1 : Hp} {a : Abs} {x : Abs × Kv374.Ans} {Q : VK} {xs : List V} (tr : Tr C H t a) (lam : Lam rfbPos rfbQual Pt H)
    (k : ∀ (H' : Hp) (q : Addr), Tr C H' t x.1 → Lam rfbPos rfbQual Pt H' → KeepP t Pt H H' → (H q = none ∨ ∃ a, Lk.WF a ∧ (H q = some (.lst (hungV a)) ∨ H q = some (.lst (chV a)))) → H' q = some (.lst (intV (rowOfAns x.2))) → Q (.ref q) H') (s : Same H H1) (e1 : x.1 = a) (e2 : xs = intV (rowOfAns x.2)) : ∀ q, H1 q = none → Q (.ref q) (upd H1 q (.lst xs)) := fun q hq => by
  have s' := s.trans (same_upd (o := .lst xs) hq)
  refine k _ q ?_ (lam.same s') (keep_same s') (.inl (s.free hq)) (by rw [upd_same, e2])
  rw [e1]
  exact tr.same s'
theorem natV_get {l : List Nat} {i k : Nat} (h : l[i]? = some k) : (natV l)[i]? = some (.int (k : Int)) := by
  unfold natV
  rw [List.getElem?_map, h]
  rfl
theorem okC_no {z : Nat} (h : ¬ z ≤ 100) : Kv374.okC z = false := decide_eq_false h
theorem okL_no {z : Nat} (h : ¬ z ≤ 400) : Kv374.okL z = false := decide_eq_false h
theorem scBough : FnScope ["tree", "given"] ["tree", "given"] (defScope sBough) := ⟨rfl, rfl, rfl, by decide +kernel, rfl, by decide +kernel, by decide +kernel⟩
theorem ok_bough {f Pt : Addr} {fd : FuncData} (F : Fun K "bough" "bough" sBough f fd) (T : Txt K mg C) (c2 : Cst mg "NO_SUCH_PART" (-2)) (c22 : Cst mg "NOT_AS_TOLD" (-22)) (c28 : Cst mg "TOO_MANY" (-28)) (cG : Cst mg "GREATEST_CHANGE" 100) (cM : Cst mg "MOST_PARTS" 9) (cS : Cst mg "CHANGE_SHIFT" 50)
    (GC : MCallee P w K mg base C 1 "part_count" ["self"] (spCount C)) (GH : MCallee P w K mg base C 1 "hang" ["self", "part", "change"] (spHang C)) : FnOk P w K mg base CX0 2 f fd ["tree", "given"] (spC K C Pt (fun l => l.length = 2) fun l => .bough (l.getD 0 0) (l.getD 1 0)) := by
  refine F.ok scBough (fun vs H Q E h => sp_len h) (fun cdv A outer s H vs Q E hr h => ?_)
  obtain ⟨t, g, args, a, rfl, hg, hlen, tr0, lam, k⟩ := h
  obtain ⟨p, z, rfl⟩ : ∃ p z, args = [p, z] := by
    match args, hlen with
    | [p, z], _ => exact ⟨p, z, rfl⟩
  refine ⟨_, pss_cons (ps_if (pt_cmpR op_ge (pe_ix ix_list (pv 1) pe_int (fun _ _ => rfl)) (pe_methC0 GC T.cl hr (pv 0)) (nomark _)) (pss_one (ps_ret (pe_lst (pa_cons (pe_cst c2 rfl) pa_nil)))) pss_nil)
    (pss_cons (ps_if (pt_cmpR op_gt (pe_ix ix_list (pv 1) pe_int (fun _ _ => rfl)) (pe_cst cG rfl) (nomark _)) (pss_one (ps_ret (pe_lst (pa_cons (pe_cst c22 rfl) pa_nil)))) pss_nil)
    (pss_cons (ps_if (pt_cmpR op_eq (pe_methC0 GC T.cl hr (pv 0)) (pe_cst cM rfl) (nomark _)) (pss_one (ps_ret (pe_lst (pa_cons (pe_cst c28 rfl) pa_nil)))) pss_nil)
    (pss_cons (ps_expr (pe_methC GH T.cl hr (pv 0) (pa_cons (pe_ix ix_list (pv 1) pe_int (fun _ _ => rfl)) (pa_cons (pe_op op_sub (pe_ix ix_list (pv 1) pe_int (fun _ _ => rfl)) (pe_cst cS rfl)) pa_nil))))
    (pss_one (ps_ret (pe_lst (pa_cons (pe_op op_sub (pe_methC0 GC T.cl hr (pv 0)) pe_int) pa_nil))))))), ?_⟩
  obtain ⟨dx, h, c, y⟩ := id tr0
  have g0 : atI (natV [p, z]) 0 = some (.int (p : Int)) := atI_nat (j := 0) rfl
  have g1 : atI (natV [p, z]) 1 = some (.int (z : Int)) := atI_nat (j := 1) rfl
  have hw := y.wf.le
  refine ⟨_, rfl, g, _, _, _, rfl, rfl, hg, g0, _, rfl, t, dx, _, rfl, y.ins, rfl, t, a, rfl, tr0, _, _, rfl, rfl, _, rfl, ite2 (fun e => ?_) fun e => ?_⟩
  · have e' : a.n ≤ p := by have := of_decide_eq_true e; omega
    have ed : a.does (.bough p z) = (a, Kv374.say (-2)) := if_pos e'
    exact ⟨by show 1 ≤ sizeLine; decide, fin_same tr0 lam k (Same.refl _) (congrArg (·.1) ed) (by rw [show (a.does (.bough ([p, z].getD 0 0) ([p, z].getD 1 0))).2 = Kv374.say (-2) from congrArg (·.2) ed]; rfl)⟩
  have e1 : ¬ a.n ≤ p := fun q => e (decide_eq_true (by show (a.n : Int) ≤ (p : Int); omega))
  refine ⟨_, rfl, g, _, _, _, rfl, rfl, hg, g1, _, _, rfl, rfl, _, rfl, ite2 (fun e => ?_) fun e => ?_⟩
  · have e' : ¬ z ≤ 100 := by have := of_decide_eq_true e; omega
    have ed : a.does (.bough p z) = (a, Kv374.say (-22)) := by
      show (if a.n ≤ p then _ else if Kv374.okC z = false then _ else _) = _
      rw [if_neg e1, if_pos (okC_no e')]
    exact ⟨by show 1 ≤ sizeLine; decide, fin_same tr0 lam k (Same.refl _) (congrArg (·.1) ed) (by rw [show (a.does (.bough ([p, z].getD 0 0) ([p, z].getD 1 0))).2 = Kv374.say (-22) from congrArg (·.2) ed]; rfl)⟩
  have e2 : z ≤ 100 := Nat.le_of_not_lt fun q => e (decide_eq_true (by show (100 : Int) < (z : Int); omega))
  have ed2 : Kv374.okC z = true := decide_eq_true e2
  refine ⟨_, rfl, t, dx, _, rfl, y.ins, rfl, t, a, rfl, tr0, rfl, _, rfl, ite2 (fun e => ?_) fun e => ?_⟩
  · have e' : 9 ≤ a.n := by simp at e; omega
    have ed : a.does (.bough p z) = (a, Kv374.say (-28)) := by
      show (if a.n ≤ p then _ else if Kv374.okC z = false then _ else if 9 ≤ a.n then _ else _) = _
      rw [if_neg e1, ed2, if_neg (by decide), if_pos e']
    exact ⟨by show 1 ≤ sizeLine; decide, fin_same tr0 lam k (Same.refl _) (congrArg (·.1) ed) (by rw [show (a.does (.bough ([p, z].getD 0 0) ([p, z].getD 1 0))).2 = Kv374.say (-28) from congrArg (·.2) ed]; rfl)⟩
  have e3 : ¬ 9 ≤ a.n := fun q => e (by simp; omega)
  have ed : a.does (.bough p z) = (grown a p (Kv374.toC z), Kv374.say (a.n : Nat)) := by
    show (if a.n ≤ p then _ else if Kv374.okC z = false then _ else if 9 ≤ a.n then _ else _) = _
    rw [if_neg e1, ed2, if_neg (by decide), if_neg e3]
    rfl
  refine ⟨_, rfl, t, dx, _, rfl, y.ins, rfl, _, rfl, g, _, _, _, rfl, rfl, hg, g0, _, rfl, g, _, _, _, rfl, rfl, hg, g1, _, _, rfl, rfl, t, a, p, _, rfl, tr0, by omega, by omega, ⟨by show -50 ≤ (z : Int) - 50; omega, by show (z : Int) - 50 ≤ 50; omega⟩, fun H2 tr2 kp => ?_⟩
  obtain ⟨dx2, h2, c2', y2⟩ := id tr2
  refine ⟨_, rfl, t, dx2, _, rfl, y2.ins, rfl, t, _, rfl, tr2, _, _, rfl, rfl, by show 1 ≤ sizeLine; decide, fun q hq => ?_⟩
  have s3 := same_upd (o := .lst [V.int (((grown a p ((z : Int) - 50)).n : Int) - 1)]) hq
  have ex : ∃ C dx fs, H t = some (.ins C dx fs) := ⟨_, _, _, y.ins⟩
  refine k _ q ?_ ((kp.lam lam ex).same s3) ((kp.p).trans (keep_same s3)) ?_ ?_
  · show Tr C _ t (a.does (.bough p z)).1
    rw [ed]
    exact tr2.same s3
  · cases eq : H q with
    | none => exact .inl rfl
    | some o =>
      by_cases hqt : q = t
      · rw [hqt, y2.ins] at hq
        cases hq
      · refine .inr (Classical.byContradiction fun no => ?_)
        have := kp q o eq hqt fun a' wa => ⟨fun z => no ⟨a', wa, .inl (by rw [z])⟩, fun z => no ⟨a', wa, .inr (by rw [z])⟩⟩
        rw [hq] at this
        cases this
  · rw [upd_same]
    show _ = some (HO.lst (intV (rowOfAns (a.does (.bough p z)).2)))
    rw [ed, grown_n]
    show some (HO.lst [V.int (((a.n + 1 : Nat) : Int) - 1)]) = some (HO.lst [V.int ((a.n : Nat) : Int)])
    congr 4
    omega
end
end Le

end
section
set_option Elab.async false
set_option linter.all false
set_option maxRecDepth 100000
set_option maxHeartbeats 4000000
namespace Le
open PySem PySem.Spec PyProof.Rows L2
open Kv374 (Abs Part has add far)
theorem q_free {t : Addr} {H H' : Hp} {q : Addr} (kp : Keep t H H') (hq : H' q = Option.none) (ht : ∃ o, H' t = some o) : H q = Option.none ∨ ∃ a, Lk.WF a ∧ (H q = some (.lst (hungV a)) ∨ H q = some (.lst (chV a))) := by
  cases eq : H q with
  | none => exact .inl rfl
  | some o =>
    by_cases hqt : q = t
    · obtain ⟨o', e⟩ := ht
      rw [hqt, e] at hq
      cases hq
    · refine .inr (Classical.byContradiction fun no => ?_)
      have := kp q o eq hqt fun a' wa => ⟨fun z => no ⟨a', wa, .inl (by rw [z])⟩, fun z => no ⟨a', wa, .inr (by rw [z])⟩⟩
      rw [hq] at this
      cases this
theorem part_mod {a : Abs} {i j : Nat} {f : Part → Part} : (a.setP i f).part j = if i = j ∧ j < a.n then f (a.part j) else a.part j := by
  unfold Abs.setP Abs.part Abs.n
  rw [List.getD_eq_getElem?_getD, List.getElem?_modify, List.getD_eq_getElem?_getD]
  by_cases h : j < a.parts.length
  · rw [List.getElem?_eq_getElem h]
    by_cases e : i = j
    · simp [e, h]
    · simp [e]
  · rw [List.getElem?_eq_none (by omega)]
    simp [h]
theorem n_mod {a : Abs} {i : Nat} {f : Part → Part} : (a.setP i f).n = a.n := by
  unfold Abs.setP Abs.n
  rw [List.length_modify]
noncomputable abbrev chg (z : Int) (p : Part) : Part := { p with change := z }
theorem wf_mod {a : Abs} (W : Lk.WF a) {i : Nat} {z : Int} (hi : 0 < i) (hz : -50 ≤ z ∧ z ≤ 50) : Lk.WF (a.setP i (chg z)) := by
  refine ⟨by rw [n_mod]; exact W.pos, by rw [n_mod]; exact W.le, ?_, fun j h0 h1 => ?_, fun j => ?_, W.ln⟩
  · rw [part_mod, if_neg (by omega)]
    exact W.zero
  · rw [n_mod] at h1
    rw [part_mod]
    split
    · exact W.on j h0 h1
    · exact W.on j h0 h1
  · rw [part_mod]
    split
    · exact hz
    · exact W.ch j
theorem map_mod {α β : Type} (g : α → β) (f : α → α) (y : β) : ∀ (l : List α) (i : Nat), (∀ x, g (f x) = y) → (l.modify i f).map g = (l.map g).set i y
  | [], i, _ => by simp
  | x :: l, 0, h => by simp [h]
  | x :: l, i + 1, h => by simp [map_mod g f y l i h]
theorem map_mod2 {α β : Type} (g : α → β) (f : α → α) : ∀ (l : List α) (i : Nat), (∀ x, g (f x) = g x) → (l.modify i f).map g = l.map g
  | [], i, _ => by simp
  | x :: l, 0, h => by simp [h]
  | x :: l, i + 1, h => by simp [map_mod2 g f l i h]
theorem ch_mod (a : Abs) (i : Nat) (z : Int) : chV (a.setP i (chg z)) = (chV a).set i (.int z) := map_mod _ _ _ _ _ fun _ => rfl
theorem hung_mod (a : Abs) (i : Nat) (z : Int) : hungV (a.setP i (chg z)) = hungV a := by
  have e : (a.parts.modify i (chg z)).map (fun (p : Part) => V.int (p.on : Int)) = a.parts.map fun (p : Part) => V.int (p.on : Int) := map_mod2 _ _ _ _ fun _ => rfl
  unfold hungV Abs.setP
  rw [List.map_drop, List.map_drop, e]
section
variable {P : Program} {w : World} {K : PySem.W.Frag} {mg : Str → Option Value} {base : Heap} {C : Addr}
noncomputable def spNob (C : Addr) : Sp := fun vs H Q _ => ∃ (t : Addr) (a : Abs) (i : Nat), vs = [.ref t, .int (i : Int)] ∧ Tr C H t a ∧ Q (.bl (decide (i = 0 ∨ a.n ≤ i))) H
theorem scNob : FnScope ["tree", "part"] ["tree", "part"] (defScope sNob) := ⟨rfl, rfl, rfl, by decide +kernel, rfl, by decide +kernel, by decide +kernel⟩
theorem ok_nob {f : Addr} {fd : FuncData} (F : Fun K "is_no_bough" "is_no_bough" sNob f fd) (T : Txt K mg C) (GC : MCallee P w K mg base C 1 "part_count" ["self"] (spCount C)) : FnOk P w K mg base CX0 2 f fd ["tree", "part"] (spNob C) := by
  refine F.ok scNob (fun vs H Q E h => ?_) (fun cdv A outer s H vs Q E hr h => ?_)
  · obtain ⟨t, a, i, rfl, _⟩ := h
    rfl
  obtain ⟨t, a, i, rfl, tr0, k⟩ := h
  refine ⟨_, pss_one (ps_ret (pe_or (pe_cmpR op_eq (pv 1) pe_int (nomark _)) (pe_one (pe_cmpR op_ge (pv 1) (pe_methC0 GC T.cl hr (pv 0)) (nomark _))))), ?_⟩
  obtain ⟨dx, h, c, y⟩ := id tr0
  refine ⟨_, rfl, rfl, _, rfl, ite2 (fun e => ?_) fun e => ?_⟩
  · have e' : i = 0 := by simp at e; omega
    rw [decide_eq_true (Or.inl e')] at k
    exact k
  · have e0 : ¬ i = 0 := fun q => e (by simp; omega)
    refine ⟨_, rfl, _, rfl, t, dx, _, rfl, y.ins, rfl, t, a, rfl, tr0, _, _, rfl, rfl, ?_⟩
    have e1 : decide (i = 0 ∨ a.n ≤ i) = decide ((a.n : Int) ≤ (i : Int)) := by
      rw [Bool.eq_iff_iff]
      simp
      omega
    rw [e1] at k
    exact k
noncomputable def spD (K : PySem.W.Frag) (C : Addr) (ok : List Nat → Prop) (mk : List Nat → Kv374.Call) : Sp := fun vs H Q _ => ∃ (t g : Addr) (args : List Nat) (a : Abs) (dx h c : Addr), vs = [.ref t, .ref g] ∧ SqL K H g (natV args) ∧ ok args ∧ TrAt C H t a dx h c ∧
  ∀ (H' : Hp) (q : Addr), Tr C H' t (a.does (mk args)).1 → (∀ b o, H b = some o → b ≠ t → b ≠ c → H' b = some o) → H q = none → H' q = some (.lst (intV (rowOfAns (a.does (mk args)).2))) → Q (.ref q) H'
theorem spD_len {ok : List Nat → Prop} {mk : List Nat → Kv374.Call} {vs : List V} {H : Hp} {Q : VK} {E : XK} (h : spD K C ok mk vs H Q E) : vs.length = 2 := by
  obtain ⟨t, g, args, a, dx, h, c, rfl, _⟩ := h
  rfl
theorem spC_D {Pt : Addr} {ok : List Nat → Prop} {mk : List Nat → Kv374.Call} (vs : List V) (H : Hp) (Q : VK) (E : XK) (h : spC K C Pt ok mk vs H Q E) : spD K C ok mk vs H Q E := by
  obtain ⟨t, g, args, a, rfl, hg, ho, ⟨dx, h, c, y⟩, lam, k⟩ := h
  refine ⟨t, g, args, a, dx, h, c, rfl, hg, ho, y, fun H' q tr kp hq hl => ?_⟩
  have kp' : Keep t H H' := fun b o e hb q' => kp b o e hb fun z => by
    rw [z, y.ch] at e
    exact (q' a y.wf).2 (Option.some.inj e).symm
  exact k H' q tr (kp'.lam lam ⟨_, _, _, y.ins⟩) kp'.p (.inl hq) hl
theorem fin_D {t c : Addr} {H H1 : Hp} {a : Abs} {x : Abs × Kv374.Ans} {Q : VK} {xs : List V} (tr : Tr C H t a)
    (k : ∀ (H' : Hp) (q : Addr), Tr C H' t x.1 → (∀ b o, H b = some o → b ≠ t → b ≠ c → H' b = some o) → H q = none → H' q = some (.lst (intV (rowOfAns x.2))) → Q (.ref q) H') (s : Same H H1) (e1 : x.1 = a) (e2 : xs = intV (rowOfAns x.2)) : ∀ q, H1 q = none → Q (.ref q) (upd H1 q (.lst xs)) := fun q hq => by
  have s' := s.trans (same_upd (o := .lst xs) hq)
  exact k _ q (by rw [e1]; exact tr.same s') (fun b o e _ _ => s' b o e) (s.free hq) (by rw [upd_same, e2])
theorem scChange : FnScope ["tree", "given", "part", "was"] ["tree", "given"] (defScope sChange) := ⟨rfl, rfl, rfl, by decide +kernel, rfl, by decide +kernel, by decide +kernel⟩
theorem ok_changeD {f : Addr} {fd : FuncData} (F : Fun K "change" "change" sChange f fd) (T : Txt K mg C) (c2 : Cst mg "NO_SUCH_PART" (-2)) (c22 : Cst mg "NOT_AS_TOLD" (-22)) (cG : Cst mg "GREATEST_CHANGE" 100) (cS : Cst mg "CHANGE_SHIFT" 50)
    (GN : Callee P w K mg base 2 "is_no_bough" ["tree", "part"] (spNob C)) : FnOk P w K mg base CX0 3 f fd ["tree", "given"] (spD K C (fun l => l.length = 2) fun l => .change (l.getD 0 0) (l.getD 1 0)) := by
  refine F.ok scChange (fun vs H Q E h => spD_len h) (fun cdv A outer s H vs Q E hr h => ?_)
  obtain ⟨t, g, args, a, dx, h, c, rfl, hg, hlen, y, k⟩ := h
  have tr0 : Tr C H t a := ⟨dx, h, c, y⟩
  obtain ⟨i, z, rfl⟩ : ∃ p z, args = [p, z] := by
    match args, hlen with
    | [p, z], _ => exact ⟨p, z, rfl⟩
  have nd := scChange.nd
  refine ⟨_, pss_cons (ps_set (i := 2) nd rfl (Or.inl rfl) (pe_ix ix_list (pv 1) pe_int (fun _ _ => rfl)))
    (pss_cons (ps_if (pt_val (pe_callC GN hr rfl (pa_cons (pv 0) (pa_cons (pv 2) pa_nil)))) (pss_one (ps_ret (pe_lst (pa_cons (pe_cst c2 rfl) pa_nil)))) pss_nil)
    (pss_cons (ps_if (pt_cmpR op_gt (pe_ix ix_list (pv 1) pe_int (fun _ _ => rfl)) (pe_cst cG rfl) (nomark _)) (pss_one (ps_ret (pe_lst (pa_cons (pe_cst c22 rfl) pa_nil)))) pss_nil)
    (pss_cons (ps_set (i := 3) nd rfl (Or.inl rfl) (pe_ix ix_list (pe_fld (pv 0) rfl) (pv 2) (fun _ _ => rfl)))
    (pss_cons (ps_asg (pe_op op_sub (pe_ix ix_list (pv 1) pe_int (fun _ _ => rfl)) (pe_cst cS rfl)) (pg_sub (pe_fld (pv 0) rfl) (pv 2) set_list))
    (pss_one (ps_ret (pe_lst (pa_cons pe_int (pa_cons (pv 3) pa_nil))))))))), ?_⟩
  have g0 : atI (natV [i, z]) 0 = some (.int (i : Int)) := atI_nat (j := 0) rfl
  have g1 : atI (natV [i, z]) 1 = some (.int (z : Int)) := atI_nat (j := 1) rfl
  refine ⟨_, rfl, g, _, _, _, rfl, rfl, hg, g0, _, rfl, _, rfl, t, a, i, rfl, tr0, _, rfl, ite2 (fun e => ?_) fun e => ?_⟩
  · have ed : a.does (.change i z) = (a, Kv374.say (-2)) := if_pos (of_decide_eq_true e)
    exact ⟨by show 1 ≤ sizeLine; decide, fin_D tr0 k (Same.refl _) (congrArg (·.1) ed) (by rw [show (a.does (.change ([i, z].getD 0 0) ([i, z].getD 1 0))).2 = Kv374.say (-2) from congrArg (·.2) ed]; rfl)⟩
  have hno : ¬ (i = 0 ∨ a.n ≤ i) := fun q => e (decide_eq_true q)
  refine ⟨_, rfl, g, _, _, _, rfl, rfl, hg, g1, _, _, rfl, rfl, _, rfl, ite2 (fun e => ?_) fun e => ?_⟩
  · have e' : ¬ z ≤ 100 := by have := of_decide_eq_true e; omega
    have ed : a.does (.change i z) = (a, Kv374.say (-22)) := by
      show (if i = 0 ∨ a.n ≤ i then _ else if Kv374.okC z = false then _ else _) = _
      rw [if_neg hno, if_pos (okC_no e')]
    exact ⟨by show 1 ≤ sizeLine; decide, fin_D tr0 k (Same.refl _) (congrArg (·.1) ed) (by rw [show (a.does (.change ([i, z].getD 0 0) ([i, z].getD 1 0))).2 = Kv374.say (-22) from congrArg (·.2) ed]; rfl)⟩
  have e2 : z ≤ 100 := Nat.le_of_not_lt fun q => e (decide_eq_true (by show (100 : Int) < (z : Int); omega))
  have ed2 : Kv374.okC z = true := decide_eq_true e2
  have ed : a.does (.change i z) = (a.setP i (chg (Kv374.toC z)), ⟨0, [(a.part i).change]⟩) := by
    show (if i = 0 ∨ a.n ≤ i then _ else if Kv374.okC z = false then _ else _) = _
    rw [if_neg hno, ed2, if_neg (by decide)]
  have hi : i < a.n := by omega
  obtain ⟨n1, n2, n3⟩ := hc_ne y
  refine ⟨_, rfl, t, C, dx, _, _, rfl, y.ins, T.cl, T.nC, tf_chg, _, rfl, c, _, _, _, rfl, rfl, SqL.of y.ch, atI_nat (ch_at hi), ?_⟩
  refine ⟨_, rfl, g, _, _, _, rfl, rfl, hg, g1, _, _, rfl, rfl, _, rfl, t, C, dx, _, _, rfl, y.ins, T.cl, T.nC, tf_chg, _, rfl, c, _, _, i, rfl, rfl, y.ch, ixN_nat (by rw [ch_len]; exact hi), ?_⟩
  have ht2 : (upd H c (.lst ((chV a).set i (V.int ((z : Int) - 50))))) t = some (.ins C dx (tf true a.lean h c)) := by
    rw [upd_ne n3]
    exact y.ins
  have tr2 : Tr C (upd H c (.lst ((chV a).set i (V.int ((z : Int) - 50))))) t (a.setP i (chg (Kv374.toC z))) := by
    refine ⟨dx, h, c, ht2, ?_, ?_, wf_mod y.wf (by omega) ⟨by show -50 ≤ (z : Int) - 50; omega, by show (z : Int) - 50 ≤ 50; omega⟩⟩
    · rw [upd_ne n1, hung_mod]
      exact y.hu
    · rw [upd_same, ch_mod]
      rfl
  refine ⟨_, rfl, by show 2 ≤ sizeLine; decide, fun q hq => ?_⟩
  have s3 := same_upd (o := .lst [V.int 0, V.int (a.part i).change]) hq
  refine k _ q ?_ (fun b o e _ hb => s3 _ _ (by rw [upd_ne hb]; exact e)) ?_ ?_
  · show Tr C _ t (a.does (.change i z)).1
    rw [ed]
    exact tr2.same s3
  · have qc : q ≠ c := fun w => by
      rw [w, upd_same] at hq
      cases hq
    rw [upd_ne qc] at hq
    exact hq
  · rw [upd_same]
    show _ = some (HO.lst (intV (rowOfAns (a.does (.change i z)).2)))
    rw [ed]
    rfl
theorem ok_change {f Pt : Addr} {fd : FuncData} (F : Fun K "change" "change" sChange f fd) (T : Txt K mg C) (c2 : Cst mg "NO_SUCH_PART" (-2)) (c22 : Cst mg "NOT_AS_TOLD" (-22)) (cG : Cst mg "GREATEST_CHANGE" 100) (cS : Cst mg "CHANGE_SHIFT" 50)
    (GN : Callee P w K mg base 2 "is_no_bough" ["tree", "part"] (spNob C)) : FnOk P w K mg base CX0 3 f fd ["tree", "given"] (spC K C Pt (fun l => l.length = 2) fun l => .change (l.getD 0 0) (l.getD 1 0)) := (ok_changeD F T c2 c22 cG cS GN).imp fun vs H Q E h => spC_D vs H Q E h

theorem scLess : FnScope ["tree", "given"] ["tree", "given"] (defScope sLess) := ⟨rfl, rfl, rfl, by decide +kernel, rfl, by decide +kernel, by decide +kernel⟩
theorem ok_less {f Pt : Addr} {fd : FuncData} (F : Fun K "less" "less" sLess f fd) (T : Txt K mg C) (c6 : Cst mg "TRUNK_ALONE" (-6))
    (GC : MCallee P w K mg base C 1 "part_count" ["self"] (spCount C)) (GD : MCallee P w K mg base C 1 "drop_last" ["self"] (spDrop C)) : FnOk P w K mg base CX0 2 f fd ["tree", "given"] (spC K C Pt (fun _ => True) fun _ => .less) := by
  refine F.ok scLess (fun vs H Q E h => sp_len h) (fun cdv A outer s H vs Q E hr h => ?_)
  obtain ⟨t, g, args, a, rfl, hg, _, tr0, lam, k⟩ := h
  refine ⟨_, pss_cons (ps_if (pt_cmpR op_eq (pe_methC0 GC T.cl hr (pv 0)) pe_int (nomark _)) (pss_one (ps_ret (pe_lst (pa_cons (pe_cst c6 rfl) pa_nil)))) pss_nil)
    (pss_cons (ps_expr (pe_methC0 GD T.cl hr (pv 0)))
    (pss_one (ps_ret (pe_lst (pa_cons (pe_methC0 GC T.cl hr (pv 0)) pa_nil))))), ?_⟩
  obtain ⟨dx, h, c, y⟩ := id tr0
  have hpos := y.wf.pos
  refine ⟨_, rfl, t, dx, _, rfl, y.ins, rfl, t, a, rfl, tr0, rfl, _, rfl, ite2 (fun e => ?_) fun e => ?_⟩
  · have e' : a.n ≤ 1 := by simp at e; omega
    have ed : a.does .less = (a, Kv374.say (-6)) := if_pos e'
    exact ⟨by show 1 ≤ sizeLine; decide, fin_same tr0 lam k (Same.refl _) (congrArg (·.1) ed) (by rw [show (a.does .less).2 = Kv374.say (-6) from congrArg (·.2) ed]; rfl)⟩
  have e1 : ¬ a.n ≤ 1 := fun q => e (by simp; omega)
  have ed : a.does .less = (cut a, Kv374.say (a.n - 1 : Nat)) := by
    show (if a.n ≤ 1 then _ else _) = _
    rw [if_neg e1]
    rfl
  refine ⟨_, rfl, t, dx, _, rfl, y.ins, rfl, t, a, rfl, tr0, by omega, fun H2 tr2 kp => ?_⟩
  obtain ⟨dx2, h2, c2', y2⟩ := id tr2
  refine ⟨_, rfl, t, dx2, _, rfl, y2.ins, rfl, t, _, rfl, tr2, by show 1 ≤ sizeLine; decide, fun q hq => ?_⟩
  have s3 := same_upd (o := .lst [V.int ((cut a).n : Int)]) hq
  refine k _ q ?_ ((kp.lam lam ⟨_, _, _, y.ins⟩).same s3) ((kp.p).trans (keep_same s3)) (q_free kp hq ⟨_, y2.ins⟩) ?_
  · rw [ed]
    exact tr2.same s3
  · rw [upd_same, ed, cut_n]
    rfl

theorem wf_lean {a : Abs} (W : Lk.WF a) {l : Int} (h : -200 ≤ l ∧ l ≤ 200) : Lk.WF { a with lean := l } := ⟨W.pos, W.le, W.zero, W.on, W.ch, h⟩
theorem scLean : FnScope ["tree", "given", "was"] ["tree", "given"] (defScope sLean) := ⟨rfl, rfl, rfl, by decide +kernel, rfl, by decide +kernel, by decide +kernel⟩
theorem ok_leanD {f : Addr} {fd : FuncData} (F : Fun K "lean" "lean" sLean f fd) (T : Txt K mg C) (c22 : Cst mg "NOT_AS_TOLD" (-22)) (cG : Cst mg "GREATEST_LEAN" 400) (cS : Cst mg "LEAN_SHIFT" 200) :
    FnOk P w K mg base CX0 1 f fd ["tree", "given"] (spD K C (fun l => l.length = 1) fun l => .lean (l.getD 0 0)) := by
  refine F.ok scLean (fun vs H Q E h => spD_len h) (fun cdv A outer s H vs Q E hr h => ?_)
  obtain ⟨t, g, args, a, dx, h, c, rfl, hg, hlen, y, k⟩ := h
  have tr0 : Tr C H t a := ⟨dx, h, c, y⟩
  obtain ⟨z, rfl⟩ : ∃ z, args = [z] := by
    match args, hlen with
    | [z], _ => exact ⟨z, rfl⟩
  have nd := scLean.nd
  refine ⟨_, pss_cons (ps_if (pt_cmpR op_gt (pe_ix ix_list (pv 1) pe_int (fun _ _ => rfl)) (pe_cst cG rfl) (nomark _)) (pss_one (ps_ret (pe_lst (pa_cons (pe_cst c22 rfl) pa_nil)))) pss_nil)
    (pss_cons (ps_set (i := 2) nd rfl (Or.inl rfl) (pe_fld (pv 0) rfl))
    (pss_cons (ps_fld (pv 0) (pe_op op_sub (pe_ix ix_list (pv 1) pe_int (fun _ _ => rfl)) (pe_cst cS rfl)) rfl)
    (pss_one (ps_ret (pe_lst (pa_cons pe_int (pa_cons (pv 2) pa_nil))))))), ?_⟩
  have g0 : atI (natV [z]) 0 = some (.int (z : Int)) := atI_nat (j := 0) rfl
  refine ⟨_, rfl, g, _, _, _, rfl, rfl, hg, g0, _, _, rfl, rfl, _, rfl, ite2 (fun e => ?_) fun e => ?_⟩
  · have e' : ¬ z ≤ 400 := by have := of_decide_eq_true e; omega
    have ed : a.does (.lean z) = (a, Kv374.say (-22)) := if_pos (okL_no e')
    exact ⟨by show 1 ≤ sizeLine; decide, fin_D tr0 k (Same.refl _) (congrArg (·.1) ed) (by rw [show (a.does (.lean ([z].getD 0 0))).2 = Kv374.say (-22) from congrArg (·.2) ed]; rfl)⟩
  have e2 : z ≤ 400 := Nat.le_of_not_lt fun q => e (decide_eq_true (by show (400 : Int) < (z : Int); omega))
  have ed2 : Kv374.okL z = true := decide_eq_true e2
  have ed : a.does (.lean z) = ({ a with lean := Kv374.toL z }, ⟨0, [a.lean]⟩) := by
    show (if Kv374.okL z = false then _ else _) = _
    rw [ed2, if_neg (by decide)]
  refine ⟨_, rfl, t, C, dx, _, _, rfl, y.ins, T.cl, T.nL, tf_lean, _, rfl, g, _, _, _, rfl, rfl, hg, g0, _, _, rfl, rfl, _, rfl, t, C, dx, _, rfl, y.ins, T.cl, T.nL, tf_len, ?_⟩
  rw [show (fun (i j : Int) => V.int (i - j)) ((z : Nat) : Int) 200 = V.int ((z : Int) - 200) from rfl, put_lean]
  obtain ⟨n1, n2, n3⟩ := hc_ne y
  have tr2 : Tr C (upd H t (.ins C dx (tf true ((z : Int) - 200) h c))) t { a with lean := Kv374.toL z } := by
    refine ⟨dx, h, c, upd_same, ?_, ?_, wf_lean y.wf ⟨by show -200 ≤ (z : Int) - 200; omega, by show (z : Int) - 200 ≤ 200; omega⟩⟩
    · rw [upd_ne n2.symm]
      exact y.hu
    · rw [upd_ne n3.symm]
      exact y.ch
  refine ⟨_, rfl, by show 2 ≤ sizeLine; decide, fun q hq => ?_⟩
  have s3 := same_upd (o := .lst [V.int 0, V.int a.lean]) hq
  refine k _ q ?_ (fun b o e hb _ => s3 _ _ (by rw [upd_ne hb]; exact e)) ?_ ?_
  · show Tr C _ t (a.does (.lean z)).1
    rw [ed]
    exact tr2.same s3
  · have qt : q ≠ t := fun w => by
      rw [w, upd_same] at hq
      cases hq
    rw [upd_ne qt] at hq
    exact hq
  · rw [upd_same]
    show _ = some (HO.lst (intV (rowOfAns (a.does (.lean z)).2)))
    rw [ed]
    rfl
theorem ok_lean {f Pt : Addr} {fd : FuncData} (F : Fun K "lean" "lean" sLean f fd) (T : Txt K mg C) (c22 : Cst mg "NOT_AS_TOLD" (-22)) (cG : Cst mg "GREATEST_LEAN" 400) (cS : Cst mg "LEAN_SHIFT" 200) :
    FnOk P w K mg base CX0 1 f fd ["tree", "given"] (spC K C Pt (fun l => l.length = 1) fun l => .lean (l.getD 0 0)) := (ok_leanD F T c22 cG cS).imp fun vs H Q E h => spC_D vs H Q E h
end
end Le

end
section
set_option Elab.async false
set_option linter.all false
set_option maxRecDepth 100000
set_option maxHeartbeats 4000000
namespace Le
open PySem PySem.Spec PyProof.Rows L2
open Kv374 (Abs Part has add far)
noncomputable def datI (l : List Int) : PyData := .list (l.map PyData.int)
theorem can_ints : ∀ l : List Int, PyData.canLayAll0 (l.map PyData.int) = true
  | [] => by simp [PyData.canLayAll0]
  | x :: l => by simp [PyData.canLayAll0, PyData.canLay0, can_ints l]
theorem depth_ints : ∀ l : List Int, PyData.depthAll (l.map PyData.int) = 0
  | [] => by simp [PyData.depthAll]
  | x :: l => by simp [PyData.depthAll, PyData.depth, depth_ints l]
theorem shaped_ints (l : List Int) : SeqAt.shaped (datI l) = true := by
  unfold SeqAt.shaped datI
  simp [PyData.canLay0, can_ints, PyData.depth, depth_ints]
theorem eqv_all : ∀ l m : List Int, PyData.eqvAll (l.map PyData.int) (m.map PyData.int) = decide (l = m)
  | [], [] => by simp [PyData.eqvAll]
  | [], y :: m => by simp [PyData.eqvAll]
  | x :: l, [] => by simp [PyData.eqvAll]
  | x :: l, y :: m => by
    simp only [List.map_cons, PyData.eqvAll, PyData.eqv, eqv_all l m]
    rw [Bool.eq_iff_iff]
    simp
theorem eqv_ints (l m : List Int) : PyData.eqv (datI l) (datI m) = decide (l = m) := by
  unfold datI
  simp only [PyData.eqv, eqv_all]
theorem dp_ints {K : PySem.W.Frag} {H : Hp} {p : Addr} {l : List Int} (h : SqL K H p (l.map V.int)) : Dp K H (.ref p) (datI l) := by
  refine Dp.lst h ?_
  clear h
  induction l with
  | nil => exact .nil
  | cons x l ih => exact .cons (.int x) ih
noncomputable def nI (l : List Nat) : List Int := l.map fun (i : Nat) => (i : Int)
theorem natV_nI (l : List Nat) : natV l = (nI l).map V.int := by
  unfold natV nI
  rw [List.map_map]
  rfl
theorem nI_perm {l m : List Nat} : (nI l).Perm (nI m) ↔ l.Perm m := by
  constructor
  · intro h
    have := h.map Int.toNat
    unfold nI at this
    rw [List.map_map, List.map_map] at this
    have e : (Int.toNat ∘ fun (i : Nat) => (i : Int)) = id := by
      funext i
      simp
    rw [e, List.map_id, List.map_id] at this
    exact this
  · exact fun h => h.map _
theorem nI_sorted (a : Abs) : (nI a.all_).Pairwise (· ≤ ·) := by
  unfold nI
  rw [List.pairwise_map, Lk.all_eq]
  refine (List.pairwise_lt_range' (s := 1) (n := a.n - 1)).imp fun h => ?_
  omega
theorem go_len {a : Abs} {t : List Int} {best : Int} : ∀ (k m : Nat), (a.go t best k m).length ≤ k
  | 0, m => Nat.le_refl _
  | k + 1, m => by
    show (match (a.next m).find? (fun i => decide (t.getD (add m i) 0 ≤ best)) with | none => [] | some i => i :: a.go t best k (add m i)).length ≤ k + 1
    split
    · exact Nat.zero_le _
    · rw [List.length_cons]
      exact Nat.succ_le_succ (go_len k _)
section
variable {P : Program} {w : World} {K : PySem.W.Frag} {mg : Str → Option Value} {base : Heap} {C : Addr}
noncomputable def StAt (C : Addr) (H : Hp) (t : Addr) : Option Abs → Prop
  | none => ∃ dx l h c, H t = some (.ins C dx (tf false l h c))
  | some a => Tr C H t a
theorem StAt.ins {H : Hp} {t : Addr} {o : Option Abs} (h : StAt C H t o) : ∃ b dx l h c, H t = some (.ins C dx (tf b l h c)) := by
  cases o with
  | none =>
    obtain ⟨dx, l, h, c, e⟩ := h
    exact ⟨_, dx, l, h, c, e⟩
  | some a =>
    obtain ⟨dx, h, c, y⟩ := h
    exact ⟨_, dx, _, h, c, y.ins⟩
theorem StAt.same {H H' : Hp} {t : Addr} {o : Option Abs} (h : StAt C H t o) (s : Same H H') : StAt C H' t o := by
  cases o with
  | none =>
    obtain ⟨dx, l, h, c, e⟩ := h
    exact ⟨dx, l, h, c, s _ _ e⟩
  | some a => exact Tr.same h s
noncomputable def spBegin (K : PySem.W.Frag) (C Pt : Addr) : Sp := fun vs H Q _ => ∃ (t g : Addr) (l : Nat) (st : Option Abs), vs = [.ref t, .ref g] ∧ SqL K H g (natV [l]) ∧ StAt C H t st ∧ Lam rfbPos rfbQual Pt H ∧
  ∀ (H' : Hp) (q : Addr), StAt C H' t (Kv374.act st (.begin_ l)).1 → Lam rfbPos rfbQual Pt H' → KeepP t Pt H H' → (H q = none ∨ ∃ a, Lk.WF a ∧ (H q = some (.lst (hungV a)) ∨ H q = some (.lst (chV a)))) → H' q = some (.lst (intV (rowOfAns (Kv374.act st (.begin_ l)).2))) → Q (.ref q) H'
theorem act_begin (st : Option Abs) (l : Nat) : Kv374.act st (.begin_ l) = if l ≤ 400 then (some (Kv374.begun (Kv374.toL l)), Kv374.say 0) else (st, Kv374.say (-22)) := by
  by_cases h : l ≤ 400
  · rw [if_pos h]
    have ok : Kv374.okL l = true := decide_eq_true h
    have ed : ∀ a : Abs, a.does (.begin_ l) = (Kv374.begun (Kv374.toL l), Kv374.say 0) := fun a => by
      show (if Kv374.okL l = false then _ else _) = _
      rw [ok, if_neg (by decide)]
    cases st with
    | none =>
      show (if ((Kv374.begun 0).does (.begin_ l)).2.ret < 0 then _ else _) = _
      rw [ed]
      rfl
    | some a =>
      show (some (a.does (.begin_ l)).1, (a.does (.begin_ l)).2) = _
      rw [ed]
  · rw [if_neg h]
    have ed : ∀ a : Abs, a.does (.begin_ l) = (a, Kv374.say (-22)) := fun a => if_pos (okL_no h)
    cases st with
    | none =>
      show (if ((Kv374.begun 0).does (.begin_ l)).2.ret < 0 then _ else _) = _
      rw [ed]
      rfl
    | some a =>
      show (some (a.does (.begin_ l)).1, (a.does (.begin_ l)).2) = _
      rw [ed]
theorem scBegin : FnScope ["tree", "given"] ["tree", "given"] (defScope sBegin) := ⟨rfl, rfl, rfl, by decide +kernel, rfl, by decide +kernel, by decide +kernel⟩
theorem ok_begin {f Pt : Addr} {fd : FuncData} (F : Fun K "begin" "begin" sBegin f fd) (T : Txt K mg C) (c22 : Cst mg "NOT_AS_TOLD" (-22)) (cG : Cst mg "GREATEST_LEAN" 400) (cS : Cst mg "LEAN_SHIFT" 200) (GA : MCallee P w K mg base C 1 "begin_anew" ["self", "first_lean"] (spAnew C)) :
    FnOk P w K mg base CX0 2 f fd ["tree", "given"] (spBegin K C Pt) := by
  refine F.ok scBegin (fun vs H Q E h => ?_) (fun cdv A outer s H vs Q E hr h => ?_)
  · obtain ⟨t, g, l, st, rfl, _⟩ := h
    rfl
  obtain ⟨t, g, z, st, rfl, hg, hst, lam, k⟩ := h
  refine ⟨_, pss_cons (ps_if (pt_cmpR op_gt (pe_ix ix_list (pv 1) pe_int (fun _ _ => rfl)) (pe_cst cG rfl) (nomark _)) (pss_one (ps_ret (pe_lst (pa_cons (pe_cst c22 rfl) pa_nil)))) pss_nil)
    (pss_cons (ps_expr (pe_methC GA T.cl hr (pv 0) (pa_cons (pe_op op_sub (pe_ix ix_list (pv 1) pe_int (fun _ _ => rfl)) (pe_cst cS rfl)) pa_nil)))
    (pss_one (ps_ret (pe_lst (pa_cons pe_int pa_nil))))), ?_⟩
  have g0 : atI (natV [z]) 0 = some (.int (z : Int)) := atI_nat (j := 0) rfl
  rw [act_begin] at k
  refine ⟨_, rfl, g, _, _, _, rfl, rfl, hg, g0, _, _, rfl, rfl, _, rfl, ite2 (fun e => ?_) fun e => ?_⟩
  · have e' : ¬ z ≤ 400 := by have := of_decide_eq_true e; omega
    rw [if_neg e'] at k
    refine ⟨by show 1 ≤ sizeLine; decide, fun q hq => ?_⟩
    have s3 := same_upd (o := .lst [V.int (-22)]) hq
    exact k _ q (hst.same s3) (lam.same s3) (keep_same s3) (.inl hq) upd_same
  have e2 : z ≤ 400 := Nat.le_of_not_lt fun q => e (decide_eq_true (by show (400 : Int) < (z : Int); omega))
  rw [if_pos e2] at k
  obtain ⟨b, dx, l0, h, c, ht⟩ := hst.ins
  refine ⟨_, rfl, t, dx, _, rfl, ht, rfl, _, rfl, g, _, _, _, rfl, rfl, hg, g0, _, _, rfl, rfl, t, dx, h, c, b, l0, _, rfl, ht, ⟨by show -200 ≤ (z : Int) - 200; omega, by show (z : Int) - 200 ≤ 200; omega⟩, fun H2 tr2 kp0 => ?_⟩
  have kp : Keep t H H2 := fun b o e hb _ => kp0 b o e hb
  obtain ⟨dx2, h2, c2, y2⟩ := id tr2
  refine ⟨by show 1 ≤ sizeLine; decide, fun q hq => ?_⟩
  have s3 := same_upd (o := .lst [V.int 0]) hq
  exact k _ q (tr2.same s3) ((kp.lam lam ⟨_, _, _, ht⟩).same s3) ((kp.p).trans (keep_same s3)) (q_free kp hq ⟨_, y2.ins⟩) upd_same

theorem scRight : FnScope ["tree", "given"] ["tree", "given"] (defScope sRight) := ⟨rfl, rfl, rfl, by decide +kernel, rfl, by decide +kernel, by decide +kernel⟩
noncomputable def spS (C : Addr) (r : Abs → List Int) : Sp := fun vs H Q _ => ∃ (t g : Addr) (a : Abs), vs = [.ref t, .ref g] ∧ Tr C H t a ∧ ∀ (H' : Hp) (q : Addr), Same H H' → H q = none → H' q = some (.lst (intV (r a))) → Q (.ref q) H'
theorem spS_len {r : Abs → List Int} {vs : List V} {H : Hp} {Q : VK} {E : XK} (h : spS C r vs H Q E) : vs.length = 2 := by
  obtain ⟨t, g, a, rfl, _⟩ := h
  rfl
theorem spC_S {Pt : Addr} {ok : List Nat → Prop} {mk : List Nat → Kv374.Call} {r : Abs → List Int} (h1 : ∀ a args, (Abs.does a (mk args)).1 = a) (h2 : ∀ a args, rowOfAns (Abs.does a (mk args)).2 = r a) (vs : List V) (H : Hp) (Q : VK) (E : XK) (h : spC K C Pt ok mk vs H Q E) : spS C r vs H Q E := by
  obtain ⟨t, g, args, a, rfl, hg, ho, tr0, lam, k⟩ := h
  exact ⟨t, g, a, rfl, tr0, fun H' q s hq hl => k H' q (by rw [h1]; exact tr0.same s) (lam.same s) (keep_same s) (.inl hq) (by rw [h2]; exact hl)⟩
theorem ok_rightS {f : Addr} {fd : FuncData} (F : Fun K "right" "right" sRight f fd) (cR : Cst mg "RIGHT" 0) (GF : Callee P w K mg base 4 "least_far" ["tree", "side"] (spFar C)) : FnOk P w K mg base CX0 5 f fd ["tree", "given"] (spS C fun a => [0, a.least 0]) := by
  refine F.ok scRight (fun vs H Q E h => spS_len h) (fun cdv A outer s H vs Q E hr h => ?_)
  obtain ⟨t, g, a, rfl, tr0, k⟩ := h
  refine ⟨_, pss_one (ps_ret (pe_lst (pa_cons pe_int (pa_cons (pe_callC GF hr rfl (pa_cons (pv 0) (pa_cons (pe_cst cR rfl) pa_nil))) pa_nil)))), ?_⟩
  exact ⟨_, rfl, t, a, 0, rfl, tr0, fun H1 s1 => ⟨by show 2 ≤ sizeLine; decide, fun q hq => k _ q (s1.trans (same_upd hq)) (s1.free hq) upd_same⟩⟩
theorem ok_right {f Pt : Addr} {fd : FuncData} (F : Fun K "right" "right" sRight f fd) (cR : Cst mg "RIGHT" 0) (GF : Callee P w K mg base 4 "least_far" ["tree", "side"] (spFar C)) : FnOk P w K mg base CX0 5 f fd ["tree", "given"] (spC K C Pt (fun _ => True) fun _ => .right) :=
  (ok_rightS F cR GF).imp fun vs H Q E h => spC_S (fun _ _ => rfl) (fun _ _ => rfl) vs H Q E h
theorem scLeft : FnScope ["tree", "given"] ["tree", "given"] (defScope sLeft) := ⟨rfl, rfl, rfl, by decide +kernel, rfl, by decide +kernel, by decide +kernel⟩
theorem ok_left {f Pt : Addr} {fd : FuncData} (F : Fun K "left" "left" sLeft f fd) (cL : Cst mg "LEFT" 1) (GF : Callee P w K mg base 4 "least_far" ["tree", "side"] (spFar C)) : FnOk P w K mg base CX0 5 f fd ["tree", "given"] (spC K C Pt (fun _ => True) fun _ => .left_) := by
  refine F.ok scLeft (fun vs H Q E h => sp_len h) (fun cdv A outer s H vs Q E hr h => ?_)
  obtain ⟨t, g, args, a, rfl, hg, _, tr0, lam, k⟩ := h
  refine ⟨_, pss_one (ps_ret (pe_lst (pa_cons pe_int (pa_cons (pe_un un_neg (pe_callC GF hr rfl (pa_cons (pv 0) (pa_cons (pe_cst cL rfl) pa_nil)))) pa_nil)))), ?_⟩
  exact ⟨_, rfl, t, a, 1, rfl, tr0, fun H1 s1 => ⟨_, rfl, by show 2 ≤ sizeLine; decide, fin_same tr0 lam k s1 rfl rfl⟩⟩
theorem scBoth : FnScope ["tree", "given"] ["tree", "given"] (defScope sBoth) := ⟨rfl, rfl, rfl, by decide +kernel, rfl, by decide +kernel, by decide +kernel⟩
theorem ok_bothS {f : Addr} {fd : FuncData} (F : Fun K "both" "both" sBoth f fd) (cE : Cst mg "EITHER" 2) (GF : Callee P w K mg base 4 "least_far" ["tree", "side"] (spFar C)) : FnOk P w K mg base CX0 5 f fd ["tree", "given"] (spS C fun a => [0, a.least 2]) := by
  refine F.ok scBoth (fun vs H Q E h => spS_len h) (fun cdv A outer s H vs Q E hr h => ?_)
  obtain ⟨t, g, a, rfl, tr0, k⟩ := h
  refine ⟨_, pss_one (ps_ret (pe_lst (pa_cons pe_int (pa_cons (pe_callC GF hr rfl (pa_cons (pv 0) (pa_cons (pe_cst cE rfl) pa_nil))) pa_nil)))), ?_⟩
  exact ⟨_, rfl, t, a, 2, rfl, tr0, fun H1 s1 => ⟨by show 2 ≤ sizeLine; decide, fun q hq => k _ q (s1.trans (same_upd hq)) (s1.free hq) upd_same⟩⟩
theorem ok_both {f Pt : Addr} {fd : FuncData} (F : Fun K "both" "both" sBoth f fd) (cE : Cst mg "EITHER" 2) (GF : Callee P w K mg base 4 "least_far" ["tree", "side"] (spFar C)) : FnOk P w K mg base CX0 5 f fd ["tree", "given"] (spC K C Pt (fun _ => True) fun _ => .both) :=
  (ok_bothS F cE GF).imp fun vs H Q E h => spC_S (fun _ _ => rfl) (fun _ _ => rfl) vs H Q E h

theorem intV_nats (l : List Nat) : intV (Kv374.nats l) = natV l := by
  unfold intV Kv374.nats natV
  rw [List.map_map]
  rfl
theorem scOrder : FnScope ["tree", "given", "parts"] ["tree", "given"] (defScope sOrder) := ⟨rfl, rfl, rfl, by decide +kernel, rfl, by decide +kernel, by decide +kernel⟩
theorem ok_order {f Pt : Addr} {fd : FuncData} (F : Fun K "order" "order" sOrder f fd) (T : Txt K mg C) (c22 : Cst mg "NOT_AS_TOLD" (-22)) (cS : Cst mg "SIDES" 3) (GO : Callee P w K mg base 4 "least_order" ["tree", "side"] (spOrd C)) :
    FnOk P w K mg base CX0 5 f fd ["tree", "given"] (spC K C Pt (fun l => l.length = 1) fun l => .order (l.getD 0 0)) := by
  refine F.ok scOrder (fun vs H Q E h => sp_len h) (fun cdv A outer s H vs Q E hr h => ?_)
  obtain ⟨t, g, args, a, rfl, hg, hlen, tr0, lam, k⟩ := h
  obtain ⟨z, rfl⟩ : ∃ z, args = [z] := by
    match args, hlen with
    | [z], _ => exact ⟨z, rfl⟩
  have nd := scOrder.nd
  refine ⟨_, pss_cons (ps_if (pt_cmpR op_ge (pe_ix ix_list (pv 1) pe_int (fun _ _ => rfl)) (pe_cst cS rfl) (nomark _)) (pss_one (ps_ret (pe_lst (pa_cons (pe_cst c22 rfl) pa_nil)))) pss_nil)
    (pss_cons (ps_set (i := 2) nd rfl (Or.inl rfl) (pe_callC GO hr rfl (pa_cons (pv 0) (pa_cons (pe_ix ix_list (pv 1) pe_int (fun _ _ => rfl)) pa_nil))))
    (pss_one (ps_ret (pe_op op_cat (pe_lst (pa_cons (pe_callB call_len_seq (by rfl) T.len PySem.boot_len (pa_cons (pv 2) pa_nil)) pa_nil)) (pv 2))))), ?_⟩
  have g0 : atI (natV [z]) 0 = some (.int (z : Int)) := atI_nat (j := 0) rfl
  refine ⟨_, rfl, g, _, _, _, rfl, rfl, hg, g0, _, _, rfl, rfl, _, rfl, ite2 (fun e => ?_) fun e => ?_⟩
  · have e' : 2 < z := by have := of_decide_eq_true e; omega
    have ed : a.does (.order z) = (a, Kv374.say (-22)) := if_pos e'
    exact ⟨by show 1 ≤ sizeLine; decide, fin_same tr0 lam k (Same.refl _) (congrArg (·.1) ed) (by rw [show (a.does (.order ([z].getD 0 0))).2 = Kv374.say (-22) from congrArg (·.2) ed]; rfl)⟩
  have e1 : ¬ 2 < z := fun q => e (decide_eq_true (by show (3 : Int) ≤ (z : Int); omega))
  have ed : a.does (.order z) = (a, Kv374.list (a.first z)) := if_neg e1
  refine ⟨_, rfl, _, rfl, g, _, _, _, rfl, rfl, hg, g0, t, a, z, rfl, tr0, fun H1 q s1 hq hl => ?_⟩
  have hlen9 : (a.first z).length ≤ 9 := Nat.le_trans (go_len _ _) tr0.wf.le
  refine ⟨_, rfl, q, _, rfl, .inl (SqL.of hl), by show 1 ≤ sizeLine; decide, fun q1 hq1 => ?_⟩
  have hl1 := same_upd (o := .lst [V.int ((natV (a.first z)).length : Int)]) hq1 _ _ hl
  refine ⟨_, rfl, q1, q, _, _, rfl, rfl, upd_same, hl1, ?_, ?_⟩
  · rw [len_natV]
    exact Nat.le_trans (show 1 + (a.first z).length ≤ 10 by omega) (by decide)
  · refine fin_same tr0 lam k (s1.trans (same_upd hq1)) (congrArg (·.1) ed) ?_
    rw [show (a.does (.order ([z].getD 0 0))).2 = Kv374.list (a.first z) from congrArg (·.2) ed]
    show [V.int ((natV (a.first z)).length : Int)] ++ natV (a.first z) = V.int (((a.first z).length : Nat) : Int) :: intV (Kv374.nats (a.first z))
    rw [len_natV, intV_nats]
    rfl

theorem scTry : FnScope ["tree", "given", "too_soon", "leans"] ["tree", "given"] (defScope sTry) := ⟨rfl, rfl, rfl, by decide +kernel, rfl, by decide +kernel, by decide +kernel⟩
theorem ok_try {f Pt : Addr} {fd : FuncData} (F : Fun K "try_order" "try_order" sTry f fd) (T : Txt K mg C) (c22 : Cst mg "NOT_AS_TOLD" (-22)) (GL : MCallee P w K mg base C 1 "loose_parts" ["self"] (spLoose C)) (GS : Callee P w K mg base 3 "first_too_soon" ["tree", "row"] (spSoon K C))
    (GB : Callee P w K mg base 1 "leans_by" ["tree", "row"] (spLeans K C)) : FnOk P w K mg base CX0 4 f fd ["tree", "given"] (spC K C Pt (fun l => l.length ≤ 40) fun l => .try_ l) := by
  refine F.ok scTry (fun vs H Q E h => sp_len h) (fun cdv A outer s H vs Q E hr h => ?_)
  obtain ⟨t, g, o, a, rfl, hg, hlen, tr0, lam, k⟩ := h
  have nd := scTry.nd
  have hr1 : Room 1 _ := hr.mono (by decide)
  refine ⟨_, pss_cons (ps_if (pt_cmpR (op_neD hr.units) (pe_callB cr_sorted (by rfl) T.sorted bt_sorted (pa_cons (pv 1) pa_nil)) (pe_methC0 GL T.cl hr1 (pv 0)) (nomark _)) (pss_one (ps_ret (pe_lst (pa_cons (pe_cst c22 rfl) pa_nil)))) pss_nil)
    (pss_cons (ps_set (i := 2) nd rfl (Or.inl rfl) (pe_callC GS hr rfl (pa_cons (pv 0) (pa_cons (pv 1) pa_nil))))
    (pss_cons (ps_if (pt_cmpR op_gt (pv 2) pe_int (nomark _)) (pss_one (ps_ret (pe_lst (pa_cons pe_int (pa_cons (pv 2) pa_nil))))) pss_nil)
    (pss_cons (ps_set (i := 3) nd rfl (Or.inl rfl) (pe_callC GB hr1 rfl (pa_cons (pv 0) (pa_cons (pv 1) pa_nil))))
    (pss_one (ps_ret (pe_lst (pa_cons pe_int (pa_cons (pe_callB (cr_max rfl) (by rfl) T.max bt_max (pa_cons (pv 3) pa_nil)) (pa_cons (pe_callB (cr_min rfl) (by rfl) T.min bt_min (pa_cons (pv 3) pa_nil)) pa_nil))))))))), ?_⟩
  obtain ⟨dx, h, c, y⟩ := id tr0
  have hg' : SqL K H g ((nI o).map V.int) := by rw [← natV_nI]; exact hg
  refine ⟨_, rfl, g, nI o, rfl, hg', by unfold nI; rw [List.length_map]; omega, fun ns' p1 hperm hpw hp1 => ?_⟩
  have s1 := same_upd (o := .lst (ns'.map V.int)) hp1
  refine ⟨_, rfl, t, dx, _, rfl, s1 _ _ y.ins, rfl, t, a, rfl, tr0.same s1, fun H2 q2 s2 hq2 hl2 => ?_⟩
  have s12 := s1.trans s2
  have hl2' : SqL K H2 q2 ((nI a.all_).map V.int) := by rw [← natV_nI]; exact SqL.of hl2
  refine ⟨datI ns', datI (nI a.all_), dp_ints (SqL.of (s2 _ _ upd_same)), dp_ints hl2', shaped_ints _, shaped_ints _, _, rfl, ?_⟩
  rw [eqv_ints]
  have hok : ns' = nI a.all_ ↔ a.okOrder o = true := by
    rw [Lk.ok_perm]
    constructor
    · intro e
      rw [e] at hperm
      exact (nI_perm.mp hperm).symm
    · intro e
      exact Lk.perm_sorted_eq (hperm.trans (nI_perm.mpr e)) hpw (nI_sorted a)
  by_cases hop : a.okOrder o = true
  · rw [decide_eq_true (hok.mpr hop)]
    refine iteF ?_
    have hperm2 := Lk.ok_perm.mp hop
    refine ⟨_, rfl, _, rfl, t, g, a, o, rfl, tr0.same s12, s12.seq hg, hperm2, fun H3 s3 => ?_⟩
    have s13 := s12.trans s3
    refine ⟨_, rfl, _, _, rfl, rfl, _, rfl, ?_⟩
    cases he : a.early o with
    | some i =>
      have hi : 0 < i := by
        have := List.mem_of_find?_eq_some (show o.find? _ = some i from he)
        exact (Lk.mem_all.mp (hperm2.mem_iff.mp this)).1
      rw [show decide ((0 : Int) < (((some i).getD 0 : Nat) : Int)) = true from decide_eq_true (by show (0 : Int) < (i : Int); omega)]
      refine iteT ?_
      have ed : a.does (.try_ o) = (a, ⟨1, [(i : Int)]⟩) := by
        show (if a.okOrder o = false then _ else _) = _
        rw [hop, if_neg (by decide), he]
      exact ⟨_, rfl, by show 2 ≤ sizeLine; decide, fin_same tr0 lam k s13 (congrArg (·.1) ed) (by rw [show (a.does (.try_ o)).2 = _ from congrArg (·.2) ed]; rfl)⟩
    | none =>
      refine iteF ?_
      have ed : a.does (.try_ o) = (a, ⟨0, [Kv374.greatest (a.leans o), Kv374.smallest (a.leans o)]⟩) := by
        show (if a.okOrder o = false then _ else _) = _
        rw [hop, if_neg (by decide), he]
      refine ⟨_, rfl, _, rfl, t, g, a, o, rfl, tr0.same s13, s13.seq hg, fun i hi => (Lk.mem_all.mp (hperm2.mem_iff.mp hi)).2, by omega, fun H4 q4 s4 hq4 hl4 => ?_⟩
      have hpos : 0 < (a.leans o).length := by rw [leans_len]; omega
      refine ⟨_, rfl, q4, a.leans o, rfl, SqL.of hl4, hpos, fun m1 m1a m1b => ⟨_, rfl, q4, a.leans o, rfl, SqL.of hl4, hpos, fun m2 m2a m2b => ⟨by show 3 ≤ sizeLine; decide, fin_same tr0 lam k (s13.trans s4) (congrArg (·.1) ed) ?_⟩⟩⟩
      rw [show (a.does (.try_ o)).2 = _ from congrArg (·.2) ed]
      show [V.int 0, V.int m1, V.int m2] = [V.int 0, V.int (Kv374.greatest (a.leans o)), V.int (Kv374.smallest (a.leans o))]
      rw [Lk.greatest_eq m1a m1b, Lk.smallest_eq m2a m2b]
  · have hop' : a.okOrder o = false := by simpa using hop
    rw [decide_eq_false fun e => hop (hok.mp e)]
    refine iteT ?_
    have ed : a.does (.try_ o) = (a, Kv374.say (-22)) := if_pos hop'
    exact ⟨by show 1 ≤ sizeLine; decide, fin_same tr0 lam k s12 (congrArg (·.1) ed) (by rw [show (a.does (.try_ o)).2 = _ from congrArg (·.2) ed]; rfl)⟩
end
end Le

end
section
set_option Elab.async false
set_option linter.all false
set_option maxRecDepth 100000
set_option maxHeartbeats 4000000
namespace Le
open PySem PySem.Spec PyProof.Rows L2
open Kv374 (Abs Part has add far)
theorem jobs_take {l : List KRow} {j : Nat} {r : KRow} (h : l[j]? = some r) : Lk.jobsOf (l.take (j + 1)) = Lk.jobsOf (l.take j) ++ r.jobs := by
  rw [take_snoc h, Lk.jobsOf_append]
  congr 1
  simp [Lk.jobsOf]
theorem natV_append (l m : List Nat) : natV l ++ natV m = natV (l ++ m) := by
  unfold natV
  rw [List.map_append]
theorem RowsP.get {H : Hp} : ∀ {as : List Addr} {rs : List KRow} {j : Nat} {q : Addr}, RowsP H as rs → as[j]? = some q → ∃ r, rs[j]? = some r ∧ H q = some (.lst (natV r.jobs))
  | _, _, _, _, .nil, h => by simp at h
  | _, _, 0, q, .cons x r, h => by
    have e := Option.some.inj h
    subst e
    exact ⟨_, rfl, x⟩
  | _, _, j + 1, q, .cons x r, h => by
    obtain ⟨r', h1, h2⟩ := RowsP.get r (show _ = some q from h)
    exact ⟨r', h1, h2⟩
theorem told_fine {a : Abs} (W : Lk.WF a) : ∀ r ∈ a.told, Lk.Fine a r := by
  rw [Lk.told_eq W]
  exact Lk.B_fine W W.pos
theorem told_jobs {a : Abs} (W : Lk.WF a) : (Lk.jobsOf a.told).length ≤ 256 := by
  rw [Lk.told_eq W]
  exact Lk.B_jobs W W.pos
theorem told_len {a : Abs} (W : Lk.WF a) : a.told.length ≤ 256 := by
  rw [Lk.told_eq W]
  exact Lk.B_len W W.pos
section
variable {P : Program} {w : World} {K : PySem.W.Frag} {mg : Str → Option Value} {base : Heap} {C : Addr}
theorem scTold : FnScope ["tree", "given", "parts", "row"] ["tree", "given"] (defScope sTold) := ⟨rfl, rfl, rfl, by decide +kernel, rfl, by decide +kernel, by decide +kernel⟩
theorem ok_told {f Pt : Addr} {fd : FuncData} (F : Fun K "told" "told" sTold f fd) (T : Txt K mg C) (GR : Callee P w K mg base 7 "rows_of_tree" ["tree"] (spRows C Pt)) (GB : Callee P w K mg base 1 "leans_by" ["tree", "row"] (spLeans K C)) :
    FnOk P w K mg base CX0 8 f fd ["tree", "given"] (spC K C Pt (fun _ => True) fun _ => .told) := by
  refine F.ok scTold (fun vs H Q E h => sp_len h) (fun cdv A outer s H vs Q E hr h => ?_)
  obtain ⟨t, g, args, a, rfl, hg, _, tr0, lam, k⟩ := h
  have nd := scTold.nd
  refine ⟨_, pss_cons (ps_set (i := 2) nd rfl (Or.inl rfl) (pe_lst pa_nil))
    (pss_cons (ps_for PassesOwn.never rfl (pi_list (pe_callC GR hr rfl (pa_cons (pv 0) pa_nil))) (pg_name (i := 3) nd rfl (Or.inl rfl))
      (pss_one (ps_expr (pe_bm PySem.F.plainAttrs_list PySem.F.slot_list_extend PySem.F.type_list_extend mt_extend (pv 2) (pa_cons (pv 3) pa_nil)))))
    (pss_one (ps_ret (pe_op op_cat (pe_lst (pa_cons pe_int (pa_cons (pe_callB (cr_max rfl) (by rfl) T.max bt_max (pa_cons (pe_callC GB (hr.mono (by decide)) rfl (pa_cons (pv 0) (pa_cons (pv 2) pa_nil))) pa_nil)) pa_nil))) (pv 2))))), ?_⟩
  have W := tr0.wf
  refine ⟨Nat.zero_le _, fun L hL => ?_⟩
  have s1 : Same H (upd H L (.lst [])) := same_upd hL
  refine ⟨_, rfl, t, a, rfl, tr0.same s1, lam.same s1, fun H2 q s2 la2 hq ⟨as, hq2, hrows⟩ => ⟨q, rfl, ⟨_, SqL.of hq2⟩, ?_⟩⟩
  obtain ⟨ps1, hP1⟩ := lam_tbl (lam.same s1)
  have hL2 : H2 L = some (.lst []) := lst_p upd_same s2 hP1
  have nqL : q ≠ L := fun z => by
    rw [z, upd_same] at hq
    cases hq
  have sp2 : SameP Pt H H2 := s1.p.trans s2
  have fine := told_fine W
  have hjl := told_jobs W
  refine for_list (K := K) (a := q) (xs := as.map V.ref) (fun j σ H' => ∃ v3 : Option V, σ = [some (.ref t), some (.ref g), some (.ref L), v3] ∧ (∀ b o, H2 b = some o → b ≠ L → H' b = some o) ∧ H' L = some (.lst (natV (Lk.jobsOf (a.told.take j)))))
    ⟨none, rfl, fun b o e _ => e, hL2⟩ (fun j σ H' _ ⟨_, _, kp, _⟩ => SqL.of (kp _ _ hq2 nqL)) ?_ ?_
  · rintro j x σ H3 hj ⟨v3, rfl, kp, hL3⟩
    obtain ⟨p, hp, rfl⟩ : ∃ p, as[j]? = some p ∧ x = V.ref p := by
      rw [List.getElem?_map] at hj
      cases e : as[j]? with
      | none => rw [e] at hj; cases hj
      | some p => rw [e] at hj; exact ⟨p, rfl, (Option.some.inj hj).symm⟩
    obtain ⟨r, hr', hpr⟩ := hrows.get hp
    have hfr := fine r (List.mem_of_getElem? hr')
    have npL : p ≠ L := fun z => by
      rw [z, hL2] at hpr
      have e := Option.some.inj hpr
      injection e with e
      have e2 := congrArg List.length e
      rw [len_natV] at e2
      exact hfr.2.1 (List.length_eq_zero_iff.mp e2.symm)
    have ej := jobs_take hr'
    have hle : (Lk.jobsOf (a.told.take j)).length + r.jobs.length ≤ 256 := by
      have h1 : (Lk.jobsOf (a.told.take (j + 1))).length ≤ (Lk.jobsOf a.told).length := by
        have e := List.take_append_drop (j + 1) a.told
        have e2 := congrArg (fun l => (Lk.jobsOf l).length) e
        simp only [Lk.jobsOf_append, List.length_append] at e2
        omega
      rw [ej, List.length_append] at h1
      omega
    refine ⟨_, rfl, .inl ⟨rfl, _, SqL.of hL3⟩, _, rfl, L, p, _, _, rfl, rfl, hL3, kp _ _ hpr npL, ?_, ?_⟩
    · rw [len_natV, len_natV]
      exact Nat.le_trans hle (by decide)
    · refine ⟨_, rfl, fun b o e hb => ?_, ?_⟩
      · rw [upd_ne hb]
        exact kp b o e hb
      · rw [upd_same, natV_append, ej]
  · rintro σ H3 ⟨v3, rfl, kp, hL3⟩
    have hal : as.length = a.told.length := hrows.len
    rw [List.length_map, hal, List.take_length] at hL3
    have s3 : SameP Pt H H3 := fun b o e hb => kp b o (sp2 b o e hb) (ne_of_none e hL)
    have hPL : Pt ≠ L := fun z => by
      rw [z, upd_same] at hP1
      cases hP1
    have la3 : Lam rfbPos rfbQual Pt H3 := by
      rcases la2 with z | ⟨c', z1, z2⟩
      · exact .inl (kp _ _ z hPL)
      · refine .inr ⟨c', kp _ _ z1 hPL, kp _ _ z2 fun z => ?_⟩
        rw [z, hL2] at z2
        cases z2
    obtain ⟨ps0, hP0⟩ := lam_tbl lam
    have tr3 := tr_p tr0 s3 hP0
    have hto : Lk.jobsOf a.told = a.toldOrder := rfl
    rw [hto] at hL3 hjl
    refine ⟨_, rfl, _, rfl, t, L, a, a.toldOrder, rfl, tr3, SqL.of hL3, fun i hi => ?_, by omega, fun H4 q4 s4 hq4 hl4 => ?_⟩
    · obtain ⟨l, hl, hil⟩ := List.mem_flatten.mp hi
      obtain ⟨r, hr', rfl⟩ := List.mem_map.mp hl
      exact ((fine r hr').2.2 i hil).2
    refine ⟨q4, a.leans a.toldOrder, rfl, SqL.of hl4, by rw [leans_len]; omega, fun m m1 m2 => ⟨by show 2 ≤ sizeLine; decide, fun q5 hq5 => ?_⟩⟩
    have s5 := same_upd (o := .lst [V.int 0, V.int m]) hq5
    refine ⟨_, rfl, q5, L, _, _, rfl, rfl, upd_same, s5 _ _ (s4 _ _ hL3), ?_, fun q6 hq6 => ?_⟩
    · rw [len_natV]
      exact Nat.le_trans (show 2 + a.toldOrder.length ≤ 300 by omega) (by decide)
    have s36 : Same H3 (upd (upd H4 q5 (.lst [V.int 0, V.int m])) q6 (.lst ([V.int 0, V.int m] ++ natV a.toldOrder))) := (s4.trans s5).trans (same_upd hq6)
    obtain ⟨ps3, hP3⟩ := lam_tbl la3
    refine k _ q6 (tr3.same s36) (la3.same s36) (keep_sameP (s3.trans s36.p)) (.inl (SameP.freeP s3 hP3 ((s4.trans s5).free hq6))) ?_
    rw [upd_same]
    show _ = some (HO.lst (V.int 0 :: V.int (a.farthest 0 a.toldOrder) :: intV (Kv374.nats a.toldOrder)))
    rw [intV_nats]
    have e : a.farthest 0 a.toldOrder = m := by
      unfold Abs.farthest
      rw [Lk.far0, Lk.greatest_eq m1 m2]
    rw [e]
    rfl
end
end Le

end
section
set_option Elab.async false
set_option linter.all false
set_option maxRecDepth 100000
set_option maxHeartbeats 4000000
namespace Le
open PySem PySem.Spec PyProof.Rows L2
open Kv374 (Abs Part has add far)
noncomputable def rowNums (l : List KRow) : List Int := l.flatMap fun x => [(x.jobs.length : Int), x.peak, x.total]
theorem rowNums_snoc {l : List KRow} {j : Nat} {r : KRow} (h : l[j]? = some r) : rowNums (l.take (j + 1)) = rowNums (l.take j) ++ [(r.jobs.length : Int), r.peak, r.total] := by
  unfold rowNums
  rw [take_snoc h, List.flatMap_append]
  simp
theorem rowNums_len (l : List KRow) : (rowNums l).length = 3 * l.length := by
  unfold rowNums
  induction l with
  | nil => rfl
  | cons x l ih =>
    rw [List.flatMap_cons, List.length_append, ih]
    simp
    omega
section
variable {P : Program} {w : World} {K : PySem.W.Frag} {mg : Str → Option Value} {base : Heap} {C : Addr}
theorem scRowsC : FnScope ["tree", "given", "found", "numbers", "row"] ["tree", "given"] (defScope sRowsC) := ⟨rfl, rfl, rfl, by decide +kernel, rfl, by decide +kernel, by decide +kernel⟩
theorem ok_rowsC {f Pt : Addr} {fd : FuncData} (F : Fun K "rows" "rows" sRowsC f fd) (T : Txt K mg C) (GR : Callee P w K mg base 7 "rows_of_tree" ["tree"] (spRows C Pt)) (GP : Callee P w K mg base 1 "peak" ["changes", "row"] (spPeak K)) (GT : Callee P w K mg base 1 "total" ["changes", "row"] (spTotal K)) :
    FnOk P w K mg base CX0 8 f fd ["tree", "given"] (spC K C Pt (fun _ => True) fun _ => .rows) := by
  refine F.ok scRowsC (fun vs H Q E h => sp_len h) (fun cdv A outer s H vs Q E hr h => ?_)
  obtain ⟨t, g, args, a, rfl, hg, _, tr0, lam, k⟩ := h
  have nd := scRowsC.nd
  have hr1 : Room 1 _ := hr.mono (by decide)
  refine ⟨_, pss_cons (ps_set (i := 2) nd rfl (Or.inl rfl) (pe_callC GR hr rfl (pa_cons (pv 0) pa_nil)))
    (pss_cons (ps_set (i := 3) nd rfl (Or.inl rfl) (pe_lst (pa_cons (pe_callB call_len_seq (by rfl) T.len PySem.boot_len (pa_cons (pv 2) pa_nil)) pa_nil)))
    (pss_cons (ps_for PassesOwn.never rfl (pi_list (pv 2)) (pg_name (i := 4) nd rfl (Or.inl rfl))
      (pss_one (ps_expr (pe_bm PySem.F.plainAttrs_list PySem.F.slot_list_extend PySem.F.type_list_extend mt_extend (pv 3) (pa_cons (pe_lst (pa_cons (pe_callB call_len_seq (by rfl) T.len PySem.boot_len (pa_cons (pv 4) pa_nil))
        (pa_cons (pe_callC GP hr1 rfl (pa_cons (pe_fld (pv 0) rfl) (pa_cons (pv 4) pa_nil))) (pa_cons (pe_callC GT hr1 rfl (pa_cons (pe_fld (pv 0) rfl) (pa_cons (pv 4) pa_nil))) pa_nil)))) pa_nil)))))
    (pss_one (ps_ret (pv 3))))), ?_⟩
  obtain ⟨dx, h, c, y⟩ := id tr0
  have W := y.wf
  have fine := told_fine W
  have hjl := told_jobs W
  have htl := told_len W
  refine ⟨_, rfl, t, a, rfl, tr0, lam, fun H2 q s2 la2 hq ⟨as, hq2, hrows⟩ => ?_⟩
  obtain ⟨ps0, hP0⟩ := lam_tbl lam
  obtain ⟨ps2, hP2⟩ := lam_tbl la2
  have tr2 := tr_p tr0 s2 hP0
  obtain ⟨dx2, h2, c2, y2⟩ := id tr2
  have hal : as.length = a.told.length := hrows.len
  refine ⟨_, rfl, q, _, rfl, .inl (SqL.of hq2), by show 1 ≤ sizeLine; decide, fun L hL => ?_⟩
  rw [List.length_map, hal]
  have s3 : Same H2 (upd H2 L (.lst [V.int (a.told.length : Int)])) := same_upd hL
  refine ⟨_, rfl, q, rfl, ⟨_, s3.seq (SqL.of hq2)⟩, for_list (K := K) (a := q) (xs := as.map V.ref) (fun j σ H' => ∃ v4 : Option V, σ = [some (.ref t), some (.ref g), some (.ref q), some (.ref L), v4] ∧ Same H2 H' ∧ H' L = some (.lst (intV ((a.told.length : Int) :: rowNums (a.told.take j)))))
    ⟨none, rfl, s3, upd_same⟩ (fun j σ H' _ ⟨_, _, s', _⟩ => SqL.of (s' _ _ hq2)) ?_ ?_⟩
  · rintro j x σ H4 hj ⟨v4, rfl, s4, hL4⟩
    obtain ⟨p, hp, rfl⟩ : ∃ p, as[j]? = some p ∧ x = V.ref p := by
      rw [List.getElem?_map] at hj
      cases e : as[j]? with
      | none => rw [e] at hj; cases hj
      | some p => rw [e] at hj; exact ⟨p, rfl, (Option.some.inj hj).symm⟩
    obtain ⟨r, hr', hpr⟩ := hrows.get hp
    have hfr := fine r (List.mem_of_getElem? hr')
    have hjr : r.jobs.length ≤ 256 := Nat.le_trans (Lk.jobs_mem_le (List.mem_of_getElem? hr')) hjl
    have hp4 := s4 _ _ hpr
    have ri : RowIn K H4 c2 p a r.jobs := ⟨SqL.of (s4 _ _ y2.ch), SqL.of hp4, hfr.2.1, fun i hi => (hfr.2.2 i hi).2, by omega⟩
    refine ⟨_, rfl, .inl ⟨rfl, _, SqL.of hL4⟩, _, rfl, p, _, rfl, .inl (SqL.of hp4), _, rfl, t, C, dx2, _, _, rfl, s4 _ _ y2.ins, T.cl, T.nC, tf_chg, _, rfl, c2, p, a, r.jobs, rfl, ri, fun H5 s5 => ?_⟩
    refine ⟨_, rfl, t, C, dx2, _, _, rfl, s5 _ _ (s4 _ _ y2.ins), T.cl, T.nC, tf_chg, _, rfl, c2, p, a, r.jobs, rfl, ri.same s5, fun H6 s6 => ⟨by show 3 ≤ sizeLine; decide, fun q7 hq7 => ?_⟩⟩
    have s57 := (s5.trans s6).trans (same_upd (o := .lst [V.int ((natV r.jobs).length : Int), V.int (Lk.pk (Lk.chs a r.jobs)), V.int (Lk.chs a r.jobs).sum]) hq7)
    refine ⟨L, q7, _, _, rfl, rfl, s57 _ _ hL4, upd_same, ?_, ?_⟩
    · rw [len_intV, List.length_cons, rowNums_len, List.length_take]
      exact Nat.le_trans (show 3 * min j a.told.length + 1 + 3 ≤ 1000 by omega) (by decide)
    · refine ⟨_, rfl, Same.updN (s4.trans s57) hL, ?_⟩
      rw [upd_same, rowNums_snoc hr', len_natV]
      have e1 : r.peak = Lk.pk (Lk.chs a r.jobs) := congrArg Kv374.Row.peak hfr.1
      have e2 : r.total = (Lk.chs a r.jobs).sum := congrArg Kv374.Row.total hfr.1
      rw [e1, e2]
      unfold intV
      rw [← List.cons_append, List.map_append]
      rfl
  · rintro σ H4 ⟨v4, rfl, s4, hL4⟩
    rw [List.length_map, hal, List.take_length] at hL4
    exact ⟨_, rfl, k H4 L (tr2.same s4) (la2.same s4) ((keep_sameP s2).trans (keep_same s4)) (.inl (SameP.freeP s2 hP2 hL)) hL4⟩
end
end Le

end
section
set_option Elab.async false
set_option linter.all false
set_option maxRecDepth 100000
set_option maxHeartbeats 4000000
namespace Le
open PySem PySem.Spec PyProof.Rows L2
open Kv374 (Abs Part has add far)
section
variable {P : Program} {w : World} {K : PySem.W.Frag} {mg : Str → Option Value} {base : Heap} {C : Addr}
theorem scWays : FnScope ["tree", "given"] ["tree", "given"] (defScope sWays) := ⟨rfl, rfl, rfl, by decide +kernel, rfl, by decide +kernel, by decide +kernel⟩
theorem ok_ways {f Pt : Addr} {fd : FuncData} (F : Fun K "ways" "ways" sWays f fd) (GN : Callee P w K mg base 4 "count_orders" ["tree"] (spCnt C)) : FnOk P w K mg base CX0 5 f fd ["tree", "given"] (spC K C Pt (fun _ => True) fun _ => .ways) := by
  refine F.ok scWays (fun vs H Q E h => sp_len h) (fun cdv A outer s H vs Q E hr h => ?_)
  obtain ⟨t, g, args, a, rfl, hg, _, tr0, lam, k⟩ := h
  refine ⟨_, pss_one (ps_ret (pe_lst (pa_cons (pe_callC GN hr rfl (pa_cons (pv 0) pa_nil)) pa_nil))), ?_⟩
  exact ⟨_, rfl, t, a, rfl, tr0, fun H1 s1 => ⟨by show 1 ≤ sizeLine; decide, fin_same tr0 lam k s1 rfl rfl⟩⟩

theorem list_V (l : List Nat) : [V.int ((natV l).length : Int)] ++ natV l = intV (rowOfAns (Kv374.list l)) := by
  show [V.int ((natV l).length : Int)] ++ natV l = V.int ((l.length : Nat) : Int) :: intV (Kv374.nats l)
  rw [len_natV, intV_nats]
  rfl
theorem scMayC : FnScope ["tree", "given", "parts"] ["tree", "given"] (defScope sMayC) := ⟨rfl, rfl, rfl, by decide +kernel, rfl, by decide +kernel, by decide +kernel⟩
theorem ok_mayC {f Pt : Addr} {fd : FuncData} (F : Fun K "may" "may" sMayC f fd) (T : Txt K mg C) (c22 : Cst mg "NOT_AS_TOLD" (-22)) (GN : Callee P w K mg base 4 "next_behind" ["tree", "row"] (spNext K C)) : FnOk P w K mg base CX0 5 f fd ["tree", "given"] (spC K C Pt (fun l => l.length ≤ 40) fun l => .may l) := by
  refine F.ok scMayC (fun vs H Q E h => sp_len h) (fun cdv A outer s H vs Q E hr h => ?_)
  obtain ⟨t, g, o, a, rfl, hg, _, tr0, lam, k⟩ := h
  have nd := scMayC.nd
  refine ⟨_, pss_cons (ps_set (i := 2) nd rfl (Or.inl rfl) (pe_callC GN hr rfl (pa_cons (pv 0) (pa_cons (pv 1) pa_nil))))
    (pss_cons (ps_if (pt_cmp (pc_isN (pv 2))) (pss_one (ps_ret (pe_lst (pa_cons (pe_cst c22 rfl) pa_nil)))) pss_nil)
    (pss_one (ps_ret (pe_op op_cat (pe_lst (pa_cons (pe_callB call_len_seq (by rfl) T.len PySem.boot_len (pa_cons (pv 2) pa_nil)) pa_nil)) (pv 2))))), ?_⟩
  refine ⟨_, rfl, _, rfl, t, g, a, o, rfl, tr0, hg, fun hno H1 s1 => ?_, fun hyes H1 q s1 hq hl => ?_⟩
  · have ed : a.does (.may o) = (a, Kv374.say (-22)) := if_pos hno
    refine ⟨_, rfl, _, rfl, ite2 (fun _ => ?_) fun e => absurd (decide_eq_true rfl) e⟩
    exact ⟨by show 1 ≤ sizeLine; decide, fin_same tr0 lam k s1 (congrArg (·.1) ed) (by rw [show (a.does (.may o)).2 = Kv374.say (-22) from congrArg (·.2) ed]; rfl)⟩
  · have ed : a.does (.may o) = (a, Kv374.list (a.next (o.foldl add 0))) := if_neg (by rw [hyes]; decide)
    refine ⟨_, rfl, _, rfl, ite2 (fun e => ?_) fun e => ?_⟩
    · have := of_decide_eq_true e
      cases this
    have hlen9 := next_len tr0.wf (o.foldl add 0)
    refine ⟨_, rfl, q, _, rfl, .inl (SqL.of hl), by show 1 ≤ sizeLine; decide, fun q1 hq1 => ?_⟩
    have hl1 := same_upd (o := .lst [V.int ((natV (a.next (o.foldl add 0))).length : Int)]) hq1 _ _ hl
    refine ⟨_, rfl, q1, q, _, _, rfl, rfl, upd_same, hl1, ?_, fin_same tr0 lam k (s1.trans (same_upd hq1)) (congrArg (·.1) ed) ?_⟩
    · rw [len_natV]
      exact Nat.le_trans (show 1 + (a.next (o.foldl add 0)).length ≤ 10 by omega) (by decide)
    · rw [show (a.does (.may o)).2 = Kv374.list (a.next (o.foldl add 0)) from congrArg (·.2) ed]
      exact list_V _

theorem scFirst : FnScope ["tree", "given"] ["tree", "given"] (defScope sFirst) := ⟨rfl, rfl, rfl, by decide +kernel, rfl, by decide +kernel, by decide +kernel⟩
theorem ok_first {f Pt : Addr} {fd : FuncData} (F : Fun K "first" "first" sFirst f fd) (T : Txt K mg C) (c2 : Cst mg "NO_SUCH_PART" (-2)) (c33 : Cst mg "SOMETHING_HANGS_ON_IT" (-33)) (cR : Cst mg "RIGHT" 0) (GN : Callee P w K mg base 2 "is_no_bough" ["tree", "part"] (spNob C))
    (GO : MCallee P w K mg base C 2 "boughs_on" ["self", "part"] (spOn C)) (GB : Callee P w K mg base 4 "least_beginning_with" ["tree", "part", "side"] (spBeg C)) : FnOk P w K mg base CX0 5 f fd ["tree", "given"] (spC K C Pt (fun l => l.length = 1) fun l => .first (l.getD 0 0)) := by
  refine F.ok scFirst (fun vs H Q E h => sp_len h) (fun cdv A outer s H vs Q E hr h => ?_)
  obtain ⟨t, g, args, a, rfl, hg, hlen, tr0, lam, k⟩ := h
  obtain ⟨i, rfl⟩ : ∃ z, args = [z] := by
    match args, hlen with
    | [z], _ => exact ⟨z, rfl⟩
  have hr2 : Room 2 _ := hr.mono (by decide)
  refine ⟨_, pss_cons (ps_if (pt_val (pe_callC GN hr2 rfl (pa_cons (pv 0) (pa_cons (pe_ix ix_list (pv 1) pe_int (fun _ _ => rfl)) pa_nil)))) (pss_one (ps_ret (pe_lst (pa_cons (pe_cst c2 rfl) pa_nil)))) pss_nil)
    (pss_cons (ps_if (pt_cmpR op_gt (pe_callB call_len_seq (by rfl) T.len PySem.boot_len (pa_cons (pe_methC GO T.cl hr2 (pv 0) (pa_cons (pe_ix ix_list (pv 1) pe_int (fun _ _ => rfl)) pa_nil)) pa_nil)) pe_int (nomark _)) (pss_one (ps_ret (pe_lst (pa_cons (pe_cst c33 rfl) pa_nil)))) pss_nil)
    (pss_one (ps_ret (pe_lst (pa_cons pe_int (pa_cons (pe_callC GB hr rfl (pa_cons (pv 0) (pa_cons (pe_ix ix_list (pv 1) pe_int (fun _ _ => rfl)) (pa_cons (pe_cst cR rfl) pa_nil)))) pa_nil)))))), ?_⟩
  obtain ⟨dx, h, c, y⟩ := id tr0
  have g0 : atI (natV [i]) 0 = some (.int (i : Int)) := atI_nat (j := 0) rfl
  refine ⟨_, rfl, _, rfl, g, _, _, _, rfl, rfl, hg, g0, t, a, i, rfl, tr0, _, rfl, ite2 (fun e => ?_) fun e => ?_⟩
  · have ed : a.does (.first i) = (a, Kv374.say (-2)) := if_pos (of_decide_eq_true e)
    exact ⟨by show 1 ≤ sizeLine; decide, fin_same tr0 lam k (Same.refl _) (congrArg (·.1) ed) (by rw [show (a.does (.first ([i].getD 0 0))).2 = Kv374.say (-2) from congrArg (·.2) ed]; rfl)⟩
  have hno : ¬ (i = 0 ∨ a.n ≤ i) := fun q => e (decide_eq_true q)
  have i0 : 0 < i := by omega
  have i1 : i < a.n := by omega
  have hnx := Lk.next_zero i0 i1
  refine ⟨_, rfl, t, dx, _, rfl, y.ins, rfl, _, rfl, g, _, _, _, rfl, rfl, hg, g0, t, a, i, rfl, tr0, fun H1 q s1 hq hl => ?_⟩
  refine ⟨q, _, rfl, .inl (SqL.of hl), _, _, rfl, rfl, _, rfl, ?_⟩
  rw [len_natV]
  refine ite2 (fun e => ?_) fun e => ?_
  · have e' : 0 < (a.boughs i).length := by have := of_decide_eq_true e; omega
    have hc : (a.next 0).contains i = false := by
      rw [hnx]
      cases eb : a.boughs i with
      | nil => rw [eb] at e'; exact absurd e' (by decide)
      | cons x l => rfl
    have ed : a.does (.first i) = (a, Kv374.say (-33)) := by
      show (if i = 0 ∨ a.n ≤ i then _ else if (a.next 0).contains i = false then _ else _) = _
      rw [if_neg hno, if_pos hc]
    exact ⟨by show 1 ≤ sizeLine; decide, fin_same tr0 lam k s1 (congrArg (·.1) ed) (by rw [show (a.does (.first ([i].getD 0 0))).2 = Kv374.say (-33) from congrArg (·.2) ed]; rfl)⟩
  · have e' : (a.boughs i).length = 0 := by
      have : ¬ (0 : Int) < ((a.boughs i).length : Int) := fun q => e (decide_eq_true q)
      omega
    have hc : (a.next 0).contains i = true := by rw [hnx, List.length_eq_zero_iff.mp e']; rfl
    have ed : a.does (.first i) = (a, ⟨0, [max a.lean ((a.rows 0).getD (add 0 i) 0)]⟩) := by
      show (if i = 0 ∨ a.n ≤ i then _ else if (a.next 0).contains i = false then _ else _) = _
      rw [if_neg hno, hc, if_neg (by decide)]
    refine ⟨_, rfl, _, rfl, g, _, _, _, rfl, rfl, s1.seq hg, g0, t, a, i, 0, rfl, tr0.same s1, ⟨i0, i1⟩, fun H2 s2 => ⟨by show 2 ≤ sizeLine; decide, fin_same tr0 lam k (s1.trans s2) (congrArg (·.1) ed) (by rw [show (a.does (.first ([i].getD 0 0))).2 = _ from congrArg (·.2) ed]; rfl)⟩⟩

theorem scKeeps : FnScope ["tree", "given"] ["tree", "given"] (defScope sKeeps) := ⟨rfl, rfl, rfl, by decide +kernel, rfl, by decide +kernel, by decide +kernel⟩
theorem ok_keeps {f Pt : Addr} {fd : FuncData} (F : Fun K "keeps" "keeps" sKeeps f fd) (cE : Cst mg "EITHER" 2) (GF : Callee P w K mg base 4 "least_far" ["tree", "side"] (spFar C)) : FnOk P w K mg base CX0 5 f fd ["tree", "given"] (spC K C Pt (fun l => l.length = 1) fun l => .keeps (l.getD 0 0)) := by
  refine F.ok scKeeps (fun vs H Q E h => sp_len h) (fun cdv A outer s H vs Q E hr h => ?_)
  obtain ⟨t, g, args, a, rfl, hg, hlen, tr0, lam, k⟩ := h
  obtain ⟨z, rfl⟩ : ∃ z, args = [z] := by
    match args, hlen with
    | [z], _ => exact ⟨z, rfl⟩
  refine ⟨_, pss_one (ps_ret (pe_lst (pa_cons (pe_ifExp (pt_cmpR op_le (pe_callC GF hr rfl (pa_cons (pv 0) (pa_cons (pe_cst cE rfl) pa_nil))) (pe_ix ix_list (pv 1) pe_int (fun _ _ => rfl)) (nomark _)) pe_int pe_int) pa_nil))), ?_⟩
  have g0 : atI (natV [z]) 0 = some (.int (z : Int)) := atI_nat (j := 0) rfl
  refine ⟨_, rfl, t, a, 2, rfl, tr0, fun H1 s1 => ⟨_, rfl, g, _, _, _, rfl, rfl, s1.seq hg, g0, _, _, rfl, rfl, _, rfl, ite2 (fun e => ?_) fun e => ?_⟩⟩
  · refine ⟨by show 1 ≤ sizeLine; decide, fin_same tr0 lam k s1 rfl ?_⟩
    show [V.int 1] = [V.int ((Kv374.bit (decide (a.least 2 ≤ (z : Int))) : Nat) : Int)]
    rw [show decide (a.least 2 ≤ (z : Int)) = true from e]
    rfl
  · refine ⟨by show 1 ≤ sizeLine; decide, fin_same tr0 lam k s1 rfl ?_⟩
    show [V.int 0] = [V.int ((Kv374.bit (decide (a.least 2 ≤ (z : Int))) : Nat) : Int)]
    rw [show decide (a.least 2 ≤ (z : Int)) = false from Bool.eq_false_iff.mpr e]
    rfl

theorem scBoughs : FnScope ["tree", "given", "parts"] ["tree", "given"] (defScope sBoughs) := ⟨rfl, rfl, rfl, by decide +kernel, rfl, by decide +kernel, by decide +kernel⟩
theorem ok_boughs {f Pt : Addr} {fd : FuncData} (F : Fun K "boughs" "boughs" sBoughs f fd) (T : Txt K mg C) (c2 : Cst mg "NO_SUCH_PART" (-2)) (GC : MCallee P w K mg base C 1 "part_count" ["self"] (spCount C)) (GO : MCallee P w K mg base C 2 "boughs_on" ["self", "part"] (spOn C)) :
    FnOk P w K mg base CX0 3 f fd ["tree", "given"] (spC K C Pt (fun l => l.length = 1) fun l => .boughs (l.getD 0 0)) := by
  refine F.ok scBoughs (fun vs H Q E h => sp_len h) (fun cdv A outer s H vs Q E hr h => ?_)
  obtain ⟨t, g, args, a, rfl, hg, hlen, tr0, lam, k⟩ := h
  obtain ⟨i, rfl⟩ : ∃ z, args = [z] := by
    match args, hlen with
    | [z], _ => exact ⟨z, rfl⟩
  have nd := scBoughs.nd
  have hr1 : Room 1 _ := hr.mono (by decide)
  refine ⟨_, pss_cons (ps_if (pt_cmpR op_ge (pe_ix ix_list (pv 1) pe_int (fun _ _ => rfl)) (pe_methC0 GC T.cl hr1 (pv 0)) (nomark _)) (pss_one (ps_ret (pe_lst (pa_cons (pe_cst c2 rfl) pa_nil)))) pss_nil)
    (pss_cons (ps_set (i := 2) nd rfl (Or.inl rfl) (pe_methC GO T.cl hr (pv 0) (pa_cons (pe_ix ix_list (pv 1) pe_int (fun _ _ => rfl)) pa_nil)))
    (pss_one (ps_ret (pe_op op_cat (pe_lst (pa_cons (pe_callB call_len_seq (by rfl) T.len PySem.boot_len (pa_cons (pv 2) pa_nil)) pa_nil)) (pv 2))))), ?_⟩
  obtain ⟨dx, h, c, y⟩ := id tr0
  have g0 : atI (natV [i]) 0 = some (.int (i : Int)) := atI_nat (j := 0) rfl
  refine ⟨_, rfl, g, _, _, _, rfl, rfl, hg, g0, _, rfl, t, dx, _, rfl, y.ins, rfl, t, a, rfl, tr0, _, _, rfl, rfl, _, rfl, ite2 (fun e => ?_) fun e => ?_⟩
  · have e' : a.n ≤ i := by have := of_decide_eq_true e; omega
    have ed : a.does (.boughs i) = (a, Kv374.say (-2)) := if_pos e'
    exact ⟨by show 1 ≤ sizeLine; decide, fin_same tr0 lam k (Same.refl _) (congrArg (·.1) ed) (by rw [show (a.does (.boughs ([i].getD 0 0))).2 = Kv374.say (-2) from congrArg (·.2) ed]; rfl)⟩
  have e1 : ¬ a.n ≤ i := fun q => e (decide_eq_true (by show (a.n : Int) ≤ (i : Int); omega))
  have ed : a.does (.boughs i) = (a, Kv374.list (a.boughs i)) := if_neg e1
  refine ⟨_, rfl, t, dx, _, rfl, y.ins, rfl, _, rfl, g, _, _, _, rfl, rfl, hg, g0, t, a, i, rfl, tr0, fun H1 q s1 hq hl => ?_⟩
  have hlen9 := boughs_len y.wf i
  refine ⟨_, rfl, q, _, rfl, .inl (SqL.of hl), by show 1 ≤ sizeLine; decide, fun q1 hq1 => ?_⟩
  have hl1 := same_upd (o := .lst [V.int ((natV (a.boughs i)).length : Int)]) hq1 _ _ hl
  refine ⟨_, rfl, q1, q, _, _, rfl, rfl, upd_same, hl1, ?_, fin_same tr0 lam k (s1.trans (same_upd hq1)) (congrArg (·.1) ed) ?_⟩
  · rw [len_natV]
    exact Nat.le_trans (show 1 + (a.boughs i).length ≤ 10 by omega) (by decide)
  · rw [show (a.does (.boughs ([i].getD 0 0))).2 = Kv374.list (a.boughs i) from congrArg (·.2) ed]
    exact list_V _

theorem scLook : FnScope ["tree", "given"] ["tree", "given"] (defScope sLook) := ⟨rfl, rfl, rfl, by decide +kernel, rfl, by decide +kernel, by decide +kernel⟩
theorem ok_look {f Pt : Addr} {fd : FuncData} (F : Fun K "look" "look" sLook f fd) (T : Txt K mg C) (c2 : Cst mg "NO_SUCH_PART" (-2)) (GN : Callee P w K mg base 2 "is_no_bough" ["tree", "part"] (spNob C)) : FnOk P w K mg base CX0 3 f fd ["tree", "given"] (spC K C Pt (fun l => l.length = 1) fun l => .look (l.getD 0 0)) := by
  refine F.ok scLook (fun vs H Q E h => sp_len h) (fun cdv A outer s H vs Q E hr h => ?_)
  obtain ⟨t, g, args, a, rfl, hg, hlen, tr0, lam, k⟩ := h
  obtain ⟨i, rfl⟩ : ∃ z, args = [z] := by
    match args, hlen with
    | [z], _ => exact ⟨z, rfl⟩
  refine ⟨_, pss_cons (ps_if (pt_val (pe_callC GN hr rfl (pa_cons (pv 0) (pa_cons (pe_ix ix_list (pv 1) pe_int (fun _ _ => rfl)) pa_nil)))) (pss_one (ps_ret (pe_lst (pa_cons (pe_cst c2 rfl) pa_nil)))) pss_nil)
    (pss_one (ps_ret (pe_lst (pa_cons (pe_ix ix_list (pe_fld (pv 0) rfl) (pe_ix ix_list (pv 1) pe_int (fun _ _ => rfl)) (fun _ _ => rfl)) (pa_cons (pe_ix ix_list (pe_fld (pv 0) rfl) (pe_ix ix_list (pv 1) pe_int (fun _ _ => rfl)) (fun _ _ => rfl)) pa_nil))))), ?_⟩
  obtain ⟨dx, h, c, y⟩ := id tr0
  have g0 : atI (natV [i]) 0 = some (.int (i : Int)) := atI_nat (j := 0) rfl
  refine ⟨_, rfl, _, rfl, g, _, _, _, rfl, rfl, hg, g0, t, a, i, rfl, tr0, _, rfl, ite2 (fun e => ?_) fun e => ?_⟩
  · have ed : a.does (.look i) = (a, Kv374.say (-2)) := if_pos (of_decide_eq_true e)
    exact ⟨by show 1 ≤ sizeLine; decide, fin_same tr0 lam k (Same.refl _) (congrArg (·.1) ed) (by rw [show (a.does (.look ([i].getD 0 0))).2 = Kv374.say (-2) from congrArg (·.2) ed]; rfl)⟩
  have hno : ¬ (i = 0 ∨ a.n ≤ i) := fun q => e (decide_eq_true q)
  have i0 : 0 < i := by omega
  have i1 : i < a.n := by omega
  have ed : a.does (.look i) = (a, ⟨((a.part i).on : Nat), [(a.part i).change]⟩) := if_neg hno
  refine ⟨_, rfl, t, C, dx, _, _, rfl, y.ins, T.cl, T.nH, tf_hung, _, rfl, g, _, _, _, rfl, rfl, hg, g0, h, _, _, _, rfl, rfl, SqL.of y.hu, atI_nat (hung_at i0 i1), _, rfl, t, C, dx, _, _, rfl, y.ins, T.cl, T.nC, tf_chg, _, rfl, g, _, _, _, rfl, rfl, hg, g0, c, _, _, _, rfl, rfl, SqL.of y.ch, atI_nat (ch_at i1),
    by show 2 ≤ sizeLine; decide, fin_same tr0 lam k (Same.refl _) (congrArg (·.1) ed) (by rw [show (a.does (.look ([i].getD 0 0))).2 = _ from congrArg (·.2) ed]; rfl)⟩

theorem scEnds : FnScope ["tree", "given", "leans"] ["tree", "given"] (defScope sEnds) := ⟨rfl, rfl, rfl, by decide +kernel, rfl, by decide +kernel, by decide +kernel⟩
theorem ok_ends {f Pt : Addr} {fd : FuncData} (F : Fun K "ends" "ends" sEnds f fd) (T : Txt K mg C) (GL : MCallee P w K mg base C 1 "loose_parts" ["self"] (spLoose C)) (GB : Callee P w K mg base 1 "leans_by" ["tree", "row"] (spLeans K C)) :
    FnOk P w K mg base CX0 2 f fd ["tree", "given"] (spC K C Pt (fun _ => True) fun _ => .ends) := by
  refine F.ok scEnds (fun vs H Q E h => sp_len h) (fun cdv A outer s H vs Q E hr h => ?_)
  obtain ⟨t, g, args, a, rfl, hg, _, tr0, lam, k⟩ := h
  have nd := scEnds.nd
  refine ⟨_, pss_cons (ps_set (i := 2) nd rfl (Or.inl rfl) (pe_callC GB hr rfl (pa_cons (pv 0) (pa_cons (pe_methC0 GL T.cl hr (pv 0)) pa_nil))))
    (pss_one (ps_ret (pe_lst (pa_cons pe_int (pa_cons (pe_ix ix_list (pv 2) pe_int (fun _ _ => rfl)) (pa_cons (pe_ix ix_list (pv 2) (pe_un un_neg pe_int) (fun _ _ => rfl)) pa_nil)))))), ?_⟩
  obtain ⟨dx, h, c, y⟩ := id tr0
  have hn := y.wf.le
  refine ⟨_, rfl, _, rfl, t, dx, _, rfl, y.ins, rfl, t, a, rfl, tr0, fun H1 p s1 hp hl => ⟨t, p, a, a.all_, rfl, tr0.same s1, SqL.of hl, fun i hi => (Lk.mem_all.mp hi).2, by rw [all_len]; omega, fun H2 q s2 hq hl2 => ?_⟩⟩
  obtain ⟨r, hr'⟩ := Lk.leans_last a a.all_
  have elast : atI (intV (a.leans a.all_)) (-1) = some (.int (a.leanAt (a.full - 1))) := by
    rw [hr', Lk.leanAt_full]
    unfold intV
    rw [List.map_append]
    exact atI_last _ _
  refine ⟨_, rfl, q, _, _, _, rfl, rfl, SqL.of hl2, atI_nat (j := 0) (intV_at (Lk.leans_head a a.all_)), _, rfl, _, rfl, q, _, _, _, rfl, rfl, SqL.of hl2, elast, by show 3 ≤ sizeLine; decide, fin_same tr0 lam k (s1.trans s2) rfl rfl⟩

theorem scState : FnScope ["tree", "given"] ["tree", "given"] (defScope sState) := ⟨rfl, rfl, rfl, by decide +kernel, rfl, by decide +kernel, by decide +kernel⟩
theorem ok_state {f Pt : Addr} {fd : FuncData} (F : Fun K "state" "state" sState f fd) (T : Txt K mg C) (GC : MCallee P w K mg base C 1 "part_count" ["self"] (spCount C)) : FnOk P w K mg base CX0 2 f fd ["tree", "given"] (spC K C Pt (fun _ => True) fun _ => .state) := by
  refine F.ok scState (fun vs H Q E h => sp_len h) (fun cdv A outer s H vs Q E hr h => ?_)
  obtain ⟨t, g, args, a, rfl, hg, _, tr0, lam, k⟩ := h
  refine ⟨_, pss_one (ps_ret (pe_lst (pa_cons pe_int (pa_cons (pe_methC0 GC T.cl hr (pv 0)) (pa_cons (pe_fld (pv 0) rfl) pa_nil))))), ?_⟩
  obtain ⟨dx, h, c, y⟩ := id tr0
  exact ⟨_, rfl, t, dx, _, rfl, y.ins, rfl, t, a, rfl, tr0, _, rfl, t, C, dx, _, _, rfl, y.ins, T.cl, T.nL, tf_lean, by show 3 ≤ sizeLine; decide, fin_same tr0 lam k (Same.refl _) rfl rfl⟩

theorem does_ifchange (a : Abs) (i z : Nat) : ((a.does (.change i z)).2.ret < 0 ∧ a.does (.ifchange i z) = (a, (a.does (.change i z)).2)) ∨ (¬ (a.does (.change i z)).2.ret < 0 ∧ a.does (.ifchange i z) = (a, ⟨0, [(a.does (.change i z)).1.least 0]⟩)) := by
  by_cases h1 : i = 0 ∨ a.n ≤ i
  · left
    have e1 : a.does (.change i z) = (a, Kv374.say (-2)) := if_pos h1
    have e2 : a.does (.ifchange i z) = (a, Kv374.say (-2)) := if_pos h1
    rw [e1, e2]
    exact ⟨by show (-2 : Int) < 0; decide, rfl⟩
  · by_cases h2 : Kv374.okC z = false
    · left
      have e1 : a.does (.change i z) = (a, Kv374.say (-22)) := by
        show (if i = 0 ∨ a.n ≤ i then _ else if Kv374.okC z = false then _ else _) = _
        rw [if_neg h1, if_pos h2]
      have e2 : a.does (.ifchange i z) = (a, Kv374.say (-22)) := by
        show (if i = 0 ∨ a.n ≤ i then _ else if Kv374.okC z = false then _ else _) = _
        rw [if_neg h1, if_pos h2]
      rw [e1, e2]
      exact ⟨by show (-22 : Int) < 0; decide, rfl⟩
    · right
      have e1 : a.does (.change i z) = (a.setP i (chg (Kv374.toC z)), ⟨0, [(a.part i).change]⟩) := by
        show (if i = 0 ∨ a.n ≤ i then _ else if Kv374.okC z = false then _ else _) = _
        rw [if_neg h1, if_neg h2]
      have e2 : a.does (.ifchange i z) = (a, ⟨0, [(a.setP i (chg (Kv374.toC z))).least 0]⟩) := by
        show (if i = 0 ∨ a.n ≤ i then _ else if Kv374.okC z = false then _ else _) = _
        rw [if_neg h1, if_neg h2]
      rw [e1, e2]
      exact ⟨by show ¬ (0 : Int) < 0; decide, rfl⟩
theorem does_iflean (a : Abs) (z : Nat) : ((a.does (.lean z)).2.ret < 0 ∧ a.does (.iflean z) = (a, (a.does (.lean z)).2)) ∨ (¬ (a.does (.lean z)).2.ret < 0 ∧ a.does (.iflean z) = (a, ⟨0, [(a.does (.lean z)).1.least 2]⟩)) := by
  by_cases h2 : Kv374.okL z = false
  · left
    have e1 : a.does (.lean z) = (a, Kv374.say (-22)) := if_pos h2
    have e2 : a.does (.iflean z) = (a, Kv374.say (-22)) := if_pos h2
    rw [e1, e2]
    exact ⟨by show (-22 : Int) < 0; decide, rfl⟩
  · right
    have e1 : a.does (.lean z) = ({ a with lean := Kv374.toL z }, ⟨0, [a.lean]⟩) := if_neg h2
    have e2 : a.does (.iflean z) = (a, ⟨0, [({ a with lean := Kv374.toL z } : Abs).least 2]⟩) := if_neg h2
    rw [e1, e2]
    exact ⟨by show ¬ (0 : Int) < 0; decide, rfl⟩
theorem row_head (x : Kv374.Ans) : atI (intV (rowOfAns x)) 0 = some (.int x.ret) := atI_nat (j := 0) rfl
theorem scIfc : FnScope ["tree", "given", "twin", "changed"] ["tree", "given"] (defScope sIfc) := ⟨rfl, rfl, rfl, by decide +kernel, rfl, by decide +kernel, by decide +kernel⟩
theorem ok_ifc {f Pt : Addr} {fd : FuncData} (F : Fun K "ifchange" "ifchange" sIfc f fd) (T : Txt K mg C) (GT : MCallee P w K mg base C 3 "twin" ["self"] (spTwin C)) (GC : Callee P w K mg base 3 "change" ["tree", "given"] (spD K C (fun l => l.length = 2) fun l => .change (l.getD 0 0) (l.getD 1 0)))
    (GR : Callee P w K mg base 5 "right" ["tree", "given"] (spS C fun a => [0, a.least 0])) : FnOk P w K mg base CX0 6 f fd ["tree", "given"] (spC K C Pt (fun l => l.length = 2) fun l => .ifchange (l.getD 0 0) (l.getD 1 0)) := by
  refine F.ok scIfc (fun vs H Q E h => sp_len h) (fun cdv A outer s H vs Q E hr h => ?_)
  obtain ⟨t, g, args, a, rfl, hg, hlen, tr0, lam, k⟩ := h
  have nd := scIfc.nd
  have hr3 : Room 3 _ := hr.mono (by decide)
  refine ⟨_, pss_cons (ps_set (i := 2) nd rfl (Or.inl rfl) (pe_methC0 GT T.cl hr3 (pv 0)))
    (pss_cons (ps_set (i := 3) nd rfl (Or.inl rfl) (pe_callC GC hr3 rfl (pa_cons (pv 2) (pa_cons (pv 1) pa_nil))))
    (pss_cons (ps_if (pt_cmpR op_lt (pe_ix ix_list (pv 3) pe_int (fun _ _ => rfl)) pe_int (nomark _)) (pss_one (ps_ret (pv 3))) pss_nil)
    (pss_one (ps_ret (pe_callC GR hr rfl (pa_cons (pv 2) (pa_cons (pe_lst pa_nil) pa_nil))))))), ?_⟩
  obtain ⟨dx, h, c, y⟩ := id tr0
  refine ⟨_, rfl, t, dx, _, rfl, y.ins, rfl, t, a, rfl, tr0, fun H1 u du l l2 s1 hu hl hl2 yu => ?_⟩
  refine ⟨_, rfl, _, rfl, u, g, args, a, du, l, l2, rfl, s1.seq hg, hlen, yu, fun H2 q tr2 kp hq hq2 => ?_⟩
  have s2 : Same H H2 := fun b o e => kp b o (s1 _ _ e) (ne_of_none e hu) (ne_of_none e hl2)
  have hqH : H q = none := s1.free hq
  refine ⟨_, rfl, q, _, _, _, rfl, rfl, SqL.of hq2, row_head _, _, _, rfl, rfl, _, rfl, ?_⟩
  rcases does_ifchange a (args.getD 0 0) (args.getD 1 0) with ⟨hneg, ed⟩ | ⟨hpos, ed⟩
  · refine ite2 (fun _ => ⟨_, rfl, ?_⟩) fun e => absurd (decide_eq_true hneg) e
    refine k H2 q (by rw [ed]; exact tr0.same s2) (lam.same s2) (keep_same s2) (.inl hqH) ?_
    rw [ed]
    exact hq2
  · refine ite2 (fun e => absurd (of_decide_eq_true e) hpos) fun _ => ?_
    refine ⟨_, rfl, Nat.zero_le _, fun q3 hq3 => ⟨u, q3, _, rfl, tr2.same (same_upd hq3), fun H4 q4 s4 hq4 hl4 => ?_⟩⟩
    have s34 := s2.trans ((same_upd hq3).trans s4)
    refine k H4 q4 (by rw [ed]; exact tr0.same s34) (lam.same s34) (keep_same s34) (.inl ((s2.trans (same_upd hq3)).free hq4)) ?_
    rw [ed]
    exact hl4
theorem scIfl : FnScope ["tree", "given", "twin", "changed"] ["tree", "given"] (defScope sIfl) := ⟨rfl, rfl, rfl, by decide +kernel, rfl, by decide +kernel, by decide +kernel⟩
theorem ok_ifl {f Pt : Addr} {fd : FuncData} (F : Fun K "iflean" "iflean" sIfl f fd) (T : Txt K mg C) (GT : MCallee P w K mg base C 3 "twin" ["self"] (spTwin C)) (GC : Callee P w K mg base 1 "lean" ["tree", "given"] (spD K C (fun l => l.length = 1) fun l => .lean (l.getD 0 0)))
    (GR : Callee P w K mg base 5 "both" ["tree", "given"] (spS C fun a => [0, a.least 2])) : FnOk P w K mg base CX0 6 f fd ["tree", "given"] (spC K C Pt (fun l => l.length = 1) fun l => .iflean (l.getD 0 0)) := by
  refine F.ok scIfl (fun vs H Q E h => sp_len h) (fun cdv A outer s H vs Q E hr h => ?_)
  obtain ⟨t, g, args, a, rfl, hg, hlen, tr0, lam, k⟩ := h
  have nd := scIfl.nd
  have hr3 : Room 3 _ := hr.mono (by decide)
  have hr1 : Room 1 _ := hr.mono (by decide)
  refine ⟨_, pss_cons (ps_set (i := 2) nd rfl (Or.inl rfl) (pe_methC0 GT T.cl hr3 (pv 0)))
    (pss_cons (ps_set (i := 3) nd rfl (Or.inl rfl) (pe_callC GC hr1 rfl (pa_cons (pv 2) (pa_cons (pv 1) pa_nil))))
    (pss_cons (ps_if (pt_cmpR op_lt (pe_ix ix_list (pv 3) pe_int (fun _ _ => rfl)) pe_int (nomark _)) (pss_one (ps_ret (pv 3))) pss_nil)
    (pss_one (ps_ret (pe_callC GR hr rfl (pa_cons (pv 2) (pa_cons (pe_lst pa_nil) pa_nil))))))), ?_⟩
  obtain ⟨dx, h, c, y⟩ := id tr0
  refine ⟨_, rfl, t, dx, _, rfl, y.ins, rfl, t, a, rfl, tr0, fun H1 u du l l2 s1 hu hl hl2 yu => ?_⟩
  refine ⟨_, rfl, _, rfl, u, g, args, a, du, l, l2, rfl, s1.seq hg, hlen, yu, fun H2 q tr2 kp hq hq2 => ?_⟩
  have s2 : Same H H2 := fun b o e => kp b o (s1 _ _ e) (ne_of_none e hu) (ne_of_none e hl2)
  have hqH : H q = none := s1.free hq
  refine ⟨_, rfl, q, _, _, _, rfl, rfl, SqL.of hq2, row_head _, _, _, rfl, rfl, _, rfl, ?_⟩
  rcases does_iflean a (args.getD 0 0) with ⟨hneg, ed⟩ | ⟨hpos, ed⟩
  · refine ite2 (fun _ => ⟨_, rfl, ?_⟩) fun e => absurd (decide_eq_true hneg) e
    refine k H2 q (by rw [ed]; exact tr0.same s2) (lam.same s2) (keep_same s2) (.inl hqH) ?_
    rw [ed]
    exact hq2
  · refine ite2 (fun e => absurd (of_decide_eq_true e) hpos) fun _ => ?_
    refine ⟨_, rfl, Nat.zero_le _, fun q3 hq3 => ⟨u, q3, _, rfl, tr2.same (same_upd hq3), fun H4 q4 s4 hq4 hl4 => ?_⟩⟩
    have s34 := s2.trans ((same_upd hq3).trans s4)
    refine k H4 q4 (by rw [ed]; exact tr0.same s34) (lam.same s34) (keep_same s34) (.inl ((s2.trans (same_upd hq3)).free hq4)) ?_
    rw [ed]
    exact hl4
end
end Le

end
section
set_option linter.all false
namespace Lk
open Kv374
noncomputable def plain : List Nat := [1, 2, 2, 0, 1, 0, 0, 0, 0, 1, 0, 0, 0, 0, 1, 1, 2, 1, 1, 1, 0, 0]
noncomputable def isRow (p : Nat) : Bool := p == 5 || p == 13
noncomputable def mkCall (p : Nat) (l : List Nat) : Call := match p with
  | 0 => .begin_ (l.getD 0 0)
  | 1 => .bough (l.getD 0 0) (l.getD 1 0)
  | 2 => .change (l.getD 0 0) (l.getD 1 0)
  | 3 => .less
  | 4 => .lean (l.getD 0 0)
  | 5 => .try_ l
  | 6 => .right
  | 7 => .left_
  | 8 => .both
  | 9 => .order (l.getD 0 0)
  | 10 => .told
  | 11 => .rows
  | 12 => .ways
  | 13 => .may l
  | 14 => .first (l.getD 0 0)
  | 15 => .keeps (l.getD 0 0)
  | 16 => .ifchange (l.getD 0 0) (l.getD 1 0)
  | 17 => .iflean (l.getD 0 0)
  | 18 => .boughs (l.getD 0 0)
  | 19 => .look (l.getD 0 0)
  | 20 => .ends
  | _ => .state
structure Said (c : List (List Int)) (p : Nat) (args : List Nat) : Prop where
  lt : p < 22
  put : PyFlat.put1 c = if isRow p = true then (p : Int) :: (args.length : Int) :: args.map (fun (i : Nat) => (i : Int)) else (p : Int) :: args.map (fun (i : Nat) => (i : Int))
  len : isRow p = false → args.length = plain.getD p 0
  row : isRow p = true → args.length ≤ 40
  call : Kv374Neutral.callOf (PyKv374.whole c) = some (mkCall p args)
theorem nn {x : Int} (h : 0 ≤ x) : ((x.toNat : Nat) : Int) = x := by omega
theorem nn_all : ∀ {l : List Int}, (∀ x ∈ l, 0 ≤ x) → (l.map Int.toNat).map (fun (i : Nat) => (i : Int)) = l
  | [], _ => rfl
  | x :: l, h => by
    rw [List.map_cons, List.map_cons, nn (h x List.mem_cons_self), nn_all fun y hy => h y (List.mem_cons_of_mem _ hy)]
theorem said0 {p : Int} {n : Nat} {c : List (List Int)} (hc : c = [[p]]) (hp : p = (n : Int)) (hn : n < 22) (hr : isRow n = false) (hl : plain.getD n 0 = 0) (hcall : Kv374Neutral.callOf (PyKv374.whole [[(n : Int)]]) = some (mkCall n [])) : Said c n [] := by
  subst hc hp
  refine ⟨hn, by rw [hr]; rfl, fun _ => by rw [hl]; rfl, fun h => (by rw [hr] at h; cases h), hcall⟩
theorem said1 {n : Nat} {x : Int} {c : List (List Int)} (hc : c = [[(n : Int), x]]) (hx : 0 ≤ x) (hn : n < 22) (hr : isRow n = false) (hl : plain.getD n 0 = 1) (hcall : Kv374Neutral.callOf (PyKv374.whole [[(n : Int), x]]) = some (mkCall n [x.toNat])) : Said c n [x.toNat] := by
  subst hc
  refine ⟨hn, ?_, fun _ => by rw [hl]; rfl, fun h => (by rw [hr] at h; cases h), hcall⟩
  rw [hr]
  show [(n : Int), x] ++ [] = [(n : Int), ((x.toNat : Nat) : Int)]
  rw [nn hx]
  rfl
theorem said2 {n : Nat} {x y : Int} {c : List (List Int)} (hc : c = [[(n : Int), x, y]]) (hx : 0 ≤ x) (hy : 0 ≤ y) (hn : n < 22) (hr : isRow n = false) (hl : plain.getD n 0 = 2) (hcall : Kv374Neutral.callOf (PyKv374.whole [[(n : Int), x, y]]) = some (mkCall n [x.toNat, y.toNat])) : Said c n [x.toNat, y.toNat] := by
  subst hc
  refine ⟨hn, ?_, fun _ => by rw [hl]; rfl, fun h => (by rw [hr] at h; cases h), hcall⟩
  rw [hr]
  show [(n : Int), x, y] ++ [] = [(n : Int), ((x.toNat : Nat) : Int), ((y.toNat : Nat) : Int)]
  rw [nn hx, nn hy]
  rfl
theorem saidR {n : Nat} {r : List Int} {c : List (List Int)} (hc : c = [[(n : Int)], r]) (hx : ∀ x ∈ r, 0 ≤ x) (h40 : r.length ≤ 40) (hn : n < 22) (hr : isRow n = true) (hcall : Kv374Neutral.callOf (PyKv374.whole [[(n : Int)], r]) = some (mkCall n (r.map Int.toNat))) : Said c n (r.map Int.toNat) := by
  subst hc
  refine ⟨hn, ?_, fun h => (by rw [hr] at h; cases h), fun _ => by rw [List.length_map]; exact h40, hcall⟩
  rw [if_pos hr, nn_all hx, List.length_map]
  show [(n : Int)] ++ (((r.length : Int) :: r) ++ []) = _
  rw [List.append_nil]
  rfl
theorem in1 {lo : Int} {hi x : Int} {b : List (Int × Int)} {xs : List Int} (h : PyInside.each ((lo, hi) :: b) (x :: xs) = true) : lo ≤ x ∧ PyInside.each b xs = true := by
  unfold PyInside.each PyInside.within at h
  simp only [Bool.and_eq_true, decide_eq_true_eq] at h
  exact ⟨h.1.1, h.2⟩
theorem split0 {a : List Int} {xs : List (List Int)} (h : some (0, 0) = some (a.length, xs.length)) : a = [] ∧ xs = [] := by
  have h := Option.some.inj h
  have h1 := congrArg Prod.fst h
  have h2 := congrArg Prod.snd h
  exact ⟨List.length_eq_zero_iff.mp h1.symm, List.length_eq_zero_iff.mp h2.symm⟩
theorem split1 {a : List Int} {xs : List (List Int)} (h : some (1, 0) = some (a.length, xs.length)) : (∃ x, a = [x]) ∧ xs = [] := by
  have h := Option.some.inj h
  have h1 := congrArg Prod.fst h
  have h2 := congrArg Prod.snd h
  refine ⟨?_, List.length_eq_zero_iff.mp h2.symm⟩
  match a, h1 with
  | [x], _ => exact ⟨x, rfl⟩
theorem split2 {a : List Int} {xs : List (List Int)} (h : some (2, 0) = some (a.length, xs.length)) : (∃ x y, a = [x, y]) ∧ xs = [] := by
  have h := Option.some.inj h
  have h1 := congrArg Prod.fst h
  have h2 := congrArg Prod.snd h
  refine ⟨?_, List.length_eq_zero_iff.mp h2.symm⟩
  match a, h1 with
  | [x, y], _ => exact ⟨x, y, rfl⟩
theorem splitR {a : List Int} {xs : List (List Int)} (h : some (0, 1) = some (a.length, xs.length)) : a = [] ∧ ∃ r, xs = [r] := by
  have h := Option.some.inj h
  have h1 := congrArg Prod.fst h
  have h2 := congrArg Prod.snd h
  refine ⟨List.length_eq_zero_iff.mp h1.symm, ?_⟩
  match xs, h2 with
  | [r], _ => exact ⟨r, rfl⟩
theorem inR {r : List Int} (h : PyInside.lists [(0, 65535, 0, 40)] [r] = true) : (∀ x ∈ r, 0 ≤ x) ∧ r.length ≤ 40 := by
  unfold PyInside.lists at h
  simp only [Bool.and_eq_true, decide_eq_true_eq] at h
  refine ⟨fun x hx => ?_, h.1.1.2⟩
  have := List.all_eq_true.mp h.1.2 x hx
  unfold PyInside.within at this
  simp only [Bool.and_eq_true, decide_eq_true_eq] at this
  exact this.1
theorem shape_of {p : Int} {x : Nat × Nat} (h : PyKv374.shape p = some x) : ∃ n : Nat, n < 22 ∧ p = (n : Int) := by
  by_cases h0 : 0 ≤ p ∧ p < 22
  · exact ⟨p.toNat, by omega, by omega⟩
  · exfalso
    unfold PyKv374.shape at h
    rw [if_neg (by omega), if_neg (by omega), if_neg (by omega), if_neg (by omega), if_neg (by omega), if_neg (by omega), if_neg (by omega), if_neg (by omega), if_neg (by omega), if_neg (by omega), if_neg (by omega),
      if_neg (by omega), if_neg (by omega), if_neg (by omega), if_neg (by omega), if_neg (by omega), if_neg (by omega), if_neg (by omega), if_neg (by omega), if_neg (by omega), if_neg (by omega), if_neg (by omega)] at h
    cases h
theorem said_of {c : List (List Int)} (h : PyFlat.okCall PyKv374.shape c) (hi : PyInside.call PyKv374.bound c = true) : ∃ p args, Said c p args := by
  obtain ⟨p, a, xs, rfl, hs⟩ := h
  obtain ⟨n, hn, rfl⟩ := shape_of hs
  have hi : (PyInside.each (PyKv374.bound (n : Int)).1 a && PyInside.lists (PyKv374.bound (n : Int)).2 xs) = true := hi
  rw [Bool.and_eq_true] at hi
  obtain ⟨i1, i2⟩ := hi
  match n, hn with
  | 0, _ =>
    obtain ⟨⟨x, rfl⟩, rfl⟩ := split1 (show some (1, 0) = _ from hs)
    exact ⟨0, _, said1 (n := 0) rfl (in1 i1).1 (by decide) rfl rfl rfl⟩
  | 1, _ =>
    obtain ⟨⟨x, y, rfl⟩, rfl⟩ := split2 (show some (2, 0) = _ from hs)
    exact ⟨1, _, said2 (n := 1) rfl (in1 i1).1 (in1 (in1 i1).2).1 (by decide) rfl rfl rfl⟩
  | 2, _ =>
    obtain ⟨⟨x, y, rfl⟩, rfl⟩ := split2 (show some (2, 0) = _ from hs)
    exact ⟨2, _, said2 (n := 2) rfl (in1 i1).1 (in1 (in1 i1).2).1 (by decide) rfl rfl rfl⟩
  | 3, _ =>
    obtain ⟨rfl, rfl⟩ := split0 (show some (0, 0) = _ from hs)
    exact ⟨3, _, said0 (n := 3) rfl rfl (by decide) rfl rfl rfl⟩
  | 4, _ =>
    obtain ⟨⟨x, rfl⟩, rfl⟩ := split1 (show some (1, 0) = _ from hs)
    exact ⟨4, _, said1 (n := 4) rfl (in1 i1).1 (by decide) rfl rfl rfl⟩
  | 5, _ =>
    obtain ⟨rfl, r, rfl⟩ := splitR (show some (0, 1) = _ from hs)
    obtain ⟨q1, q2⟩ := inR i2
    exact ⟨5, _, saidR (n := 5) rfl q1 q2 (by decide) rfl rfl⟩
  | 6, _ =>
    obtain ⟨rfl, rfl⟩ := split0 (show some (0, 0) = _ from hs)
    exact ⟨6, _, said0 (n := 6) rfl rfl (by decide) rfl rfl rfl⟩
  | 7, _ =>
    obtain ⟨rfl, rfl⟩ := split0 (show some (0, 0) = _ from hs)
    exact ⟨7, _, said0 (n := 7) rfl rfl (by decide) rfl rfl rfl⟩
  | 8, _ =>
    obtain ⟨rfl, rfl⟩ := split0 (show some (0, 0) = _ from hs)
    exact ⟨8, _, said0 (n := 8) rfl rfl (by decide) rfl rfl rfl⟩
  | 9, _ =>
    obtain ⟨⟨x, rfl⟩, rfl⟩ := split1 (show some (1, 0) = _ from hs)
    exact ⟨9, _, said1 (n := 9) rfl (in1 i1).1 (by decide) rfl rfl rfl⟩
  | 10, _ =>
    obtain ⟨rfl, rfl⟩ := split0 (show some (0, 0) = _ from hs)
    exact ⟨10, _, said0 (n := 10) rfl rfl (by decide) rfl rfl rfl⟩
  | 11, _ =>
    obtain ⟨rfl, rfl⟩ := split0 (show some (0, 0) = _ from hs)
    exact ⟨11, _, said0 (n := 11) rfl rfl (by decide) rfl rfl rfl⟩
  | 12, _ =>
    obtain ⟨rfl, rfl⟩ := split0 (show some (0, 0) = _ from hs)
    exact ⟨12, _, said0 (n := 12) rfl rfl (by decide) rfl rfl rfl⟩
  | 13, _ =>
    obtain ⟨rfl, r, rfl⟩ := splitR (show some (0, 1) = _ from hs)
    obtain ⟨q1, q2⟩ := inR i2
    exact ⟨13, _, saidR (n := 13) rfl q1 q2 (by decide) rfl rfl⟩
  | 14, _ =>
    obtain ⟨⟨x, rfl⟩, rfl⟩ := split1 (show some (1, 0) = _ from hs)
    exact ⟨14, _, said1 (n := 14) rfl (in1 i1).1 (by decide) rfl rfl rfl⟩
  | 15, _ =>
    obtain ⟨⟨x, rfl⟩, rfl⟩ := split1 (show some (1, 0) = _ from hs)
    exact ⟨15, _, said1 (n := 15) rfl (in1 i1).1 (by decide) rfl rfl rfl⟩
  | 16, _ =>
    obtain ⟨⟨x, y, rfl⟩, rfl⟩ := split2 (show some (2, 0) = _ from hs)
    exact ⟨16, _, said2 (n := 16) rfl (in1 i1).1 (in1 (in1 i1).2).1 (by decide) rfl rfl rfl⟩
  | 17, _ =>
    obtain ⟨⟨x, rfl⟩, rfl⟩ := split1 (show some (1, 0) = _ from hs)
    exact ⟨17, _, said1 (n := 17) rfl (in1 i1).1 (by decide) rfl rfl rfl⟩
  | 18, _ =>
    obtain ⟨⟨x, rfl⟩, rfl⟩ := split1 (show some (1, 0) = _ from hs)
    exact ⟨18, _, said1 (n := 18) rfl (in1 i1).1 (by decide) rfl rfl rfl⟩
  | 19, _ =>
    obtain ⟨⟨x, rfl⟩, rfl⟩ := split1 (show some (1, 0) = _ from hs)
    exact ⟨19, _, said1 (n := 19) rfl (in1 i1).1 (by decide) rfl rfl rfl⟩
  | 20, _ =>
    obtain ⟨rfl, rfl⟩ := split0 (show some (0, 0) = _ from hs)
    exact ⟨20, _, said0 (n := 20) rfl rfl (by decide) rfl rfl rfl⟩
  | 21, _ =>
    obtain ⟨rfl, rfl⟩ := split0 (show some (0, 0) = _ from hs)
    exact ⟨21, _, said0 (n := 21) rfl rfl (by decide) rfl rfl rfl⟩
  | n + 22, h => omega
end Lk

end
section
set_option linter.all false
namespace Lk
open Kv374
noncomputable abbrev left_out (s : State) (rest : List (List (List Int))) : List Int := PyFlat.told (PyFlat.played Kv374Neutral.step s (rest.map PyKv374.whole))
theorem step_said {s : State} {c : List (List Int)} {p : Nat} {args : List Nat} (h : Said c p args) : Kv374Neutral.step s (PyKv374.whole c) = ((act s (mkCall p args)).1, Kv374Neutral.row (act s (mkCall p args)).2) := by
  unfold Kv374Neutral.step
  rw [h.call]
theorem out_cons {s : State} {c : List (List Int)} {rest : List (List (List Int))} {p : Nat} {args : List Nat} (h : Said c p args) :
    left_out s (c :: rest) = (((Kv374Neutral.row (act s (mkCall p args)).2).length : Int) :: Kv374Neutral.row (act s (mkCall p args)).2) ++ left_out (act s (mkCall p args)).1 rest := by
  unfold left_out
  rw [List.map_cons]
  show PyFlat.told ((Kv374Neutral.step s (PyKv374.whole c)).2 :: PyFlat.played Kv374Neutral.step (Kv374Neutral.step s (PyKv374.whole c)).1 (rest.map PyKv374.whole)) = _
  rw [step_said h]
  unfold PyFlat.told
  rw [List.flatMap_cons]
theorem asked_calls {l : List Int} (h : PyKv374.answers_asked l = true) : ∃ raw, l = PyFlat.put raw ∧ (∀ c ∈ raw, ∃ p args, Said c p args) ∧ PyKv374.answers l = left_out none raw ∧ (PyKv374.answers l).length ≤ 10000000 := by
  unfold PyKv374.answers_asked at h
  cases e : PyFlat.calls PyKv374.shape l.length l with
  | none => rw [e] at h; cases h
  | some raw =>
    rw [e] at h
    simp only [Bool.and_eq_true] at h
    obtain ⟨⟨⟨⟨_, _⟩, h3⟩, _⟩, h5⟩ := h
    obtain ⟨e1, e2⟩ := PyFlat.put_calls _ _ _ e
    refine ⟨raw, e1, fun c hc => said_of (e2 c hc) (List.all_eq_true.mp h3 c hc), ?_, of_decide_eq_true h5⟩
    unfold PyKv374.answers PyKv374.calls
    rw [e]
    rfl
theorem put_len_pos {c : List (List Int)} {p : Nat} {args : List Nat} (h : Said c p args) : 0 < (PyFlat.put1 c).length := by
  rw [h.put]
  split <;> simp
theorem row_pos (x : Ans) : 0 < (Kv374Neutral.row x).length := by
  unfold Kv374Neutral.row
  rw [List.length_cons]
  omega
theorem act_none {p : Nat} {args : List Nat} (h0 : p ≠ 0) : act none (mkCall p args) = (none, say (-11)) := by
  match p, h0 with
  | 1, _ => rfl
  | 2, _ => rfl
  | 3, _ => rfl
  | 4, _ => rfl
  | 5, _ => rfl
  | 6, _ => rfl
  | 7, _ => rfl
  | 8, _ => rfl
  | 9, _ => rfl
  | 10, _ => rfl
  | 11, _ => rfl
  | 12, _ => rfl
  | 13, _ => rfl
  | 14, _ => rfl
  | 15, _ => rfl
  | 16, _ => rfl
  | 17, _ => rfl
  | 18, _ => rfl
  | 19, _ => rfl
  | 20, _ => rfl
  | n + 21, _ => rfl
theorem act_some (a : Abs) (c : Call) : act (some a) c = (some (a.does c).1, (a.does c).2) := by cases c <;> rfl
end Lk

end
section
set_option Elab.async false
set_option linter.all false
set_option maxRecDepth 100000
set_option maxHeartbeats 4000000
namespace Le
open PySem PySem.Spec PyProof.Rows L2
open Kv374 (Abs Part has add far)
noncomputable abbrev sAC : Stmt := top 67
noncomputable abbrev sAns : Stmt := top 68
noncomputable def Form (p : Nat) (args : List Nat) : Prop := (Lk.isRow p = false → args.length = Lk.plain.getD p 0) ∧ (Lk.isRow p = true → args.length ≤ 40)
section
variable {P : Program} {w : World} {K : PySem.W.Frag} {mg : Str → Option Value} {base : Heap} {C : Addr}
noncomputable abbrev Fresh (H : Hp) (q : Addr) : Prop := H q = none ∨ ∃ a, Lk.WF a ∧ (H q = some (.lst (hungV a)) ∨ H q = some (.lst (chV a)))
noncomputable def spP (K : PySem.W.Frag) (C Pt : Addr) (p : Nat) : Sp := fun vs H Q _ => ∃ (t g : Addr) (args : List Nat) (st : Option Abs), vs = [.ref t, .ref g] ∧ SqL K H g (natV args) ∧ Form p args ∧ StAt C H t st ∧ (p = 0 ∨ st ≠ none) ∧ Lam rfbPos rfbQual Pt H ∧
  ∀ (H' : Hp) (q : Addr), StAt C H' t (Kv374.act st (Lk.mkCall p args)).1 → Lam rfbPos rfbQual Pt H' → KeepP t Pt H H' → Fresh H q → H' q = some (.lst (intV (rowOfAns (Kv374.act st (Lk.mkCall p args)).2))) → Q (.ref q) H'
theorem spP_of {Pt : Addr} {p : Nat} {ok : List Nat → Prop} {mk : List Nat → Kv374.Call} (hp : p ≠ 0) (hok : ∀ args, Form p args → ok args) (hmk : ∀ args, Form p args → Lk.mkCall p args = mk args) (vs : List V) (H : Hp) (Q : VK) (E : XK) (h : spP K C Pt p vs H Q E) : spC K C Pt ok mk vs H Q E := by
  obtain ⟨t, g, args, st, rfl, hg, hf, hst, h0, lam, k⟩ := h
  cases st with
  | none => exact absurd rfl (h0.resolve_left hp)
  | some a =>
    rw [Lk.act_some, hmk args hf] at k
    exact ⟨t, g, args, a, rfl, hg, hok args hf, hst, lam, k⟩
theorem spP_begin {Pt : Addr} (vs : List V) (H : Hp) (Q : VK) (E : XK) (h : spP K C Pt 0 vs H Q E) : spBegin K C Pt vs H Q E := by
  obtain ⟨t, g, args, st, rfl, hg, hf, hst, h0, lam, k⟩ := h
  obtain ⟨l, rfl⟩ : ∃ l, args = [l] := by
    have := hf.1 rfl
    match args, this with
    | [l], _ => exact ⟨l, rfl⟩
  exact ⟨t, g, l, st, rfl, hg, hst, lam, k⟩
structure CallsOk (P : Program) (w : World) (K : PySem.W.Frag) (mg : Str → Option Value) (base : Heap) (C Pt : Addr) (k : Nat) : Prop where
  ex : ∃ (tc : Addr) (fs : List Addr), mg "CALLS" = some (.ref tc) ∧ (∀ H : Hp, SqT K H tc (fs.map V.ref)) ∧ ∀ p, p < 22 → ∃ (f : Addr) (fd : FuncData), fs[p]? = some f ∧ FnOk P w K mg base CX0 k f fd ["tree", "given"] (spP K C Pt p) ∧ PySem.W.keepIn K (.ref f) = true ∧ Binds K fd ["tree", "given"] []
noncomputable def spAC (K : PySem.W.Frag) (C Pt : Addr) : Sp := fun vs H Q _ => ∃ (t g : Addr) (p : Nat) (args : List Nat) (st : Option Abs), vs = [.ref t, .int (p : Int), .ref g] ∧ p < 22 ∧ SqL K H g (natV args) ∧ Form p args ∧ StAt C H t st ∧ Lam rfbPos rfbQual Pt H ∧
  ∀ (H' : Hp) (q : Addr), StAt C H' t (Kv374.act st (Lk.mkCall p args)).1 → Lam rfbPos rfbQual Pt H' → KeepP t Pt H H' → Fresh H q → H' q = some (.lst (intV (rowOfAns (Kv374.act st (Lk.mkCall p args)).2))) → Q (.ref q) H'
theorem scAC : FnScope ["tree", "number", "given"] ["tree", "number", "given"] (defScope sAC) := ⟨rfl, rfl, rfl, by decide +kernel, rfl, by decide +kernel, by decide +kernel⟩
theorem ok_ac {f Pt : Addr} {fd : FuncData} {k0 : Nat} (F : Fun K "answer_call" "answer_call" sAC f fd) (T : Txt K mg C) (c0 : Cst mg "BEGIN_CALL" 0) (c11 : Cst mg "NOT_BEGUN" (-11)) (HC : CallsOk P w K mg base C Pt k0) : FnOk P w K mg base CX0 (k0 + 1) f fd ["tree", "number", "given"] (spAC K C Pt) := by
  obtain ⟨tc, fs, mtc, htc, hfs⟩ := HC.ex
  refine F.ok scAC (fun vs H Q E h => ?_) (fun cdv A outer s H vs Q E hr h => ?_)
  · obtain ⟨t, g, p, args, st, rfl, _⟩ := h
    rfl
  obtain ⟨t, g, p, args, st, rfl, hp, hg, hf, hst, lam, k⟩ := h
  refine ⟨_, pss_cons (ps_if (PW.pt (pw_and (pt_cmpR op_ne (pv 1) (pe_cst c0 rfl) (nomark _)) (pw_and1 (pt_not (pt_val (pe_fld (pv 0) rfl)))))) (pss_one (ps_ret (pe_lst (pa_cons (pe_cst c11 rfl) pa_nil)))) pss_nil)
    (pss_one (ps_ret (pe_callV (pe_ix ix_tup (pe_glob (v := .ref tc) rfl mtc rfl) (pv 1) (fun _ _ => rfl)) (pa_cons (pv 0) (pa_cons (pv 2) pa_nil))))), ?_⟩
  obtain ⟨f', fd', hf', FO, kp', hb'⟩ := hfs p hp
  have goOn : (p = 0 ∨ st ≠ none) → ∀ σ : L2.St, σ = [some (.ref t), some (.int (p : Int)), some (.ref g)] → tRet (tCallV (cxOf CX0 P w K mg base ["tree", "number", "given"] "answer_call" (defScope sAC) f cdv A outer s H E).nox (tOp (rIxT K) (tC (.ref tc)) (tVar 1)) (tCons (tVar 0) (tCons (tVar 2) tNil))) { nx := fun _ H' => Q .non H', rt := Q } σ H := by
    rintro h0 σ rfl
    refine ⟨_, rfl, tc, _, _, _, rfl, rfl, htc H, atI_nat (by rw [List.getElem?_map, hf']; rfl), f', spP K C Pt p, rfl, ⟨⟨k0, fd', ["tree", "given"], FO, hr, hb'⟩, kp'⟩, _, rfl, _, rfl, t, g, args, st, rfl, hg, hf, hst, h0, lam, k⟩
  obtain ⟨b, dx, l0, h, c, ht⟩ := hst.ins
  refine ⟨_, rfl, rfl, _, rfl, ite2 (fun e => ?_) fun e => ?_⟩
  · have hp0 : p ≠ 0 := fun z => by
      rw [z] at e
      simp at e
    refine ⟨_, rfl, t, C, dx, _, _, rfl, ht, T.cl, T.nB, tf_begun, _, rfl, ?_⟩
    cases st with
    | none =>
      obtain ⟨dx', l', h', c', ht'⟩ := hst
      rw [ht] at ht'
      have eb : b = false := by
        have := Option.some.inj ht'
        injection this with _ _ this
        have := (List.cons.inj this).1
        have := congrArg Prod.snd this
        injection this
      subst eb
      refine iteT ⟨by show 1 ≤ sizeLine; decide, fun q hq => ?_⟩
      have s3 := same_upd (o := .lst [V.int (-11)]) hq
      rw [Lk.act_none hp0] at k
      exact k _ q ⟨dx, _, h, c, s3 _ _ ht⟩ (lam.same s3) (keep_same s3) (.inl hq) upd_same
    | some a =>
      obtain ⟨dx', h', c', y⟩ := id hst
      have ht' := y.ins
      rw [ht] at ht'
      have eb : b = true := by
        have := Option.some.inj ht'
        injection this with _ _ this
        have := (List.cons.inj this).1
        have := congrArg Prod.snd this
        injection this
      subst eb
      exact iteF (goOn (.inr (by simp)) _ rfl)
  · have hp0 : p = 0 := by
      simp at e
      omega
    exact iteF (goOn (.inl hp0) _ rfl)
end
end Le

end
section
set_option Elab.async false
set_option linter.all false
set_option maxRecDepth 100000
set_option maxHeartbeats 4000000
namespace Le
open PySem PySem.Spec PyProof.Rows L2
open Kv374 (Abs Part has add far)
noncomputable def Fz (H H' : Hp) : Prop := ∀ b ob u, H b = some (.frz ob u) → H' b = some (.frz ob u)
theorem Fz.trans {H H1 H2 : Hp} (x : Fz H H1) (y : Fz H1 H2) : Fz H H2 := fun b ob u e => y b ob u (x b ob u e)
theorem fz_same {H H' : Hp} (s : Same H H') : Fz H H' := fun b ob u e => s _ _ e
theorem fz_keep {t Pt : Addr} {H H' : Hp} {ps : Array Value} (k : KeepP t Pt H H') (ht : ∃ C dx fs, H t = some (.ins C dx fs)) (hP : H Pt = some (.tbl ps)) : Fz H H' := fun b ob u e => by
  obtain ⟨C, dx, fs, ht⟩ := ht
  exact k b _ e (ne_of e ht (fun z => by cases z)) (ne_of e hP (fun z => by cases z)) fun a _ => ⟨fun z => (by cases z), fun z => (by cases z)⟩
noncomputable def Req (K : PySem.W.Frag) (H : Hp) (a : Addr) (ns : List Int) : Prop := ∀ H', Fz H H' → SqL K H' a (ns.map V.int)
theorem drop_cons {α : Type} {l : List α} {k : Nat} {x : α} {r : List α} (h : l.drop k = x :: r) : l[k]? = some x ∧ l.drop (k + 1) = r ∧ k < l.length := by
  have hk : k < l.length := by
    refine Nat.lt_of_not_le fun z => ?_
    rw [List.drop_eq_nil_of_le z] at h
    cases h
  rw [List.drop_eq_getElem_cons hk] at h
  obtain ⟨h1, h2⟩ := List.cons.inj h
  exact ⟨by rw [List.getElem?_eq_getElem hk, h1], h2, hk⟩
theorem cut_args {ns : List Int} {args : List Nat} {start : Nat} {post : List Int} (h : ns.drop start = args.map (fun (i : Nat) => (i : Int)) ++ post) (hs : start ≤ ns.length) : cutV (ns.map V.int) (some (start : Int)) (some ((start : Int) + (args.length : Int))) = natV args := by
  have hl : ns.length = start + (args.length + post.length) := by
    have := congrArg List.length h
    rw [List.length_drop, List.length_append, List.length_map] at this
    omega
  unfold cutV
  rw [show (start : Int) + (args.length : Int) = ((start + args.length : Nat) : Int) by omega, HT.sIx_nat, HT.sIx_nat, List.length_map, Nat.min_eq_left hs, Nat.min_eq_left (by omega), Nat.add_sub_cancel_left, ← List.map_drop, h, List.map_append,
    List.take_append_of_le_length (by simp), List.take_of_length_le (by simp), List.map_map]
  rfl
noncomputable def Heady (out : List Int) : Prop := out = [] ∨ ∃ x r, out = x :: r ∧ 0 < x
theorem Heady.no {out : List Int} (h : Heady out) : ∀ a, Lk.WF a → (HO.lst (intV out) ≠ .lst (hungV a)) ∧ HO.lst (intV out) ≠ .lst (chV a) := fun a W => by
  have hc : (chV a)[0]? = some (.int 0) := by rw [ch_at (show 0 < a.n from W.pos), W.zero]
  refine ⟨fun z => ?_, fun z => ?_⟩
  · injection z with z
    rcases h with rfl | ⟨x, r, rfl, hx⟩
    · cases z
    · have := (List.cons.inj z).1
      injection this with this
      omega
  · injection z with z
    rw [← z] at hc
    rcases h with rfl | ⟨x, r, rfl, hx⟩
    · cases hc
    · have := Option.some.inj hc
      injection this with this
      omega
section
variable {P : Program} {w : World} {K : PySem.W.Frag} {mg : Str → Option Value} {base : Heap} {C : Addr}
noncomputable def plainI : List Int := Lk.plain.map fun (i : Nat) => (i : Int)
noncomputable def spAns (K : PySem.W.Frag) (Pt : Addr) : Sp := fun vs H Q _ => ∃ (a : Addr) (ns : List Int), vs = [.ref a] ∧ Req K H a ns ∧ PyKv374.answers_asked ns = true ∧ H Pt = some (.tbl #[]) ∧ ∀ (H' : Hp) (q : Addr), H' q = some (.lst (intV (PyKv374.answers ns))) → Q (.ref q) H'
noncomputable def AnsInv (C Pt : Addr) (H : Hp) (a t L : Addr) (ns : List Int) (m : Nat) (σ : L2.St) (H' : Hp) : Prop := ∃ (v4 v5 v6 v7 : Option V) (pl : Nat) (rest : List (List (List Int))) (st : Option Abs) (out : List Int), m = ns.length - pl ∧
  σ = [some (.ref a), some (.ref t), some (.ref L), some (.int (pl : Int)), v4, v5, v6, v7] ∧ pl ≤ ns.length ∧ ns.drop pl = PyFlat.put rest ∧ (∀ c ∈ rest, ∃ p args, Lk.Said c p args) ∧ out ++ Lk.left_out st rest = PyKv374.answers ns ∧ Heady out ∧ Fz H H' ∧ StAt C H' t st ∧
  Lam rfbPos rfbQual Pt H' ∧ H' L = some (.lst (intV out))
noncomputable abbrev tTurn (K : PySem.W.Frag) (C Pt : Addr) : TS := tSeq (tAsg (tCall (spAC K C Pt) [] E0 (tCons (tVar 1) (tCons (tVar 4) (tCons (tSl (rSlL K) (tVar 0) (tPart (tVar 5)) (tPart (tOp (rI0 fun i j => .int (i + j)) (tVar 5) (tVar 6)))) tNil)))) (gName 7))
  (tSeq (tDrop (tBM K "list" rAppend (tVar 2) (tCons (tCB (fun xs H Q => ∃ p ys, xs = [.ref p] ∧ (SqL K H p ys ∨ SqT K H p ys) ∧ Q (.int ys.length) H) (tCons (tVar 7) tNil)) tNil)))
  (tSeq (tDrop (tBM K "list" rExtend (tVar 2) (tCons (tVar 7) tNil))) (tAsg (tOp (rI0 fun i j => .int (i + j)) (tVar 5) (tVar 6)) (gName 3))))
theorem StAt.updL {H : Hp} {t L : Addr} {st : Option Abs} {out : List Int} {o : HO} (h : StAt C H t st) (hL : H L = some (.lst (intV out))) (hh : Heady out) : StAt C (upd H L o) t st := by
  cases st with
  | none =>
    obtain ⟨dx, l, h, c, e⟩ := h
    exact ⟨dx, l, h, c, by rw [upd_ne (ne_of e hL (fun z => by cases z))]; exact e⟩
  | some a =>
    obtain ⟨dx, h, c, y⟩ := h
    obtain ⟨n1, n2⟩ := hh.no a y.wf
    refine ⟨dx, h, c, ?_, ?_, ?_, y.wf⟩
    · rw [upd_ne (ne_of y.ins hL (fun z => by cases z))]
      exact y.ins
    · rw [upd_ne (ne_of y.hu hL (fun z => n1 z.symm))]
      exact y.hu
    · rw [upd_ne (ne_of y.ch hL (fun z => n2 z.symm))]
      exact y.ch
theorem lam_updL {H : Hp} {Pt L : Addr} {xs : List V} {o : HO} {pos : Pos} {qual : Str} (l : Lam pos qual Pt H) (hL : H L = some (.lst xs)) : Lam pos qual Pt (upd H L o) := by
  rcases l with l | ⟨c', l1, l2⟩
  · exact .inl (by rw [upd_ne (ne_of l hL (fun z => by cases z))]; exact l)
  · exact .inr ⟨c', by rw [upd_ne (ne_of l1 hL (fun z => by cases z))]; exact l1, by rw [upd_ne (ne_of l2 hL (fun z => by cases z))]; exact l2⟩
theorem turn_end {Pt a t L : Addr} {H H3 : Hp} {ns : List Int} {pl p start : Nat} {args : List Nat} {c0 : List (List Int)} {rest : List (List (List Int))} {st : Option Abs} {out : List Int} {v7 : Option V} (D : Ends) (hD : ∀ m' σ' H', m' < ns.length - pl → AnsInv C Pt H a t L ns m' σ' H' → D.nx σ' H')
    (S : Lk.Said c0 p args) (hsaid : ∀ c ∈ rest, ∃ p args, Lk.Said c p args) (req : Req K H a ns) (hlen : (PyKv374.answers ns).length ≤ 10000000) (hout : out ++ Lk.left_out st (c0 :: rest) = PyKv374.answers ns) (hhead : Heady out) (fz : Fz H H3) (hst : StAt C H3 t st) (lam : Lam rfbPos rfbQual Pt H3)
    (hL3 : H3 L = some (.lst (intV out))) (hds : ns.drop start = args.map (fun (i : Nat) => (i : Int)) ++ PyFlat.put rest) (hsl : start ≤ ns.length) (hps : pl < start) :
    tTurn K C Pt D [some (.ref a), some (.ref t), some (.ref L), some (.int (pl : Int)), some (.int (p : Int)), some (.int (start : Int)), some (.int (args.length : Int)), v7] H3 := by
  refine ⟨_, rfl, _, rfl, _, rfl, _, rfl, _, rfl, _, rfl, _, rfl, _, _, rfl, rfl, _, rfl, a, _, rfl, req H3 fz, fun g hg => ?_⟩
  have s4 := same_upd (o := .lst (cutV (ns.map V.int) (some (start : Int)) (some ((start : Int) + (args.length : Int))))) hg
  have hg4 : (upd H3 g (.lst (cutV (ns.map V.int) (some (start : Int)) (some ((start : Int) + (args.length : Int)))))) g = some (.lst (natV args)) := by rw [upd_same, cut_args hds hsl]
  have hL4 := s4 _ _ hL3
  have fz4 := fz.trans (fz_same s4)
  have hst4 := hst.same s4
  have lam4 := lam.same s4
  refine ⟨t, g, p, args, st, rfl, S.lt, SqL.of hg4, ⟨S.len, S.row⟩, hst4, lam4, fun H5 q hst5 lam5 kp fr hq5 => ?_⟩
  obtain ⟨b, dx, l0, h, c, ht4⟩ := hst4.ins
  obtain ⟨ps4, hP4⟩ := lam_tbl lam4
  have fz5 := fz4.trans (fz_keep kp ⟨_, _, _, ht4⟩ hP4)
  have nLt := ne_of hL4 ht4 (fun z => by cases z)
  have nLP := ne_of hL4 hP4 (fun z => by cases z)
  have hL5 := kp _ _ hL4 nLt nLP hhead.no
  have nqL : q ≠ L := fun z => by
    rw [z] at fr
    rcases fr with fr | ⟨a', wa, fr | fr⟩
    · rw [hL4] at fr
      cases fr
    · rw [hL4] at fr
      exact (hhead.no a' wa).1 (Option.some.inj fr)
    · rw [hL4] at fr
      exact (hhead.no a' wa).2 (Option.some.inj fr)
  rw [Lk.out_cons S] at hout
  have hbound : out.length + (1 + (rowOfAns (Kv374.act st (Lk.mkCall p args)).2).length) ≤ 10000000 := by
    have := congrArg List.length hout
    rw [List.length_append, List.length_append, List.length_cons] at this
    have e0 : (rowOfAns (Kv374.act st (Lk.mkCall p args)).2).length = (Kv374Neutral.row (Kv374.act st (Lk.mkCall p args)).2).length := rfl
    omega
  have hsize : (10000000 : Nat) < sizeLine := by decide
  refine ⟨_, rfl, .inl ⟨rfl, _, SqL.of hL5⟩, _, rfl, q, _, rfl, .inl (SqL.of hq5), L, _, _, rfl, rfl, hL5, by rw [len_intV]; omega, ?_⟩
  rw [len_intV, intV_snoc]
  have hq6 : (upd H5 L (.lst (intV (out ++ [((rowOfAns (Kv374.act st (Lk.mkCall p args)).2).length : Int)])))) q = some (.lst (intV (rowOfAns (Kv374.act st (Lk.mkCall p args)).2))) := by
    rw [upd_ne nqL]
    exact hq5
  refine ⟨_, rfl, .inl ⟨rfl, _, SqL.of upd_same⟩, _, rfl, L, q, _, _, rfl, rfl, upd_same, hq6, ?_, ?_⟩
  · rw [len_intV, len_intV, List.length_append, List.length_singleton]
    omega
  refine ⟨_, rfl, _, rfl, _, _, rfl, rfl, ?_⟩
  have hlen2 : start + args.length ≤ ns.length := by
    have := congrArg List.length hds
    rw [List.length_drop, List.length_append, List.length_map] at this
    omega
  refine hD (ns.length - (start + args.length)) _ _ (by omega) ⟨_, _, _, _, start + args.length, rest, (Kv374.act st (Lk.mkCall p args)).1, out ++ ((rowOfAns (Kv374.act st (Lk.mkCall p args)).2).length : Int) :: rowOfAns (Kv374.act st (Lk.mkCall p args)).2, rfl, rfl, hlen2, ?_, hsaid, ?_, ?_, fun b' ob u e => ?_, ?_, ?_, ?_⟩
  · rw [← List.drop_drop, hds, List.drop_append_of_le_length (by simp), List.drop_of_length_le (by simp)]
    rfl
  · rw [← hout, List.append_assoc]
  · refine .inr ?_
    have hp := Lk.row_pos (Kv374.act st (Lk.mkCall p args)).2
    rcases hhead with rfl | ⟨x, r, rfl, hx⟩
    · exact ⟨_, _, rfl, by show (0 : Int) < ((Kv374Neutral.row (Kv374.act st (Lk.mkCall p args)).2).length : Int); omega⟩
    · exact ⟨x, _, rfl, hx⟩
  · have e5 := fz5 b' ob u e
    have nb := ne_of e5 hL5 (fun z => by cases z)
    rw [upd_ne nb, upd_ne nb]
    exact e5
  · rw [upd_upd]
    exact hst5.updL hL5 hhead
  · rw [upd_upd]
    exact lam_updL lam5 hL5
  · rw [upd_same]
    unfold intV
    rw [← List.map_append, List.append_assoc]
    rfl
theorem scAns : FnScope ["calls", "tree", "answered", "place", "number", "start", "size", "numbers"] ["calls"] (defScope sAns) := ⟨rfl, rfl, rfl, by decide +kernel, rfl, by decide +kernel, by decide +kernel⟩
theorem in_rows {p : Nat} : inV (V.int (p : Int)) [V.int 5, V.int 13] = Lk.isRow p := by
  unfold inV Lk.isRow eqV
  rw [Bool.eq_iff_iff]
  simp
  omega
theorem ok_ans {f Pt fI tp tr : Addr} {fd fdI : FuncData} {k0 : Nat} (F : Fun K "answers" "answers" sAns f fd) (T : Txt K mg C) (M : Mk K C fI) (GI : FnOk P w K mg base CX0 1 fI fdI ["self"] (spInit C)) (bI : Binds K fdI ["self"] [])
    (mtp : mg "PLAIN_NUMBERS" = some (.ref tp)) (htp : ∀ H : Hp, SqT K H tp (plainI.map V.int)) (mtr : mg "CALLS_WITH_ROW" = some (.ref tr)) (htr : ∀ H : Hp, SqT K H tr [V.int 5, V.int 13])
    (GA : Callee P w K mg base (k0 + 2) "answer_call" ["tree", "number", "given"] (spAC K C Pt)) : FnOk P w K mg base CX0 (k0 + 3) f fd ["calls"] (spAns K Pt) := by
  refine F.ok scAns (fun vs H Q E h => ?_) (fun cdv A outer s H vs Q E hr h => ?_)
  · obtain ⟨a, ns, rfl, _⟩ := h
    rfl
  obtain ⟨a, ns, rfl, req, asked, hPt, k⟩ := h
  have nd := scAns.nd
  have hr2 : Room 2 (A.deeper (envOfC "answers" (defScope sAns) s.heap.objs.size f cdv)) := hr.mono (by omega)
  refine ⟨_, pss_cons (ps_set (i := 1) nd rfl (Or.inl rfl) (pe_make0 M GI hr2 rfl T.mgC bI .nil pass0))
    (pss_cons (ps_set (i := 2) nd rfl (Or.inl rfl) (pe_lst pa_nil))
    (pss_cons (ps_set (i := 3) nd rfl (Or.inl rfl) pe_int)
    (pss_cons (ps_while PassesOwn.never (pt_cmpR op_lt (pv 3) (pe_callB call_len_seq (by rfl) T.len PySem.boot_len (pa_cons (pv 0) pa_nil)) (nomark _))
      (pss_cons (ps_set (i := 4) nd rfl (Or.inl rfl) (pe_ix ix_list (pv 0) (pv 3) (fun _ _ => rfl)))
      (pss_cons (ps_set (i := 5) nd rfl (Or.inl rfl) (pe_op op_add (pv 3) pe_int))
      (pss_cons (ps_set (i := 6) nd rfl (Or.inl rfl) (pe_ix ix_tup (pe_glob (v := .ref tp) rfl mtp rfl) (pv 4) (fun _ _ => rfl)))
      (pss_cons (ps_if (pt_cmpR op_in_seq (pv 4) (pe_glob (v := .ref tr) rfl mtr rfl) (by with_unfolding_all rfl)) (pss_cons (ps_set (i := 6) nd rfl (Or.inl rfl) (pe_ix ix_list (pv 0) (pv 5) (fun _ _ => rfl))) (pss_one (ps_aug (i := 5) nd rfl (Or.inl rfl) pe_int ip_add))) pss_nil)
      (pss_cons (ps_set (i := 7) nd rfl (Or.inl rfl) (pe_callC GA hr rfl (pa_cons (pv 1) (pa_cons (pv 4) (pa_cons (pe_slice sl_list (pv 0) (po_some (pv 5)) (po_some (pe_op op_add (pv 5) (pv 6)))) pa_nil)))))
      (pss_cons (ps_expr (pe_bm PySem.F.plainAttrs_list PySem.F.slot_list_append PySem.F.type_list_append mt_append (pv 2) (pa_cons (pe_callB call_len_seq (by rfl) T.len PySem.boot_len (pa_cons (pv 7) pa_nil)) pa_nil)))
      (pss_cons (ps_expr (pe_bm PySem.F.plainAttrs_list PySem.F.slot_list_extend PySem.F.type_list_extend mt_extend (pv 2) (pa_cons (pv 7) pa_nil)))
      (pss_one (ps_set (i := 3) nd rfl (Or.inl rfl) (pe_op op_add (pv 5) (pv 6))))))))))))
    (pss_one (ps_ret (pv 2)))))), ?_⟩
  obtain ⟨raw, eput, said, eans, hlen⟩ := Lk.asked_calls asked
  intro t dt nt ndt net
  refine ⟨t, dt, rfl, upd_same, fun H1 h c ht kp => ⟨rfl, ?_⟩⟩
  have s1 : Same H H1 := Same.made nt ndt kp
  refine ⟨Nat.zero_le _, fun L hL => ?_⟩
  have s2 : Same H1 (upd H1 L (.lst [])) := same_upd hL
  refine ⟨AnsInv C Pt H a t L ns, ⟨_, none, none, none, none, 0, raw, none, [], rfl, rfl, Nat.zero_le _, eput, said, by rw [eans]; rfl, .inl rfl, fz_same (s1.trans s2), ⟨dt, 0, h, c, s2 _ _ ht⟩, .inl (s2 _ _ (s1 _ _ hPt)), upd_same⟩, ?_⟩
  rintro m σ H3 ⟨v4, v5, v6, v7, pl, rest, st, out, rfl, rfl, hpl, hdrop, hsaid, hout, hhead, fz, hst, lam, hL3⟩
  have hreq := req H3 fz
  refine ⟨_, rfl, _, rfl, a, _, rfl, .inl hreq, _, _, rfl, rfl, _, rfl, ?_⟩
  rw [List.length_map]
  cases rest with
  | nil =>
    have hend : ¬ pl < ns.length := fun z => by
      have := congrArg List.length hdrop
      rw [List.length_drop] at this
      have e0 : (PyFlat.put []).length = 0 := rfl
      omega
    rw [decide_eq_false (show ¬ ((pl : Int) < (ns.length : Int)) by omega)]
    refine iteF ⟨_, rfl, k H3 L ?_⟩
    rw [← hout]
    show _ = some (HO.lst (intV (out ++ [])))
    rw [List.append_nil]
    exact hL3
  | cons c0 rest =>
    obtain ⟨p, args, S⟩ := hsaid c0 List.mem_cons_self
    have hsaid' : ∀ c ∈ rest, ∃ p args, Lk.Said c p args := fun c hc => hsaid c (List.mem_cons_of_mem _ hc)
    have hdrop' : ns.drop pl = PyFlat.put1 c0 ++ PyFlat.put rest := hdrop
    have hp1 := Lk.put_len_pos S
    have hlt : pl < ns.length := by
      have := congrArg List.length hdrop'
      rw [List.length_drop, List.length_append] at this
      omega
    rw [decide_eq_true (show (pl : Int) < (ns.length : Int) by omega)]
    refine iteT ⟨fun σ' H' => ∃ m', m' < ns.length - pl ∧ AnsInv C Pt H a t L ns m' σ' H', fun σ' H' z => z, ?_⟩
    have gV : ∀ {j : Nat} {x : Int}, ns[j]? = some x → atI (ns.map V.int) ((j : Nat) : Int) = some (.int x) := fun {j x} e => atI_nat (by rw [List.getElem?_map, e]; rfl)
    have hplain : (plainI.map V.int)[p]? = some (.int ((Lk.plain.getD p 0 : Nat) : Int)) := by
      unfold plainI
      have hp22 : p < Lk.plain.length := S.lt
      rw [List.getElem?_map, List.getElem?_map, List.getElem?_eq_getElem hp22, List.getD_eq_getElem?_getD, List.getElem?_eq_getElem hp22]
      rfl
    have hput := S.put
    cases hrow : Lk.isRow p with
    | false =>
      rw [hrow] at hput
      have hput : PyFlat.put1 c0 = (p : Int) :: args.map (fun (i : Nat) => (i : Int)) := hput
      rw [hput, List.cons_append] at hdrop'
      obtain ⟨g0, hd1, _⟩ := drop_cons hdrop'
      refine ⟨_, rfl, _, rfl, a, _, _, _, rfl, rfl, hreq, gV g0, _, rfl, _, _, rfl, rfl, _, rfl, tp, _, _, _, rfl, rfl, htp H3, atI_nat hplain, _, rfl, tr, _, rfl, .inr (htr H3), rfl, rfl, _, rfl, ?_⟩
      rw [show (if false = true then !inV (V.int (p : Int)) [V.int 5, V.int 13] else inV (V.int (p : Int)) [V.int 5, V.int 13]) = Lk.isRow p from in_rows, hrow]
      refine iteF ?_
      have e1 : (pl : Int) + 1 = ((pl + 1 : Nat) : Int) := by omega
      have e2 : Lk.plain.getD p 0 = args.length := (S.len hrow).symm
      show tTurn K C Pt _ [some (.ref a), some (.ref t), some (.ref L), some (.int (pl : Int)), some (.int (p : Int)), some (.int ((pl : Int) + 1)), some (.int ((Lk.plain.getD p 0 : Nat) : Int)), v7] H3
      rw [e1, e2]
      exact turn_end _ (fun m' σ' H' h1 h2 => ⟨m', h1, h2⟩) S hsaid' req hlen hout hhead fz hst lam hL3 hd1 (by omega) (by omega)
    | true =>
      rw [hrow] at hput
      have hput : PyFlat.put1 c0 = (p : Int) :: (args.length : Int) :: args.map (fun (i : Nat) => (i : Int)) := hput
      rw [hput, List.cons_append, List.cons_append] at hdrop'
      obtain ⟨g0, hd1, _⟩ := drop_cons hdrop'
      obtain ⟨g1, hd2, hlt2⟩ := drop_cons hd1
      have e1 : (pl : Int) + 1 = ((pl + 1 : Nat) : Int) := by omega
      refine ⟨_, rfl, _, rfl, a, _, _, _, rfl, rfl, hreq, gV g0, _, rfl, _, _, rfl, rfl, _, rfl, tp, _, _, _, rfl, rfl, htp H3, atI_nat hplain, _, rfl, tr, _, rfl, .inr (htr H3), rfl, rfl, _, rfl, ?_⟩
      rw [show (if false = true then !inV (V.int (p : Int)) [V.int 5, V.int 13] else inV (V.int (p : Int)) [V.int 5, V.int 13]) = Lk.isRow p from in_rows, hrow]
      refine iteT ?_
      refine ⟨_, rfl, _, rfl, a, _, _, _, rfl, rfl, hreq, (by show atI (ns.map V.int) ((pl : Int) + 1) = _; rw [e1]; exact gV g1), _, rfl, _, _, rfl, rfl, ?_⟩
      have e3 : (pl : Int) + 1 + 1 = ((pl + 1 + 1 : Nat) : Int) := by omega
      show tTurn K C Pt _ [some (.ref a), some (.ref t), some (.ref L), some (.int (pl : Int)), some (.int (p : Int)), some (.int ((pl : Int) + 1 + 1)), some (.int (args.length : Int)), v7] H3
      rw [e3]
      exact turn_end _ (fun m' σ' H' h1 h2 => ⟨m', h1, h2⟩) S hsaid' req hlen hout hhead fz hst lam hL3 hd2 (by omega) (by omega)
end
end Le

end
section
set_option Elab.async false
set_option linter.all false
set_option maxRecDepth 100000
set_option maxHeartbeats 4000000
namespace L2
open PySem PySem.Spec PyProof.Rows
open PySem.W (WData Codec OpenSpec Well WellAll ReadsW ReadsAllW)
theorem SqL.same' {K : PySem.W.Frag} {H H' : Hp} {a : Addr} {xs : List V} (e : Same H H') (h : SqL K H a xs) : SqL K H' a xs := e.seq h
theorem SqT.same' {K : PySem.W.Frag} {H H' : Hp} {a : Addr} {xs : List V} (e : Same H H') (h : SqT K H a xs) : SqT K H' a xs := by
  rcases h with (h | ⟨o, h⟩) | h
  · exact .inl (.inl (e _ _ h))
  · exact .inl (.inr ⟨o, e _ _ h⟩)
  · exact .inr h
noncomputable def OnlyT (Pt : Addr) (H : Hp) : Prop := ∀ b, H b = none ∨ (∃ o u, H b = some (.frz o u)) ∨ (b = Pt ∧ H b = some (.tbl #[]))
theorem spec_callT {P : Program} {w : World} {K : PySem.W.Frag} {mg mb : Str → Option Value} {CX : CXT} {k : Nat} {fa c Pt bm : Addr} {ob : Obj} {fd : FuncData} {ps : List Str} {sp : Sp} {s₁ : Shared} {vals : List Value} {ds : List WData} {R : PySem.W.WRecords} {cl : Str → Option Addr} {d0 : WData}
    (KX : K.In s₁.heap) (hns : s₁.heap.Ns mainGlobals mg) (hb : s₁.heap.Ns builtinsNs mb) (hbb : ∀ x : Str, x ≠ "__name__" → mb x = bootBuiltins x) (hlim : s₁.heap.NoLimit) (hg : s₁.gens = #[])
    (hCd : PySem.W.CodeHd s₁.heap c Pt) (hTb : s₁.heap.get? Pt = some (PySem.W.tabObj #[])) (hKP : K.lookup Pt = none)
    (hbm : mg "__builtins__" = some (.ref bm)) (hbn : bm ≠ builtinsNs) (hbo : s₁.heap.get? bm = some ob) (hbc : ob.cls = .type "module") (hbd : ob.dict = some builtinsNs) (hbp : ob.data = .plain)
    (hwl : WellAll w.params s₁.heap vals ds) (hpl : plWs ds = true) (hwt : ∀ d ∈ ds, d.weight ≤ 1048576) (hr : Room k callerA)
    (F : ∀ base : Heap, K.In base → base.Ns mainGlobals mg → PySem.W.CodeHd base c Pt → base.BuiltinsAt mg Pt → FnOk P w K mg base CX k fa fd ps sp) (hbind : ∀ (s : Shared) (us : List Value), us.length = ps.length → BindsTo s fd ⟨us, []⟩ (ps.zip us)) (hlen : ds.length = ps.length)
    (hsp : ∀ (H0 H : Hp) (xs : List V), OnlyF H0 → DwAll K H0 xs ds → (∀ b ob u, H0 b = some (.frz ob u) → H b = some (.frz ob u)) → H Pt = some (.tbl #[]) → sp xs H (fun v H' => Dw K H' v d0) fun _ _ _ => False)
    (hCX : ∀ H e s', CX [] H s₁ (fun _ _ _ => False) e s' → False) :
    codeAny (model P w) callerA (.call (.ref fa) ⟨vals, []⟩) (fun r s' => ∃ u as, r = .ok (.ret u) ∧ ReadsW R cl s'.heap u d0 as ∧ OldK s₁.heap s'.heap ∧ s'.os = s₁.os ∧ AllBare s'.gens) s₁ := by
  obtain ⟨A, ho, ar⟩ := area_all ds vals hwl hpl hwt
  have hO : OnlyF (argH K s₁.heap A) := argH_only ar
  have hok0 : HOk P w (argH K s₁.heap A) s₁.heap := argH_ok ar
  have hS := dw_all KX ar ds vals hwl hpl ho
  have hV := vals_toV ho
  have hK0 : ∀ b u, argH K s₁.heap A b = some u → K.lookup b = none := fun b u q => (argH_is ar q).1
  have isSeq : ∀ {b : Addr} {u : HO}, argH K s₁.heap A b = some u → ∃ (vs : List Value) (o : Obj), s₁.heap.get? b = some o ∧ o.data = .seq vs.toArray 0 := fun {b u} q => by
    obtain ⟨_, vs, _, _, ⟨e2, _⟩ | ⟨e2, _⟩⟩ := argH_is ar q
    · exact ⟨vs, _, e2, rfl⟩
    · exact ⟨vs, _, e2, rfl⟩
  have noA : ∀ {b : Addr} {o : Obj}, s₁.heap.get? b = some o → (∀ vs, o.data ≠ .seq vs 0) → argH K s₁.heap A b = none := fun {b o} e d => by
    cases q : argH K s₁.heap A b with
    | none => rfl
    | some u =>
      obtain ⟨vs, o2, e2, d2⟩ := isSeq q
      rw [e] at e2
      cases e2
      exact absurd d2 (d _)
  have hP0 : argH K s₁.heap A Pt = none := noA hTb (fun vs z => by cases z)
  have kpF : ∀ b ob u, argH K s₁.heap A b = some (.frz ob u) → (upd (argH K s₁.heap A) Pt (.tbl #[])) b = some (.frz ob u) := fun b ob u e => by
    rw [upd_ne (fun z => by rw [z, hP0] at e; cases e)]
    exact e
  have hspH := hsp _ (upd (argH K s₁.heap A) Pt (.tbl #[])) _ hO hS kpF upd_same
  have hOT : OnlyT Pt (upd (argH K s₁.heap A) Pt (.tbl #[])) := fun b => by
    by_cases hbP : b = Pt
    · subst hbP
      exact .inr (.inr ⟨rfl, upd_same⟩)
    · rw [upd_ne hbP]
      rcases hO b with z | z
      · exact .inl z
      · exact .inr (.inl z)
  have hok : HOk P w (upd (argH K s₁.heap A) Pt (.tbl #[])) s₁.heap := fun b u e => by
    by_cases hbP : b = Pt
    · subst hbP
      rw [upd_same] at e
      cases e
      exact hTb
    · rw [upd_ne hbP] at e
      refine (hok0 b u e).stay (fun d v _ q => q) (fun d q => ?_) fun d xs q => ?_
      · rw [upd_ne (fun z => by rw [z, hP0] at q; cases q)]
        exact q
      · rw [upd_ne (fun z => by rw [z, hP0] at q; cases q)]
        exact q
  have noT : ∀ {b : Addr} {o : Obj}, s₁.heap.get? b = some o → (∀ vs, o.data ≠ .seq vs 0) → (∀ vs, o.data ≠ .fields vs) → (upd (argH K s₁.heap A) Pt (.tbl #[])) b = none := fun {b o} e d1 d2 => by
    have hbP : b ≠ Pt := fun z => by
      rw [z, hTb] at e
      cases e
      exact d2 _ rfl
    rw [upd_ne hbP]
    exact noA e d1
  have nK : ∀ b o, K.lookup b = some o → (upd (argH K s₁.heap A) Pt (.tbl #[])) b = none := fun b o e => by
    have hbP : b ≠ Pt := fun z => by
      rw [z, hKP] at e
      cases e
    rw [upd_ne hbP]
    cases q : argH K s₁.heap A b with
    | none => rfl
    | some u =>
      rw [hK0 b u q] at e
      cases e
  have hcN : (upd (argH K s₁.heap A) Pt (.tbl #[])) c = none := by
    obtain ⟨o, vs, file, tf', flags, tg, inF, text, tt, e1, e2, e3, _, _, _, _, _, _, hne⟩ := hCd
    rw [upd_ne hne]
    exact noA e1 (fun vs z => by rw [e3] at z; cases z)
  have hHP : (upd (argH K s₁.heap A) Pt (.tbl #[])) Pt = some (.tbl #[]) := upd_same
  generalize (upd (argH K s₁.heap A) Pt (.tbl #[])) = H at hspH hOT hok noT nK hcN hHP
  have base_of : ∀ {b : Addr} {o : Obj}, s₁.heap.get? b = some o → H b = none → (hidT s₁.heap H).get? b = some o := fun e n => hidT_get e n
  have nsK : ∀ {b : Addr} {m : Str → Option Value}, s₁.heap.Ns b m → (hidT s₁.heap H).Ns b m := fun {b m} ⟨o, es, ep, e, d, r⟩ => ⟨o, es, ep, base_of e (noT e (fun vs z => by rw [d] at z; cases z) (fun vs z => by rw [d] at z; cases z)), d, r⟩
  have hKb : K.In (hidT s₁.heap H) := fun b o e => base_of (KX b o e) (nK b o e)
  have hM : Mod K mg (hidT s₁.heap H) := ⟨hKb, nsK hns, ⟨mb, nsK hb, hbb⟩, let ⟨mc, h1, h2⟩ := hlim; ⟨mc, nsK h1, h2⟩⟩
  have hCb : PySem.W.CodeHd (hidT s₁.heap H) c Pt := by
    obtain ⟨o, vs, file, tf', flags, tg, inF, text, tt, e1, r⟩ := hCd
    exact ⟨o, vs, file, tf', flags, tg, inF, text, tt, base_of e1 hcN, r⟩
  have hBb : (hidT s₁.heap H).BuiltinsAt mg Pt := by
    refine ⟨bm, ob, hbm, hbn, fun z => ?_, fun z => ?_, base_of hbo (noT hbo (fun vs z => by rw [hbp] at z; cases z) (fun vs z => by rw [hbp] at z; cases z)), hbc, hbd, hbp⟩
    · obtain ⟨o, es, ep, e, d, _⟩ := hns
      rw [z, e] at hbo
      cases hbo
      rw [d] at hbp
      cases hbp
    · rw [z, hTb] at hbo
      cases hbo
      cases hbp
  have e0 : Env0 P w K mg (hidT s₁.heap H) callerA [] s₁ H := ⟨rfl, hM, fun b o e => of_hidT e, Nat.le_of_eq (hidT_size _ _), trivial, fun b hb => absurd (show b ∈ ([] : List Addr) from hb) (by simp), hok, .of_eq hg⟩
  have hl : vals.length = ps.length := by rw [wellAll_len hwl]; exact hlen
  refine codeAny_mono ((F _ hKb (nsK hns) hCb hBb).run callerA [] s₁ H ⟨vals, []⟩ vals (vals.map toV) _ _ hr e0 (hbind s₁ vals hl) hV hspH) fun r s' x => ?_
  cases r with
  | error e => exact (hCX H e s' x).elim
  | ok fl =>
    cases fl with
    | next => exact False.elim x
    | brk => exact False.elim x
    | cont => exact False.elim x
    | ret u =>
      obtain ⟨v, H', os, bare, un, hok', r', q⟩ := x
      have kept : ∀ b o, b ≠ Pt → s₁.heap.get? b = some o → s'.heap.get? b = some o := fun b o hbP e => by
        cases q2 : H b with
        | none => exact un.keep b o e q2 (by intro z; exact absurd (show b ∈ ([] : List Addr) from z) (by simp)) (by simp)
        | some u2 =>
          rcases hOT b with z | ⟨ob, u3, z⟩ | ⟨z, _⟩
          · rw [q2] at z
            cases z
          · have z2 := un.frzs b ob _ z
            obtain ⟨e1, _⟩ := hok b _ z
            obtain ⟨e2, _⟩ := hok' b _ z2
            rw [e] at e1
            cases e1
            exact e2
          · exact absurd z hbP
      obtain ⟨more, hm⟩ := un.tbls Pt #[] hHP
      have hPt' : s'.heap.get? Pt = some (PySem.W.tabObj more) := by
        have := hok' Pt _ hm
        rw [Array.empty_append] at this
        exact this
      have KX' : K.In s'.heap := fun b o e => kept b o (fun z => by rw [z, hKP] at e; cases e) (KX b o e)
      obtain ⟨as, hrd⟩ := Dw.reads (R := R) (cl := cl) hok' KX' d0 v u q r'
      refine ⟨u, as, rfl, hrd, ⟨fun b o e => ?_, fun b o e => ?_⟩, os, bare⟩
      · by_cases hbP : b = Pt
        · subst hbP
          rw [hTb] at e
          cases e
          exact .inr (.inl ⟨(hCd.tab hTb).isCodeTable, rfl, #[], more, rfl, by rw [Array.empty_append]; exact hPt'⟩)
        · exact .inl (kept b o hbP e)
      · by_cases hbP : b = Pt
        · subst hbP
          exact ⟨_, hPt'⟩
        · exact ⟨o, kept b o hbP e⟩
end L2

end
section
set_option Elab.async false
set_option linter.all false
set_option maxRecDepth 100000
set_option maxHeartbeats 4000000
namespace L2
open PySem PySem.Spec PyProof.Rows
open PySem.W (WData Codec OpenSpec Well WellAll ReadsW ReadsAllW)
theorem walk_specT {r : OpenSpec} {k : Nat} {q : Program} {loose : List Str} {XP : (Str → Option Value) → Heap → Prop} {YP : World → Heap → Prop} {d dn : DefRec} {K : Params → PySem.W.Frag} {CX : CXT} {ps : List Str} {sp : PySem.W.Frag → Addr → Sp} (nm : Str)
    (hwell : r.wellSaid = true) (hdf : d.params.defaults = []) (hlen : r.args.length = ps.length) (hr : Room k callerA)
    (hY : ∀ (w : World) (h : Heap), YP w h → (K w.params).In h) (hrec : (recsOf q).find? (fun e => e.name == nm) = some dn)
    (F : ∀ (w : World) (mg : Str → Option Value) (fa : Addr) (h : Heap), YP w h → (K w.params).In h → h.Ns mainGlobals mg → mg d.name = some (.ref fa) →
      ∃ (fd : FuncData) (c Pt : Addr), PySem.W.tabIn (K w.params) nm = some (c, Pt) ∧ (K w.params).lookup Pt = none ∧ (∀ (s : Shared) (us : List Value), us.length = ps.length → BindsTo s fd ⟨us, []⟩ (ps.zip us)) ∧
        ∀ base : Heap, (K w.params).In base → base.Ns mainGlobals mg → PySem.W.CodeHd base c Pt → base.BuiltinsAt mg Pt → FnOk r.prog w (K w.params) mg base CX k fa fd ps (sp (K w.params) Pt))
    (hsp : ∀ (K : PySem.W.Frag) (Pt : Addr) (H0 H : Hp) (xs : List V) (a : Codec.denoteAll r.args), OnlyF H0 → Codec.withinAll r.args a = true → Codec.app r.args r.asked a = true → DwAll K H0 xs (Codec.encAll r.args a) →
      (∀ b ob u, H0 b = some (.frz ob u) → H b = some (.frz ob u)) → H Pt = some (.tbl #[]) → sp K Pt xs H (fun v H' => Dw K H' v (r.ret.enc (Codec.app r.args r.f a))) fun _ _ _ => False)
    (hCX : ∀ (H : Hp) (s : Shared) (e : Value) (s' : Shared), CX [] H s (fun _ _ _ => False) e s' → False) :
    PySem.W.WalkOS q loose XP YP r d [] (fun f vs => PySem.call f vs) := by
  intro w s_0 s₁ mg mb G Y fa o pm cd doc dV kV ho hd hcd hD hmg hg args vals as hpre hlay hrd hwl hlo
  obtain ⟨a, e1, e2⟩ := PySem.W.os_pre_some hpre
  obtain ⟨e3, hwi⟩ := Codec.encAll_of_decAll r.args args a e1
  subst e3
  have KX := hY w _ Y
  obtain ⟨fd, c, Pt, ht, hKP, hb, hF⟩ := F w mg fa _ Y KX G.T.g hmg
  obtain ⟨hCd, hTb⟩ := PySem.W.tab_of G.T KX hrec ht
  obtain ⟨bm, ob, b1, b2, b3, b4, b5, b6⟩ := G.T.bmain
  refine PySem.W.enter_call (codeAny_mono (spec_callT (R := []) (cl := classAt s_0.heap) (d0 := r.ret.enc (Codec.app r.args r.f a)) KX G.T.g G.T.b G.T.builtins G.T.nolimit hg hCd hTb hKP b1 b2 b3 b4 b5 b6 hwl (pl_encAll _ _) (layable_weight hlay) hr hF hb (by rw [encAll_len]; exact hlen)
    (fun H0 H xs hO hS h1 h2 => hsp (K w.params) Pt H0 H xs a hO hwi e2 hS h1 h2) fun H e s' => hCX H s₁ e s') fun r' s' hq => ?_)
  obtain ⟨u, as', rfl, h1, h2, h3, h4⟩ := hq
  exact ⟨.inl ⟨u, _, as', rfl, fun _ => rfl, h1, (OpenSpec.post_iff hwell hwi _ _).mpr rfl, fun z => Bool.noConfusion (show false = true from z)⟩, h2, h3, h4⟩
end L2
namespace Le
open PySem PySem.Spec PyProof.Rows L2
noncomputable def FnIn (K : PySem.W.Frag) (x : Str) (st : Stmt) : Prop := ∃ (f : Addr) (fd : FuncData), PySem.W.nsIn K mainGlobals x = some (some (.ref f)) ∧ Fun K x x st f fd
theorem fn_in {K : PySem.W.Frag} {x : Str} {st : Stmt} {f : Addr} {oc : Value} {od an : Option Addr} {osl : Array (Option Value)} {kV doc pm cdv ct : Value} (a : PySem.W.nsIn K mainGlobals x = some (some (.ref f)))
    (l : K.lookup f = some ⟨oc, od, .func (PySem.W.fnOf x x (defArgs st) (defBody st) (defScope st) .none kV doc pm an cdv ct), osl⟩) (c : PySem.W.codeIn K cdv x = true) (k : PySem.W.keepIn K (.ref f) = true) : FnIn K x st := ⟨f, _, a, fun_mk l c k⟩
noncomputable def MtIn (K : PySem.W.Frag) (C : Addr) (m qual : Str) (st : Stmt) : Prop := ∃ (f : Addr) (fd : FuncData), Meth K C m f ∧ Fun K m qual st f fd
theorem mt_in {K : PySem.W.Frag} {C : Addr} {m qual : Str} {st : Stmt} {f : Addr} {oc : Value} {od an : Option Addr} {osl : Array (Option Value)} {kV doc pm cdv ct : Value} (a : PySem.W.findIn K (.ref C) m = some (some (.ref f))) (i : PySem.W.isFn K (.ref f) = true)
    (l : K.lookup f = some ⟨oc, od, .func (PySem.W.fnOf m qual (defArgs st) (defBody st) (defScope st) .none kV doc pm an cdv ct), osl⟩) (c : PySem.W.codeIn K cdv qual = true) (k : PySem.W.keepIn K (.ref f) = true) : MtIn K C m qual st := ⟨f, _, ⟨a, i, k⟩, fun_mk l c k⟩
noncomputable def CsIn (K : PySem.W.Frag) (x : Str) (z : Int) : Prop := ∃ t, PySem.W.nsIn K mainGlobals x = some (some (.int z t))
theorem cs_in {K : PySem.W.Frag} {x : Str} {z : Int} {t : Tok} (h : PySem.W.nsIn K mainGlobals x = some (some (.int z t))) : CsIn K x z := ⟨t, h⟩
end Le

end
section
set_option Elab.async false
set_option linter.all false
set_option maxRecDepth 100000
set_option maxHeartbeats 4000000
namespace Le
open PySem PySem.Spec PyProof.Rows L2
open Kv374 (Abs Part has add far)
section
variable {P : Program} {w : World} {K : PySem.W.Frag} {mg : Str → Option Value} {base : Heap}
theorem to_callee {k : Nat} {x : Str} {st : Stmt} {f : Addr} {fd : FuncData} {ps : List Str} {sp : Sp} (m : mg x = some (.ref f)) (F : Fun K x x st f fd) (b : Binds K fd ps []) (ok : FnOk P w K mg base CX0 k f fd ps sp) : Callee P w K mg base k x ps sp := ⟨f, fd, ok, m, F.kp, b⟩
theorem to_mcallee {k : Nat} {C : Addr} {m qual : Str} {st : Stmt} {f : Addr} {fd : FuncData} {ps : List Str} {sp : Sp} (h : Meth K C m f) (F : Fun K m qual st f fd) (b : Binds K fd ps []) (ok : FnOk P w K mg base CX0 k f fd ps sp) : MCallee P w K mg base C k m ps sp := ⟨f, fd, ok, h, b⟩
structure Facts (K : PySem.W.Frag) (C : Addr) : Prop where
  aC : PySem.W.nsIn K mainGlobals "Tree" = some (some (.ref C))
  cl : Cls K C
  nB : NoAttr K C "begun"
  nL : NoAttr K C "first_lean"
  nH : NoAttr K C "hung_on"
  nC : NoAttr K C "changes"
  len : PySem.W.nsIn K mainGlobals "len" = some none
  range : PySem.W.nsIn K mainGlobals "range" = some none
  list : PySem.W.nsIn K mainGlobals "list" = some none
  abs : PySem.W.nsIn K mainGlobals "abs" = some none
  sum : PySem.W.nsIn K mainGlobals "sum" = some none
  min : PySem.W.nsIn K mainGlobals "min" = some none
  max : PySem.W.nsIn K mainGlobals "max" = some none
  sorted : PySem.W.nsIn K mainGlobals "sorted" = some none
  reversed : PySem.W.nsIn K mainGlobals "reversed" = some none
theorem Facts.txt {C : Addr} {h : Heap} (X : K.In h) (G : h.Ns mainGlobals mg) (F : Facts K C) : Txt K mg C :=
  ⟨F.cl, F.nB, F.nL, F.nH, F.nC, PySem.W.mg_of X G F.aC, PySem.W.mg_none_of X G F.len, PySem.W.mg_none_of X G F.range, PySem.W.mg_none_of X G F.list, PySem.W.mg_none_of X G F.abs, PySem.W.mg_none_of X G F.sum, PySem.W.mg_none_of X G F.min,
    PySem.W.mg_none_of X G F.max, PySem.W.mg_none_of X G F.sorted, PySem.W.mg_none_of X G F.reversed⟩
theorem CsIn.cst {h : Heap} {x : Str} {z : Int} (X : K.In h) (G : h.Ns mainGlobals mg) (c : CsIn K x z) : Cst mg x z := by
  obtain ⟨t, e⟩ := c
  exact ⟨t, PySem.W.mg_of X G e⟩
structure Reck (P : Program) (w : World) (K : PySem.W.Frag) (mg : Str → Option Value) (base : Heap) (C Pt : Addr) : Prop where
  count : MCallee P w K mg base C 1 "part_count" ["self"] (spCount C)
  loose : MCallee P w K mg base C 1 "loose_parts" ["self"] (spLoose C)
  on : MCallee P w K mg base C 2 "boughs_on" ["self", "part"] (spOn C)
  anew : MCallee P w K mg base C 1 "begin_anew" ["self", "first_lean"] (spAnew C)
  hang : MCallee P w K mg base C 1 "hang" ["self", "part", "change"] (spHang C)
  drop : MCallee P w K mg base C 1 "drop_last" ["self"] (spDrop C)
  leans : Callee P w K mg base 1 "leans_by" ["tree", "row"] (spLeans K C)
  soon : Callee P w K mg base 3 "first_too_soon" ["tree", "row"] (spSoon K C)
  bit : Callee P w K mg base 1 "bit_of" ["part"] spBit
  bits : Callee P w K mg base 2 "bits_of" ["parts"] (spBits K)
  bop : Callee P w K mg base 3 "bits_on_parts" ["tree"] (spBoP C)
  may : Callee P w K mg base 2 "may_come_off" ["hanging", "off"] (spMay K)
  when : Callee P w K mg base 2 "lean_when" ["tree", "off"] (spWhen C)
  from_ : Callee P w K mg base 3 "least_from" ["tree", "hanging", "side"] (spFrom K C)
  far : Callee P w K mg base 4 "least_far" ["tree", "side"] (spFar C)
  ord : Callee P w K mg base 4 "least_order" ["tree", "side"] (spOrd C)
  rows : Callee P w K mg base 7 "rows_of_tree" ["tree"] (spRows C Pt)
  peak : Callee P w K mg base 1 "peak" ["changes", "row"] (spPeak K)
  total : Callee P w K mg base 1 "total" ["changes", "row"] (spTotal K)
  twin : MCallee P w K mg base C 3 "twin" ["self"] (spTwin C)
  beg : Callee P w K mg base 4 "least_beginning_with" ["tree", "part", "side"] (spBeg C)
  cnt : Callee P w K mg base 4 "count_orders" ["tree"] (spCnt C)
  next : Callee P w K mg base 4 "next_behind" ["tree", "row"] (spNext K C)
  nob : Callee P w K mg base 2 "is_no_bough" ["tree", "part"] (spNob C)
  change : Callee P w K mg base 3 "change" ["tree", "given"] (spD K C (fun l => l.length = 2) fun l => .change (l.getD 0 0) (l.getD 1 0))
  lean : Callee P w K mg base 1 "lean" ["tree", "given"] (spD K C (fun l => l.length = 1) fun l => .lean (l.getD 0 0))
  right : Callee P w K mg base 5 "right" ["tree", "given"] (spS C fun a => [0, a.least 0])
  both : Callee P w K mg base 5 "both" ["tree", "given"] (spS C fun a => [0, a.least 2])
theorem reck {C Pt c frfb fI : Addr} {fdr fdI : FuncData} {h : Heap} (X : K.In h) (G : h.Ns mainGlobals mg) (T : Txt K mg C) (hC : PySem.W.CodeHd base c Pt) (hB : base.BuiltinsAt mg Pt) (cR : Cst mg "RIGHT" 0) (cL : Cst mg "LEFT" 1)
    (mCount : MtIn K C "part_count" "Tree.part_count" sCount) (mLoose : MtIn K C "loose_parts" "Tree.loose_parts" sLoose) (mOn : MtIn K C "boughs_on" "Tree.boughs_on" sOn) (mAnew : MtIn K C "begin_anew" "Tree.begin_anew" sAnew) (mHang : MtIn K C "hang" "Tree.hang" sHang) (mDrop : MtIn K C "drop_last" "Tree.drop_last" sDrop)
    (fLeans : FnIn K "leans_by" sLeans) (fSoon : FnIn K "first_too_soon" sSoon) (fHow : FnIn K "how_far" sHow) (fBit : FnIn K "bit_of" sBit) (fBits : FnIn K "bits_of" sBits) (fBoP : FnIn K "bits_on_parts" sBoP) (fMay : FnIn K "may_come_off" sMay) (fWhen : FnIn K "lean_when" sWhen)
    (fFrom : FnIn K "least_from" sFrom) (fFar : FnIn K "least_far" sFar) (fOrd : FnIn K "least_order" sOrd) (fPeak : FnIn K "peak" sPeak) (fTotal : FnIn K "total" sTotal) (fStand : FnIn K "standing" sStand) (aRfb : PySem.W.nsIn K mainGlobals "rows_for_boughs" = some (some (.ref frfb))) (fRfb : FunC K "rows_for_boughs" "rows_for_boughs" sRfb frfb fdr c)
    (fWith : FnIn K "with_part" sWith) (fRows : FnIn K "rows_of_tree" sRows)
    (M : Mk K C fI) (GI : FnOk P w K mg base CX0 1 fI fdI ["self"] (spInit C)) (bI : Binds K fdI ["self"] []) (c2 : Cst mg "NO_SUCH_PART" (-2)) (c22 : Cst mg "NOT_AS_TOLD" (-22)) (cGC : Cst mg "GREATEST_CHANGE" 100) (cCS : Cst mg "CHANGE_SHIFT" 50) (cGL : Cst mg "GREATEST_LEAN" 400) (cLS : Cst mg "LEAN_SHIFT" 200) (cE : Cst mg "EITHER" 2)
    (mTwin : MtIn K C "twin" "Tree.twin" sTwin) (fBeg : FnIn K "least_beginning_with" sBeg) (fCnt : FnIn K "count_orders" sCnt) (fNext : FnIn K "next_behind" sNext) (fNob : FnIn K "is_no_bough" sNob) (fChange : FnIn K "change" sChange) (fLean : FnIn K "lean" sLean) (fRight : FnIn K "right" sRight) (fBoth : FnIn K "both" sBoth) : Reck P w K mg base C Pt := by
  have b1 : ∀ {x qual : Str} {st : Stmt} {f : Addr} {fd : FuncData} {p : Str}, Fun K x qual st f fd → (∀ (kV doc pm : Value) (an : Option Addr) (cdv ct u : Value), bindArgs (PySem.W.fnOf x qual (defArgs st) (defBody st) (defScope st) .none kV doc pm an cdv ct) ⟨[u], []⟩ = pure [(p, u)]) → Binds K fd [p] [] := fun F h =>
    F.binds fun kV doc pm an cdv ct us hl => match us, hl with | [u], _ => h kV doc pm an cdv ct u
  have b2 : ∀ {x qual : Str} {st : Stmt} {f : Addr} {fd : FuncData} {p p2 : Str}, Fun K x qual st f fd → (∀ (kV doc pm : Value) (an : Option Addr) (cdv ct u u2 : Value), bindArgs (PySem.W.fnOf x qual (defArgs st) (defBody st) (defScope st) .none kV doc pm an cdv ct) ⟨[u, u2], []⟩ = pure [(p, u), (p2, u2)]) → Binds K fd [p, p2] [] := fun F h =>
    F.binds fun kV doc pm an cdv ct us hl => match us, hl with | [u, u2], _ => h kV doc pm an cdv ct u u2
  have b3 : ∀ {x qual : Str} {st : Stmt} {f : Addr} {fd : FuncData} {p p2 p3 : Str}, Fun K x qual st f fd → (∀ (kV doc pm : Value) (an : Option Addr) (cdv ct u u2 u3 : Value), bindArgs (PySem.W.fnOf x qual (defArgs st) (defBody st) (defScope st) .none kV doc pm an cdv ct) ⟨[u, u2, u3], []⟩ = pure [(p, u), (p2, u2), (p3, u3)]) → Binds K fd [p, p2, p3] [] := fun F h =>
    F.binds fun kV doc pm an cdv ct us hl => match us, hl with | [u, u2, u3], _ => h kV doc pm an cdv ct u u2 u3
  obtain ⟨_, _, mc, Fc⟩ := mCount
  have count : MCallee P w K mg base C 1 "part_count" ["self"] (spCount C) := to_mcallee mc Fc (b1 Fc fun _ _ _ _ _ _ _ => rfl) (ok_count Fc T)
  obtain ⟨_, _, ml, Fl⟩ := mLoose
  have loose : MCallee P w K mg base C 1 "loose_parts" ["self"] (spLoose C) := to_mcallee ml Fl (b1 Fl fun _ _ _ _ _ _ _ => rfl) (ok_loose Fl T)
  obtain ⟨_, _, mo, Fo⟩ := mOn
  have on : MCallee P w K mg base C 2 "boughs_on" ["self", "part"] (spOn C) := to_mcallee mo Fo (b2 Fo fun _ _ _ _ _ _ _ _ => rfl) (ok_on Fo T loose)
  obtain ⟨_, _, ma, Fa⟩ := mAnew
  have anew : MCallee P w K mg base C 1 "begin_anew" ["self", "first_lean"] (spAnew C) := to_mcallee ma Fa (b2 Fa fun _ _ _ _ _ _ _ _ => rfl) (ok_anew Fa T)
  obtain ⟨_, _, mh, Fh⟩ := mHang
  have hang : MCallee P w K mg base C 1 "hang" ["self", "part", "change"] (spHang C) := to_mcallee mh Fh (b3 Fh fun _ _ _ _ _ _ _ _ _ => rfl) (ok_hang Fh T)
  obtain ⟨_, _, md, Fd⟩ := mDrop
  have drop : MCallee P w K mg base C 1 "drop_last" ["self"] (spDrop C) := to_mcallee md Fd (b1 Fd fun _ _ _ _ _ _ _ => rfl) (ok_drop Fd T)
  obtain ⟨_, _, a1, F1⟩ := fLeans
  have leans : Callee P w K mg base 1 "leans_by" ["tree", "row"] (spLeans K C) := to_callee (PySem.W.mg_of X G a1) F1 (b2 F1 fun _ _ _ _ _ _ _ _ => rfl) (ok_leans F1 T)
  obtain ⟨_, _, a2, F2⟩ := fSoon
  have soon : Callee P w K mg base 3 "first_too_soon" ["tree", "row"] (spSoon K C) := to_callee (PySem.W.mg_of X G a2) F2 (b2 F2 fun _ _ _ _ _ _ _ _ => rfl) (ok_soon F2 T on)
  obtain ⟨_, _, a3, F3⟩ := fHow
  have how : Callee P w K mg base 1 "how_far" ["lean", "side"] spHow := to_callee (PySem.W.mg_of X G a3) F3 (b2 F3 fun _ _ _ _ _ _ _ _ => rfl) (ok_how F3 T cR cL)
  obtain ⟨_, _, a4, F4⟩ := fBit
  have bit : Callee P w K mg base 1 "bit_of" ["part"] spBit := to_callee (PySem.W.mg_of X G a4) F4 (b1 F4 fun _ _ _ _ _ _ _ => rfl) (ok_bit F4)
  obtain ⟨_, _, a5, F5⟩ := fBits
  have bits : Callee P w K mg base 2 "bits_of" ["parts"] (spBits K) := to_callee (PySem.W.mg_of X G a5) F5 (b1 F5 fun _ _ _ _ _ _ _ => rfl) (ok_bits F5 T bit)
  obtain ⟨_, _, a6, F6⟩ := fBoP
  have bop : Callee P w K mg base 3 "bits_on_parts" ["tree"] (spBoP C) := to_callee (PySem.W.mg_of X G a6) F6 (b1 F6 fun _ _ _ _ _ _ _ => rfl) (ok_bop F6 T bits on count)
  obtain ⟨_, _, a7, F7⟩ := fMay
  have may : Callee P w K mg base 2 "may_come_off" ["hanging", "off"] (spMay K) := to_callee (PySem.W.mg_of X G a7) F7 (b2 F7 fun _ _ _ _ _ _ _ _ => rfl) (ok_may F7 T bit)
  obtain ⟨_, _, a8, F8⟩ := fWhen
  have when : Callee P w K mg base 2 "lean_when" ["tree", "off"] (spWhen C) := to_callee (PySem.W.mg_of X G a8) F8 (b2 F8 fun _ _ _ _ _ _ _ _ => rfl) (ok_when F8 T bit loose)
  obtain ⟨_, _, a9, F9⟩ := fFrom
  have from_ : Callee P w K mg base 3 "least_from" ["tree", "hanging", "side"] (spFrom K C) := to_callee (PySem.W.mg_of X G a9) F9 (b3 F9 fun _ _ _ _ _ _ _ _ _ => rfl) (ok_from F9 T bit bits loose how when may)
  obtain ⟨_, _, a10, F10⟩ := fFar
  have far : Callee P w K mg base 4 "least_far" ["tree", "side"] (spFar C) := to_callee (PySem.W.mg_of X G a10) F10 (b2 F10 fun _ _ _ _ _ _ _ _ => rfl) (ok_far F10 from_ bop)
  obtain ⟨_, _, a11, F11⟩ := fOrd
  have ord : Callee P w K mg base 4 "least_order" ["tree", "side"] (spOrd C) := to_callee (PySem.W.mg_of X G a11) F11 (b2 F11 fun _ _ _ _ _ _ _ _ => rfl) (ok_ord F11 T bit bop from_ loose may)
  obtain ⟨_, _, a12, F12⟩ := fPeak
  have peak : Callee P w K mg base 1 "peak" ["changes", "row"] (spPeak K) := to_callee (PySem.W.mg_of X G a12) F12 (b2 F12 fun _ _ _ _ _ _ _ _ => rfl) (ok_peak F12 T)
  obtain ⟨_, _, a13, F13⟩ := fTotal
  have total : Callee P w K mg base 1 "total" ["changes", "row"] (spTotal K) := to_callee (PySem.W.mg_of X G a13) F13 (b2 F13 fun _ _ _ _ _ _ _ _ => rfl) (ok_total F13 T)
  obtain ⟨_, _, a14, F14⟩ := fStand
  have stand : Callee P w K mg base 2 "standing" ["changes", "row"] (spStand K) := to_callee (PySem.W.mg_of X G a14) F14 (b2 F14 fun _ _ _ _ _ _ _ _ => rfl) (ok_stand F14 total peak)
  have rfb : Callee P w K mg base 6 "rows_for_boughs" ["tree", "part", "rows_for"] (spRfb C Pt) := to_callee (PySem.W.mg_of X G aRfb) fRfb.fn (b3 fRfb.fn fun _ _ _ _ _ _ _ _ _ => rfl) (ok_rfb fRfb T hC hB on stand)
  obtain ⟨_, _, a15, F15⟩ := fWith
  have wth : Callee P w K mg base 3 "with_part" ["changes", "rows", "part"] (spWith K) := to_callee (PySem.W.mg_of X G a15) F15 (b3 F15 fun _ _ _ _ _ _ _ _ _ => rfl) (ok_with F15 T stand)
  obtain ⟨_, _, a16, F16⟩ := fRows
  have rows : Callee P w K mg base 7 "rows_of_tree" ["tree"] (spRows C Pt) := to_callee (PySem.W.mg_of X G a16) F16 (b1 F16 fun _ _ _ _ _ _ _ => rfl) (ok_rows F16 T loose wth rfb)
  obtain ⟨_, _, mt, Ft⟩ := mTwin
  have twin : MCallee P w K mg base C 3 "twin" ["self"] (spTwin C) := to_mcallee mt Ft (b1 Ft fun _ _ _ _ _ _ _ => rfl) (ok_twin Ft T M GI bI)
  obtain ⟨_, _, a17, F17⟩ := fBeg
  have beg : Callee P w K mg base 4 "least_beginning_with" ["tree", "part", "side"] (spBeg C) := to_callee (PySem.W.mg_of X G a17) F17 (b3 F17 fun _ _ _ _ _ _ _ _ _ => rfl) (ok_beg F17 T bit bop from_ how)
  obtain ⟨_, _, a18, F18⟩ := fCnt
  have cnt : Callee P w K mg base 4 "count_orders" ["tree"] (spCnt C) := to_callee (PySem.W.mg_of X G a18) F18 (b1 F18 fun _ _ _ _ _ _ _ => rfl) (ok_cnt F18 T bit bits bop loose may)
  obtain ⟨_, _, a19, F19⟩ := fNext
  have next : Callee P w K mg base 4 "next_behind" ["tree", "row"] (spNext K C) := to_callee (PySem.W.mg_of X G a19) F19 (b2 F19 fun _ _ _ _ _ _ _ _ => rfl) (ok_next F19 bit bop may)
  obtain ⟨_, _, a20, F20⟩ := fNob
  have nob : Callee P w K mg base 2 "is_no_bough" ["tree", "part"] (spNob C) := to_callee (PySem.W.mg_of X G a20) F20 (b2 F20 fun _ _ _ _ _ _ _ _ => rfl) (ok_nob F20 T count)
  obtain ⟨_, _, a21, F21⟩ := fChange
  have change : Callee P w K mg base 3 "change" ["tree", "given"] (spD K C (fun l => l.length = 2) fun l => .change (l.getD 0 0) (l.getD 1 0)) := to_callee (PySem.W.mg_of X G a21) F21 (b2 F21 fun _ _ _ _ _ _ _ _ => rfl) (ok_changeD F21 T c2 c22 cGC cCS nob)
  obtain ⟨_, _, a22, F22⟩ := fLean
  have lean : Callee P w K mg base 1 "lean" ["tree", "given"] (spD K C (fun l => l.length = 1) fun l => .lean (l.getD 0 0)) := to_callee (PySem.W.mg_of X G a22) F22 (b2 F22 fun _ _ _ _ _ _ _ _ => rfl) (ok_leanD F22 T c22 cGL cLS)
  obtain ⟨_, _, a23, F23⟩ := fRight
  have right : Callee P w K mg base 5 "right" ["tree", "given"] (spS C fun a => [0, a.least 0]) := to_callee (PySem.W.mg_of X G a23) F23 (b2 F23 fun _ _ _ _ _ _ _ _ => rfl) (ok_rightS F23 cR far)
  obtain ⟨_, _, a24, F24⟩ := fBoth
  have both : Callee P w K mg base 5 "both" ["tree", "given"] (spS C fun a => [0, a.least 2]) := to_callee (PySem.W.mg_of X G a24) F24 (b2 F24 fun _ _ _ _ _ _ _ _ => rfl) (ok_bothS F24 cE far)
  exact ⟨count, loose, on, anew, hang, drop, leans, soon, bit, bits, bop, may, when, from_, far, ord, rows, peak, total, twin, beg, cnt, next, nob, change, lean, right, both⟩
end
end Le

end
section
set_option Elab.async false
set_option linter.all false
set_option maxRecDepth 100000
set_option maxHeartbeats 4000000
namespace Le
open PySem PySem.Spec PyProof.Rows L2
open PySem.W (WData Codec OpenSpec)
theorem req_of {K : PySem.W.Frag} {H0 H : Hp} {p : Addr} {ns : List Int} (hO : OnlyF H0) (hs : SqL K H0 p (ns.map V.int)) (kp : ∀ b ob u, H0 b = some (.frz ob u) → H b = some (.frz ob u)) : Req K H p ns := fun H' fz => by
  rcases hs with (z | ⟨o, z⟩) | z
  · rcases hO p with e | ⟨o, u, e⟩
    · rw [z] at e
      cases e
    · rw [z] at e
      cases e
  · exact .inl (.inr ⟨o, fz _ _ _ (kp _ _ _ z)⟩)
  · exact .inr z
theorem ans_sp (K : PySem.W.Frag) (Pt : Addr) (H0 H : Hp) (xs : List V) (a : Codec.denoteAll PySem.Challenge.rw_leaning_s01_answers.args) (hO : OnlyF H0) (hwi : Codec.withinAll PySem.Challenge.rw_leaning_s01_answers.args a = true)
    (hask : Codec.app PySem.Challenge.rw_leaning_s01_answers.args PySem.Challenge.rw_leaning_s01_answers.asked a = true) (hx : DwAll K H0 xs (Codec.encAll PySem.Challenge.rw_leaning_s01_answers.args a)) (kp : ∀ b ob u, H0 b = some (.frz ob u) → H b = some (.frz ob u)) (hPt : H Pt = some (.tbl #[])) :
    spAns K Pt xs H (fun v H' => Dw K H' v (PySem.Challenge.rw_leaning_s01_answers.ret.enc (Codec.app PySem.Challenge.rw_leaning_s01_answers.args PySem.Challenge.rw_leaning_s01_answers.f a))) fun _ _ _ => False := by
  cases hx with
  | cons h1 h2 =>
    cases h2
    cases h1 with
    | lst hs ha =>
      have e := ints_dw a.1 _ ha
      subst e
      exact ⟨_, a.1, rfl, req_of hO hs kp, hask, hPt, fun H' q hq => .lst (SqL.of hq) (dw_ints _)⟩
end Le

end
section
set_option Elab.async false
set_option linter.all false
set_option maxRecDepth 100000
set_option maxHeartbeats 4000000
namespace Le
open PySem PySem.Spec PyProof.Rows L2
noncomputable def FnAt (K : PySem.W.Frag) (x : Str) (st : Stmt) (f : Addr) : Prop := ∃ fd : FuncData, PySem.W.nsIn K mainGlobals x = some (some (.ref f)) ∧ Fun K x x st f fd
theorem fn_at {K : PySem.W.Frag} {x : Str} {st : Stmt} {f : Addr} {oc : Value} {od an : Option Addr} {osl : Array (Option Value)} {kV doc pm cdv ct : Value} (a : PySem.W.nsIn K mainGlobals x = some (some (.ref f)))
    (l : K.lookup f = some ⟨oc, od, .func (PySem.W.fnOf x x (defArgs st) (defBody st) (defScope st) .none kV doc pm an cdv ct), osl⟩) (c : PySem.W.codeIn K cdv x = true) (k : PySem.W.keepIn K (.ref f) = true) : FnAt K x st f := ⟨_, a, fun_mk l c k⟩
theorem tup_at {K : PySem.W.Frag} {t : Addr} {od : Option Addr} {its : Array Value} {n : Nat} {osl : Array (Option Value)} {xs : List V} (l : K.lookup t = some ⟨.type "tuple", od, .seq its n, osl⟩) (hz : its.size ≤ sizeLine) (v : Vals xs its.toList) (H : Hp) : SqT K H t xs := .inr ⟨_, its, n, l, rfl, rfl, hz, v⟩
theorem tab_mk {K : PySem.W.Frag} {x : Str} {f c Pt : Addr} {oc oc4 : Value} {od od4 : Option Addr} {fd : FuncData} {osl sl4 : Array (Option Value)} {vs4 : Array Value} (a : PySem.W.nsIn K mainGlobals x = some (some (.ref f))) (l : K.lookup f = some ⟨oc, od, .func fd, osl⟩) (e : fd.code = .ref c)
    (lc : K.lookup c = some ⟨oc4, od4, .fields vs4, sl4⟩) (h : (vs4[11]? : Option Value) = some (.ref Pt)) : PySem.W.tabIn K x = some (c, Pt) := by
  unfold PySem.W.tabIn; rw [a]; simp only; rw [l]; simp only; rw [e]; simp only; rw [lc]; simp only; rw [h]
theorem vref {a : Addr} {vs : List V} {us : List Value} (h : Vals vs us) : Vals (.ref a :: vs) (.ref a :: us) := .cons rfl h
theorem vint {z : Int} {t : Tok} {vs : List V} {us : List Value} (h : Vals vs us) : Vals (.int z :: vs) (.int z t :: us) := .cons ⟨t, rfl⟩ h
section
variable {P : Program} {w : World} {K : PySem.W.Frag} {mg : Str → Option Value} {base : Heap}
theorem fn2 {x : Str} {st : Stmt} {f : Addr} {fd : FuncData} {sp : Sp} {k : Nat} (F : Fun K x x st f fd) (hb : ∀ (kV doc pm : Value) (an : Option Addr) (cdv ct u u2 : Value), bindArgs (PySem.W.fnOf x x (defArgs st) (defBody st) (defScope st) .none kV doc pm an cdv ct) ⟨[u, u2], []⟩ = pure [(("tree" : Str), u), (("given" : Str), u2)])
    (ok : FnOk P w K mg base CX0 k f fd ["tree", "given"] sp) : ∃ fd : FuncData, FnOk P w K mg base CX0 k f fd ["tree", "given"] sp ∧ PySem.W.keepIn K (.ref f) = true ∧ Binds K fd ["tree", "given"] [] :=
  ⟨fd, ok, F.kp, F.binds fun kV doc pm an cdv ct us hl => match us, hl with | [u, u2], _ => hb kV doc pm an cdv ct u u2⟩

theorem calls_ok {C Pt tc : Addr} {f0 f1 f2 f3 f4 f5 f6 f7 f8 f9 f10 f11 f12 f13 f14 f15 f16 f17 f18 f19 f20 f21 : Addr} {od : Option Addr} {n : Nat} {osl : Array (Option Value)} (T : Txt K mg C) (R : Reck P w K mg base C Pt) (F0 : FnAt K "begin" sBegin f0) (F1 : FnAt K "bough" sBough f1) (F2 : FnAt K "change" sChange f2) (F3 : FnAt K "less" sLess f3) (F4 : FnAt K "lean" sLean f4) (F5 : FnAt K "try_order" sTry f5) (F6 : FnAt K "right" sRight f6) (F7 : FnAt K "left" sLeft f7) (F8 : FnAt K "both" sBoth f8) (F9 : FnAt K "order" sOrder f9) (F10 : FnAt K "told" sTold f10) (F11 : FnAt K "rows" sRowsC f11) (F12 : FnAt K "ways" sWays f12) (F13 : FnAt K "may" sMayC f13) (F14 : FnAt K "first" sFirst f14) (F15 : FnAt K "keeps" sKeeps f15) (F16 : FnAt K "ifchange" sIfc f16) (F17 : FnAt K "iflean" sIfl f17) (F18 : FnAt K "boughs" sBoughs f18) (F19 : FnAt K "look" sLook f19) (F20 : FnAt K "ends" sEnds f20) (F21 : FnAt K "state" sState f21) (c2 : Cst mg "NO_SUCH_PART" (-2)) (c6 : Cst mg "TRUNK_ALONE" (-6)) (c11 : Cst mg "NOT_BEGUN" (-11)) (c22 : Cst mg "NOT_AS_TOLD" (-22)) (c28 : Cst mg "TOO_MANY" (-28)) (c33 : Cst mg "SOMETHING_HANGS_ON_IT" (-33)) (cM : Cst mg "MOST_PARTS" 9) (cLS : Cst mg "LEAN_SHIFT" 200) (cGL : Cst mg "GREATEST_LEAN" 400) (cCS : Cst mg "CHANGE_SHIFT" 50) (cGC : Cst mg "GREATEST_CHANGE" 100) (cSi : Cst mg "SIDES" 3) (cR : Cst mg "RIGHT" 0) (cL : Cst mg "LEFT" 1) (cE : Cst mg "EITHER" 2) (c0 : Cst mg "BEGIN_CALL" 0) (mc : mg "CALLS" = some (.ref tc))
    (lc : K.lookup tc = some ⟨.type "tuple", od, .seq #[.ref f0, .ref f1, .ref f2, .ref f3, .ref f4, .ref f5, .ref f6, .ref f7, .ref f8, .ref f9, .ref f10, .ref f11, .ref f12, .ref f13, .ref f14, .ref f15, .ref f16, .ref f17, .ref f18, .ref f19, .ref f20, .ref f21] n, osl⟩) : CallsOk P w K mg base C Pt 8 := by
  obtain ⟨_, _, F0⟩ := F0
  obtain ⟨_, _, F1⟩ := F1
  obtain ⟨_, _, F2⟩ := F2
  obtain ⟨_, _, F3⟩ := F3
  obtain ⟨_, _, F4⟩ := F4
  obtain ⟨_, _, F5⟩ := F5
  obtain ⟨_, _, F6⟩ := F6
  obtain ⟨_, _, F7⟩ := F7
  obtain ⟨_, _, F8⟩ := F8
  obtain ⟨_, _, F9⟩ := F9
  obtain ⟨_, _, F10⟩ := F10
  obtain ⟨_, _, F11⟩ := F11
  obtain ⟨_, _, F12⟩ := F12
  obtain ⟨_, _, F13⟩ := F13
  obtain ⟨_, _, F14⟩ := F14
  obtain ⟨_, _, F15⟩ := F15
  obtain ⟨_, _, F16⟩ := F16
  obtain ⟨_, _, F17⟩ := F17
  obtain ⟨_, _, F18⟩ := F18
  obtain ⟨_, _, F19⟩ := F19
  obtain ⟨_, _, F20⟩ := F20
  obtain ⟨_, _, F21⟩ := F21
  refine ⟨tc, [f0, f1, f2, f3, f4, f5, f6, f7, f8, f9, f10, f11, f12, f13, f14, f15, f16, f17, f18, f19, f20, f21], mc, fun H => tup_at lc (by show 22 ≤ sizeLine; decide) (vref (vref (vref (vref (vref (vref (vref (vref (vref (vref (vref (vref (vref (vref (vref (vref (vref (vref (vref (vref (vref (vref .nil)))))))))))))))))))))) H, fun p hp => ?_⟩
  match p, hp with
  | 0, _ =>
    obtain ⟨fd, h1, h2, h3⟩ := fn2 F0 (fun _ _ _ _ _ _ _ _ => rfl) (ok_begin F0 T c22 cGL cLS R.anew)
    exact ⟨f0, fd, rfl, (h1.mono (by decide)).imp (fun vs H Q E h => spP_begin vs H Q E h), h2, h3⟩
  | 1, _ =>
    obtain ⟨fd, h1, h2, h3⟩ := fn2 F1 (fun _ _ _ _ _ _ _ _ => rfl) (ok_bough F1 T c2 c22 c28 cGC cM cCS R.count R.hang)
    exact ⟨f1, fd, rfl, (h1.mono (by decide)).imp (fun vs H Q E h => spP_of (by decide) (fun args hf => hf.1 rfl) (fun _ _ => rfl) vs H Q E h), h2, h3⟩
  | 2, _ =>
    obtain ⟨fd, h1, h2, h3⟩ := fn2 F2 (fun _ _ _ _ _ _ _ _ => rfl) (ok_change F2 T c2 c22 cGC cCS R.nob)
    exact ⟨f2, fd, rfl, (h1.mono (by decide)).imp (fun vs H Q E h => spP_of (by decide) (fun args hf => hf.1 rfl) (fun _ _ => rfl) vs H Q E h), h2, h3⟩
  | 3, _ =>
    obtain ⟨fd, h1, h2, h3⟩ := fn2 F3 (fun _ _ _ _ _ _ _ _ => rfl) (ok_less F3 T c6 R.count R.drop)
    exact ⟨f3, fd, rfl, (h1.mono (by decide)).imp (fun vs H Q E h => spP_of (by decide) (fun _ _ => trivial) (fun _ _ => rfl) vs H Q E h), h2, h3⟩
  | 4, _ =>
    obtain ⟨fd, h1, h2, h3⟩ := fn2 F4 (fun _ _ _ _ _ _ _ _ => rfl) (ok_lean F4 T c22 cGL cLS)
    exact ⟨f4, fd, rfl, (h1.mono (by decide)).imp (fun vs H Q E h => spP_of (by decide) (fun args hf => hf.1 rfl) (fun _ _ => rfl) vs H Q E h), h2, h3⟩
  | 5, _ =>
    obtain ⟨fd, h1, h2, h3⟩ := fn2 F5 (fun _ _ _ _ _ _ _ _ => rfl) (ok_try F5 T c22 R.loose R.soon R.leans)
    exact ⟨f5, fd, rfl, (h1.mono (by decide)).imp (fun vs H Q E h => spP_of (by decide) (fun args hf => hf.2 rfl) (fun _ _ => rfl) vs H Q E h), h2, h3⟩
  | 6, _ =>
    obtain ⟨fd, h1, h2, h3⟩ := fn2 F6 (fun _ _ _ _ _ _ _ _ => rfl) (ok_right F6 cR R.far)
    exact ⟨f6, fd, rfl, (h1.mono (by decide)).imp (fun vs H Q E h => spP_of (by decide) (fun _ _ => trivial) (fun _ _ => rfl) vs H Q E h), h2, h3⟩
  | 7, _ =>
    obtain ⟨fd, h1, h2, h3⟩ := fn2 F7 (fun _ _ _ _ _ _ _ _ => rfl) (ok_left F7 cL R.far)
    exact ⟨f7, fd, rfl, (h1.mono (by decide)).imp (fun vs H Q E h => spP_of (by decide) (fun _ _ => trivial) (fun _ _ => rfl) vs H Q E h), h2, h3⟩
  | 8, _ =>
    obtain ⟨fd, h1, h2, h3⟩ := fn2 F8 (fun _ _ _ _ _ _ _ _ => rfl) (ok_both F8 cE R.far)
    exact ⟨f8, fd, rfl, (h1.mono (by decide)).imp (fun vs H Q E h => spP_of (by decide) (fun _ _ => trivial) (fun _ _ => rfl) vs H Q E h), h2, h3⟩
  | 9, _ =>
    obtain ⟨fd, h1, h2, h3⟩ := fn2 F9 (fun _ _ _ _ _ _ _ _ => rfl) (ok_order F9 T c22 cSi R.ord)
    exact ⟨f9, fd, rfl, (h1.mono (by decide)).imp (fun vs H Q E h => spP_of (by decide) (fun args hf => hf.1 rfl) (fun _ _ => rfl) vs H Q E h), h2, h3⟩
  | 10, _ =>
    obtain ⟨fd, h1, h2, h3⟩ := fn2 F10 (fun _ _ _ _ _ _ _ _ => rfl) (ok_told F10 T R.rows R.leans)
    exact ⟨f10, fd, rfl, (h1.mono (by decide)).imp (fun vs H Q E h => spP_of (by decide) (fun _ _ => trivial) (fun _ _ => rfl) vs H Q E h), h2, h3⟩
  | 11, _ =>
    obtain ⟨fd, h1, h2, h3⟩ := fn2 F11 (fun _ _ _ _ _ _ _ _ => rfl) (ok_rowsC F11 T R.rows R.peak R.total)
    exact ⟨f11, fd, rfl, (h1.mono (by decide)).imp (fun vs H Q E h => spP_of (by decide) (fun _ _ => trivial) (fun _ _ => rfl) vs H Q E h), h2, h3⟩
  | 12, _ =>
    obtain ⟨fd, h1, h2, h3⟩ := fn2 F12 (fun _ _ _ _ _ _ _ _ => rfl) (ok_ways F12 R.cnt)
    exact ⟨f12, fd, rfl, (h1.mono (by decide)).imp (fun vs H Q E h => spP_of (by decide) (fun _ _ => trivial) (fun _ _ => rfl) vs H Q E h), h2, h3⟩
  | 13, _ =>
    obtain ⟨fd, h1, h2, h3⟩ := fn2 F13 (fun _ _ _ _ _ _ _ _ => rfl) (ok_mayC F13 T c22 R.next)
    exact ⟨f13, fd, rfl, (h1.mono (by decide)).imp (fun vs H Q E h => spP_of (by decide) (fun args hf => hf.2 rfl) (fun _ _ => rfl) vs H Q E h), h2, h3⟩
  | 14, _ =>
    obtain ⟨fd, h1, h2, h3⟩ := fn2 F14 (fun _ _ _ _ _ _ _ _ => rfl) (ok_first F14 T c2 c33 cR R.nob R.on R.beg)
    exact ⟨f14, fd, rfl, (h1.mono (by decide)).imp (fun vs H Q E h => spP_of (by decide) (fun args hf => hf.1 rfl) (fun _ _ => rfl) vs H Q E h), h2, h3⟩
  | 15, _ =>
    obtain ⟨fd, h1, h2, h3⟩ := fn2 F15 (fun _ _ _ _ _ _ _ _ => rfl) (ok_keeps F15 cE R.far)
    exact ⟨f15, fd, rfl, (h1.mono (by decide)).imp (fun vs H Q E h => spP_of (by decide) (fun args hf => hf.1 rfl) (fun _ _ => rfl) vs H Q E h), h2, h3⟩
  | 16, _ =>
    obtain ⟨fd, h1, h2, h3⟩ := fn2 F16 (fun _ _ _ _ _ _ _ _ => rfl) (ok_ifc F16 T R.twin R.change R.right)
    exact ⟨f16, fd, rfl, (h1.mono (by decide)).imp (fun vs H Q E h => spP_of (by decide) (fun args hf => hf.1 rfl) (fun _ _ => rfl) vs H Q E h), h2, h3⟩
  | 17, _ =>
    obtain ⟨fd, h1, h2, h3⟩ := fn2 F17 (fun _ _ _ _ _ _ _ _ => rfl) (ok_ifl F17 T R.twin R.lean R.both)
    exact ⟨f17, fd, rfl, (h1.mono (by decide)).imp (fun vs H Q E h => spP_of (by decide) (fun args hf => hf.1 rfl) (fun _ _ => rfl) vs H Q E h), h2, h3⟩
  | 18, _ =>
    obtain ⟨fd, h1, h2, h3⟩ := fn2 F18 (fun _ _ _ _ _ _ _ _ => rfl) (ok_boughs F18 T c2 R.count R.on)
    exact ⟨f18, fd, rfl, (h1.mono (by decide)).imp (fun vs H Q E h => spP_of (by decide) (fun args hf => hf.1 rfl) (fun _ _ => rfl) vs H Q E h), h2, h3⟩
  | 19, _ =>
    obtain ⟨fd, h1, h2, h3⟩ := fn2 F19 (fun _ _ _ _ _ _ _ _ => rfl) (ok_look F19 T c2 R.nob)
    exact ⟨f19, fd, rfl, (h1.mono (by decide)).imp (fun vs H Q E h => spP_of (by decide) (fun args hf => hf.1 rfl) (fun _ _ => rfl) vs H Q E h), h2, h3⟩
  | 20, _ =>
    obtain ⟨fd, h1, h2, h3⟩ := fn2 F20 (fun _ _ _ _ _ _ _ _ => rfl) (ok_ends F20 T R.loose R.leans)
    exact ⟨f20, fd, rfl, (h1.mono (by decide)).imp (fun vs H Q E h => spP_of (by decide) (fun _ _ => trivial) (fun _ _ => rfl) vs H Q E h), h2, h3⟩
  | 21, _ =>
    obtain ⟨fd, h1, h2, h3⟩ := fn2 F21 (fun _ _ _ _ _ _ _ _ => rfl) (ok_state F21 T R.count)
    exact ⟨f21, fd, rfl, (h1.mono (by decide)).imp (fun vs H Q E h => spP_of (by decide) (fun _ _ => trivial) (fun _ _ => rfl) vs H Q E h), h2, h3⟩
  | n + 22, h => omega
theorem all_mk {fa C : Addr} {h : Heap} {t_c2 : Tok} {t_c6 : Tok} {t_c11 : Tok} {t_c22 : Tok} {t_c28 : Tok} {t_c33 : Tok} {t_cM : Tok} {t_cLS : Tok} {t_cGL : Tok} {t_cCS : Tok} {t_cGC : Tok} {t_cSi : Tok} {t_cR : Tok} {t_cL : Tok} {t_cE : Tok} {t_c0 : Tok} {g_mI : Addr} {oc_mI kV_mI dc_mI pm_mI ct_mI cd_mI : Value} {od_mI an_mI : Option Addr} {sl_mI : Array (Option Value)} {g_mCount : Addr} {oc_mCount kV_mCount dc_mCount pm_mCount ct_mCount cd_mCount : Value} {od_mCount an_mCount : Option Addr} {sl_mCount : Array (Option Value)} {g_mLoose : Addr} {oc_mLoose kV_mLoose dc_mLoose pm_mLoose ct_mLoose cd_mLoose : Value} {od_mLoose an_mLoose : Option Addr} {sl_mLoose : Array (Option Value)} {g_mOn : Addr} {oc_mOn kV_mOn dc_mOn pm_mOn ct_mOn cd_mOn : Value} {od_mOn an_mOn : Option Addr} {sl_mOn : Array (Option Value)} {g_mAnew : Addr} {oc_mAnew kV_mAnew dc_mAnew pm_mAnew ct_mAnew cd_mAnew : Value} {od_mAnew an_mAnew : Option Addr} {sl_mAnew : Array (Option Value)} {g_mHang : Addr} {oc_mHang kV_mHang dc_mHang pm_mHang ct_mHang cd_mHang : Value} {od_mHang an_mHang : Option Addr} {sl_mHang : Array (Option Value)} {g_mDrop : Addr} {oc_mDrop kV_mDrop dc_mDrop pm_mDrop ct_mDrop cd_mDrop : Value} {od_mDrop an_mDrop : Option Addr} {sl_mDrop : Array (Option Value)} {g_mTwin : Addr} {oc_mTwin kV_mTwin dc_mTwin pm_mTwin ct_mTwin cd_mTwin : Value} {od_mTwin an_mTwin : Option Addr} {sl_mTwin : Array (Option Value)} {g_fLeans : Addr} {oc_fLeans kV_fLeans dc_fLeans pm_fLeans ct_fLeans cd_fLeans : Value} {od_fLeans an_fLeans : Option Addr} {sl_fLeans : Array (Option Value)} {g_fSoon : Addr} {oc_fSoon kV_fSoon dc_fSoon pm_fSoon ct_fSoon cd_fSoon : Value} {od_fSoon an_fSoon : Option Addr} {sl_fSoon : Array (Option Value)} {g_fHow : Addr} {oc_fHow kV_fHow dc_fHow pm_fHow ct_fHow cd_fHow : Value} {od_fHow an_fHow : Option Addr} {sl_fHow : Array (Option Value)} {g_fBit : Addr} {oc_fBit kV_fBit dc_fBit pm_fBit ct_fBit cd_fBit : Value} {od_fBit an_fBit : Option Addr} {sl_fBit : Array (Option Value)} {g_fBits : Addr} {oc_fBits kV_fBits dc_fBits pm_fBits ct_fBits cd_fBits : Value} {od_fBits an_fBits : Option Addr} {sl_fBits : Array (Option Value)} {g_fBoP : Addr} {oc_fBoP kV_fBoP dc_fBoP pm_fBoP ct_fBoP cd_fBoP : Value} {od_fBoP an_fBoP : Option Addr} {sl_fBoP : Array (Option Value)} {g_fMay : Addr} {oc_fMay kV_fMay dc_fMay pm_fMay ct_fMay cd_fMay : Value} {od_fMay an_fMay : Option Addr} {sl_fMay : Array (Option Value)} {g_fWhen : Addr} {oc_fWhen kV_fWhen dc_fWhen pm_fWhen ct_fWhen cd_fWhen : Value} {od_fWhen an_fWhen : Option Addr} {sl_fWhen : Array (Option Value)} {g_fFrom : Addr} {oc_fFrom kV_fFrom dc_fFrom pm_fFrom ct_fFrom cd_fFrom : Value} {od_fFrom an_fFrom : Option Addr} {sl_fFrom : Array (Option Value)} {g_fFar : Addr} {oc_fFar kV_fFar dc_fFar pm_fFar ct_fFar cd_fFar : Value} {od_fFar an_fFar : Option Addr} {sl_fFar : Array (Option Value)} {g_fOrd : Addr} {oc_fOrd kV_fOrd dc_fOrd pm_fOrd ct_fOrd cd_fOrd : Value} {od_fOrd an_fOrd : Option Addr} {sl_fOrd : Array (Option Value)} {g_fPeak : Addr} {oc_fPeak kV_fPeak dc_fPeak pm_fPeak ct_fPeak cd_fPeak : Value} {od_fPeak an_fPeak : Option Addr} {sl_fPeak : Array (Option Value)} {g_fTotal : Addr} {oc_fTotal kV_fTotal dc_fTotal pm_fTotal ct_fTotal cd_fTotal : Value} {od_fTotal an_fTotal : Option Addr} {sl_fTotal : Array (Option Value)} {g_fStand : Addr} {oc_fStand kV_fStand dc_fStand pm_fStand ct_fStand cd_fStand : Value} {od_fStand an_fStand : Option Addr} {sl_fStand : Array (Option Value)} {g_fWith : Addr} {oc_fWith kV_fWith dc_fWith pm_fWith ct_fWith cd_fWith : Value} {od_fWith an_fWith : Option Addr} {sl_fWith : Array (Option Value)} {g_fRows : Addr} {oc_fRows kV_fRows dc_fRows pm_fRows ct_fRows cd_fRows : Value} {od_fRows an_fRows : Option Addr} {sl_fRows : Array (Option Value)} {g_fBeg : Addr} {oc_fBeg kV_fBeg dc_fBeg pm_fBeg ct_fBeg cd_fBeg : Value} {od_fBeg an_fBeg : Option Addr} {sl_fBeg : Array (Option Value)} {g_fCnt : Addr} {oc_fCnt kV_fCnt dc_fCnt pm_fCnt ct_fCnt cd_fCnt : Value} {od_fCnt an_fCnt : Option Addr} {sl_fCnt : Array (Option Value)} {g_fNext : Addr} {oc_fNext kV_fNext dc_fNext pm_fNext ct_fNext cd_fNext : Value} {od_fNext an_fNext : Option Addr} {sl_fNext : Array (Option Value)} {g_fNob : Addr} {oc_fNob kV_fNob dc_fNob pm_fNob ct_fNob cd_fNob : Value} {od_fNob an_fNob : Option Addr} {sl_fNob : Array (Option Value)} {g_rfb : Addr} {oc_rfb kV_rfb dc_rfb pm_rfb ct_rfb : Value} {od_rfb an_rfb : Option Addr} {sl_rfb : Array (Option Value)} {g_q0 : Addr} {oc_q0 kV_q0 dc_q0 pm_q0 ct_q0 cd_q0 : Value} {od_q0 an_q0 : Option Addr} {sl_q0 : Array (Option Value)} {g_q1 : Addr} {oc_q1 kV_q1 dc_q1 pm_q1 ct_q1 cd_q1 : Value} {od_q1 an_q1 : Option Addr} {sl_q1 : Array (Option Value)} {g_q2 : Addr} {oc_q2 kV_q2 dc_q2 pm_q2 ct_q2 cd_q2 : Value} {od_q2 an_q2 : Option Addr} {sl_q2 : Array (Option Value)} {g_q3 : Addr} {oc_q3 kV_q3 dc_q3 pm_q3 ct_q3 cd_q3 : Value} {od_q3 an_q3 : Option Addr} {sl_q3 : Array (Option Value)} {g_q4 : Addr} {oc_q4 kV_q4 dc_q4 pm_q4 ct_q4 cd_q4 : Value} {od_q4 an_q4 : Option Addr} {sl_q4 : Array (Option Value)} {g_q5 : Addr} {oc_q5 kV_q5 dc_q5 pm_q5 ct_q5 cd_q5 : Value} {od_q5 an_q5 : Option Addr} {sl_q5 : Array (Option Value)} {g_q6 : Addr} {oc_q6 kV_q6 dc_q6 pm_q6 ct_q6 cd_q6 : Value} {od_q6 an_q6 : Option Addr} {sl_q6 : Array (Option Value)} {g_q7 : Addr} {oc_q7 kV_q7 dc_q7 pm_q7 ct_q7 cd_q7 : Value} {od_q7 an_q7 : Option Addr} {sl_q7 : Array (Option Value)} {g_q8 : Addr} {oc_q8 kV_q8 dc_q8 pm_q8 ct_q8 cd_q8 : Value} {od_q8 an_q8 : Option Addr} {sl_q8 : Array (Option Value)} {g_q9 : Addr} {oc_q9 kV_q9 dc_q9 pm_q9 ct_q9 cd_q9 : Value} {od_q9 an_q9 : Option Addr} {sl_q9 : Array (Option Value)} {g_q10 : Addr} {oc_q10 kV_q10 dc_q10 pm_q10 ct_q10 cd_q10 : Value} {od_q10 an_q10 : Option Addr} {sl_q10 : Array (Option Value)} {g_q11 : Addr} {oc_q11 kV_q11 dc_q11 pm_q11 ct_q11 cd_q11 : Value} {od_q11 an_q11 : Option Addr} {sl_q11 : Array (Option Value)} {g_q12 : Addr} {oc_q12 kV_q12 dc_q12 pm_q12 ct_q12 cd_q12 : Value} {od_q12 an_q12 : Option Addr} {sl_q12 : Array (Option Value)} {g_q13 : Addr} {oc_q13 kV_q13 dc_q13 pm_q13 ct_q13 cd_q13 : Value} {od_q13 an_q13 : Option Addr} {sl_q13 : Array (Option Value)} {g_q14 : Addr} {oc_q14 kV_q14 dc_q14 pm_q14 ct_q14 cd_q14 : Value} {od_q14 an_q14 : Option Addr} {sl_q14 : Array (Option Value)} {g_q15 : Addr} {oc_q15 kV_q15 dc_q15 pm_q15 ct_q15 cd_q15 : Value} {od_q15 an_q15 : Option Addr} {sl_q15 : Array (Option Value)} {g_q16 : Addr} {oc_q16 kV_q16 dc_q16 pm_q16 ct_q16 cd_q16 : Value} {od_q16 an_q16 : Option Addr} {sl_q16 : Array (Option Value)} {g_q17 : Addr} {oc_q17 kV_q17 dc_q17 pm_q17 ct_q17 cd_q17 : Value} {od_q17 an_q17 : Option Addr} {sl_q17 : Array (Option Value)} {g_q18 : Addr} {oc_q18 kV_q18 dc_q18 pm_q18 ct_q18 cd_q18 : Value} {od_q18 an_q18 : Option Addr} {sl_q18 : Array (Option Value)} {g_q19 : Addr} {oc_q19 kV_q19 dc_q19 pm_q19 ct_q19 cd_q19 : Value} {od_q19 an_q19 : Option Addr} {sl_q19 : Array (Option Value)} {g_q20 : Addr} {oc_q20 kV_q20 dc_q20 pm_q20 ct_q20 cd_q20 : Value} {od_q20 an_q20 : Option Addr} {sl_q20 : Array (Option Value)} {g_q21 : Addr} {oc_q21 kV_q21 dc_q21 pm_q21 ct_q21 cd_q21 : Value} {od_q21 an_q21 : Option Addr} {sl_q21 : Array (Option Value)} {g_ac : Addr} {oc_ac kV_ac dc_ac pm_ac ct_ac cd_ac : Value} {od_ac an_ac : Option Addr} {sl_ac : Array (Option Value)} {g_an : Addr} {oc_an kV_an dc_an pm_an ct_an cd_an : Value} {od_an an_an : Option Addr} {sl_an : Array (Option Value)} {cR0 Pt tc tp tr : Addr} {od1 od2 od3 : Option Addr} {n1 n2 n3 : Nat} {sl1 sl2 sl3 : Array (Option Value)} {tp0 tp1 tp2 tp3 tp4 tp5 tp6 tp7 tp8 tp9 tp10 tp11 tp12 tp13 tp14 tp15 tp16 tp17 tp18 tp19 tp20 tp21 : Tok} {tr5 tr13 : Tok} {oc4 : Value} {od4 : Option Addr} {vs4 : Array Value} {sl4 : Array (Option Value)}
    (X : K.In h) (G : h.Ns mainGlobals mg) (hfa : mg "answers" = some (.ref fa))
    (aC : PySem.W.nsIn K mainGlobals "Tree" = some (some (.ref C)))
    (pg : PySem.W.plainGet K C Str.empty = true)
    (hd : PySem.W.hasDictIn K C = true)
    (po : PySem.W.plainOver K C = true)
    (sa : PySem.W.findIn K (.ref C) "__setattr__" = some (some (.builtin "object.__setattr__")))
    (mk : PySem.W.makesIn K C = true)
    (kc : PySem.W.keepIn K (.ref C) = true)
    (nB : PySem.W.findIn K (.ref C) "begun" = some none)
    (nL : PySem.W.findIn K (.ref C) "first_lean" = some none)
    (nH : PySem.W.findIn K (.ref C) "hung_on" = some none)
    (nC : PySem.W.findIn K (.ref C) "changes" = some none)
    (z0 : PySem.W.nsIn K mainGlobals "len" = some none)
    (z1 : PySem.W.nsIn K mainGlobals "range" = some none)
    (z2 : PySem.W.nsIn K mainGlobals "list" = some none)
    (z3 : PySem.W.nsIn K mainGlobals "abs" = some none)
    (z4 : PySem.W.nsIn K mainGlobals "sum" = some none)
    (z5 : PySem.W.nsIn K mainGlobals "min" = some none)
    (z6 : PySem.W.nsIn K mainGlobals "max" = some none)
    (z7 : PySem.W.nsIn K mainGlobals "sorted" = some none)
    (z8 : PySem.W.nsIn K mainGlobals "reversed" = some none)
    (k_c2 : PySem.W.nsIn K mainGlobals "NO_SUCH_PART" = some (some (.int (-2) t_c2)))
    (k_c6 : PySem.W.nsIn K mainGlobals "TRUNK_ALONE" = some (some (.int (-6) t_c6)))
    (k_c11 : PySem.W.nsIn K mainGlobals "NOT_BEGUN" = some (some (.int (-11) t_c11)))
    (k_c22 : PySem.W.nsIn K mainGlobals "NOT_AS_TOLD" = some (some (.int (-22) t_c22)))
    (k_c28 : PySem.W.nsIn K mainGlobals "TOO_MANY" = some (some (.int (-28) t_c28)))
    (k_c33 : PySem.W.nsIn K mainGlobals "SOMETHING_HANGS_ON_IT" = some (some (.int (-33) t_c33)))
    (k_cM : PySem.W.nsIn K mainGlobals "MOST_PARTS" = some (some (.int 9 t_cM)))
    (k_cLS : PySem.W.nsIn K mainGlobals "LEAN_SHIFT" = some (some (.int 200 t_cLS)))
    (k_cGL : PySem.W.nsIn K mainGlobals "GREATEST_LEAN" = some (some (.int 400 t_cGL)))
    (k_cCS : PySem.W.nsIn K mainGlobals "CHANGE_SHIFT" = some (some (.int 50 t_cCS)))
    (k_cGC : PySem.W.nsIn K mainGlobals "GREATEST_CHANGE" = some (some (.int 100 t_cGC)))
    (k_cSi : PySem.W.nsIn K mainGlobals "SIDES" = some (some (.int 3 t_cSi)))
    (k_cR : PySem.W.nsIn K mainGlobals "RIGHT" = some (some (.int 0 t_cR)))
    (k_cL : PySem.W.nsIn K mainGlobals "LEFT" = some (some (.int 1 t_cL)))
    (k_cE : PySem.W.nsIn K mainGlobals "EITHER" = some (some (.int 2 t_cE)))
    (k_c0 : PySem.W.nsIn K mainGlobals "BEGIN_CALL" = some (some (.int 0 t_c0)))
    (a_mI : PySem.W.findIn K (.ref C) "__init__" = some (some (.ref g_mI)))
    (i_mI : PySem.W.isFn K (.ref g_mI) = true)
    (l_mI : K.lookup g_mI = some ⟨oc_mI, od_mI, .func (PySem.W.fnOf "__init__" "Tree.__init__" (defArgs sInit) (defBody sInit) (defScope sInit) .none kV_mI dc_mI pm_mI an_mI cd_mI ct_mI), sl_mI⟩)
    (c_mI : PySem.W.codeIn K cd_mI "Tree.__init__" = true)
    (k_mI : PySem.W.keepIn K (.ref g_mI) = true)
    (a_mCount : PySem.W.findIn K (.ref C) "part_count" = some (some (.ref g_mCount)))
    (i_mCount : PySem.W.isFn K (.ref g_mCount) = true)
    (l_mCount : K.lookup g_mCount = some ⟨oc_mCount, od_mCount, .func (PySem.W.fnOf "part_count" "Tree.part_count" (defArgs sCount) (defBody sCount) (defScope sCount) .none kV_mCount dc_mCount pm_mCount an_mCount cd_mCount ct_mCount), sl_mCount⟩)
    (c_mCount : PySem.W.codeIn K cd_mCount "Tree.part_count" = true)
    (k_mCount : PySem.W.keepIn K (.ref g_mCount) = true)
    (a_mLoose : PySem.W.findIn K (.ref C) "loose_parts" = some (some (.ref g_mLoose)))
    (i_mLoose : PySem.W.isFn K (.ref g_mLoose) = true)
    (l_mLoose : K.lookup g_mLoose = some ⟨oc_mLoose, od_mLoose, .func (PySem.W.fnOf "loose_parts" "Tree.loose_parts" (defArgs sLoose) (defBody sLoose) (defScope sLoose) .none kV_mLoose dc_mLoose pm_mLoose an_mLoose cd_mLoose ct_mLoose), sl_mLoose⟩)
    (c_mLoose : PySem.W.codeIn K cd_mLoose "Tree.loose_parts" = true)
    (k_mLoose : PySem.W.keepIn K (.ref g_mLoose) = true)
    (a_mOn : PySem.W.findIn K (.ref C) "boughs_on" = some (some (.ref g_mOn)))
    (i_mOn : PySem.W.isFn K (.ref g_mOn) = true)
    (l_mOn : K.lookup g_mOn = some ⟨oc_mOn, od_mOn, .func (PySem.W.fnOf "boughs_on" "Tree.boughs_on" (defArgs sOn) (defBody sOn) (defScope sOn) .none kV_mOn dc_mOn pm_mOn an_mOn cd_mOn ct_mOn), sl_mOn⟩)
    (c_mOn : PySem.W.codeIn K cd_mOn "Tree.boughs_on" = true)
    (k_mOn : PySem.W.keepIn K (.ref g_mOn) = true)
    (a_mAnew : PySem.W.findIn K (.ref C) "begin_anew" = some (some (.ref g_mAnew)))
    (i_mAnew : PySem.W.isFn K (.ref g_mAnew) = true)
    (l_mAnew : K.lookup g_mAnew = some ⟨oc_mAnew, od_mAnew, .func (PySem.W.fnOf "begin_anew" "Tree.begin_anew" (defArgs sAnew) (defBody sAnew) (defScope sAnew) .none kV_mAnew dc_mAnew pm_mAnew an_mAnew cd_mAnew ct_mAnew), sl_mAnew⟩)
    (c_mAnew : PySem.W.codeIn K cd_mAnew "Tree.begin_anew" = true)
    (k_mAnew : PySem.W.keepIn K (.ref g_mAnew) = true)
    (a_mHang : PySem.W.findIn K (.ref C) "hang" = some (some (.ref g_mHang)))
    (i_mHang : PySem.W.isFn K (.ref g_mHang) = true)
    (l_mHang : K.lookup g_mHang = some ⟨oc_mHang, od_mHang, .func (PySem.W.fnOf "hang" "Tree.hang" (defArgs sHang) (defBody sHang) (defScope sHang) .none kV_mHang dc_mHang pm_mHang an_mHang cd_mHang ct_mHang), sl_mHang⟩)
    (c_mHang : PySem.W.codeIn K cd_mHang "Tree.hang" = true)
    (k_mHang : PySem.W.keepIn K (.ref g_mHang) = true)
    (a_mDrop : PySem.W.findIn K (.ref C) "drop_last" = some (some (.ref g_mDrop)))
    (i_mDrop : PySem.W.isFn K (.ref g_mDrop) = true)
    (l_mDrop : K.lookup g_mDrop = some ⟨oc_mDrop, od_mDrop, .func (PySem.W.fnOf "drop_last" "Tree.drop_last" (defArgs sDrop) (defBody sDrop) (defScope sDrop) .none kV_mDrop dc_mDrop pm_mDrop an_mDrop cd_mDrop ct_mDrop), sl_mDrop⟩)
    (c_mDrop : PySem.W.codeIn K cd_mDrop "Tree.drop_last" = true)
    (k_mDrop : PySem.W.keepIn K (.ref g_mDrop) = true)
    (a_mTwin : PySem.W.findIn K (.ref C) "twin" = some (some (.ref g_mTwin)))
    (i_mTwin : PySem.W.isFn K (.ref g_mTwin) = true)
    (l_mTwin : K.lookup g_mTwin = some ⟨oc_mTwin, od_mTwin, .func (PySem.W.fnOf "twin" "Tree.twin" (defArgs sTwin) (defBody sTwin) (defScope sTwin) .none kV_mTwin dc_mTwin pm_mTwin an_mTwin cd_mTwin ct_mTwin), sl_mTwin⟩)
    (c_mTwin : PySem.W.codeIn K cd_mTwin "Tree.twin" = true)
    (k_mTwin : PySem.W.keepIn K (.ref g_mTwin) = true)
    (a_fLeans : PySem.W.nsIn K mainGlobals "leans_by" = some (some (.ref g_fLeans)))
    (l_fLeans : K.lookup g_fLeans = some ⟨oc_fLeans, od_fLeans, .func (PySem.W.fnOf "leans_by" "leans_by" (defArgs sLeans) (defBody sLeans) (defScope sLeans) .none kV_fLeans dc_fLeans pm_fLeans an_fLeans cd_fLeans ct_fLeans), sl_fLeans⟩)
    (c_fLeans : PySem.W.codeIn K cd_fLeans "leans_by" = true)
    (k_fLeans : PySem.W.keepIn K (.ref g_fLeans) = true)
    (a_fSoon : PySem.W.nsIn K mainGlobals "first_too_soon" = some (some (.ref g_fSoon)))
    (l_fSoon : K.lookup g_fSoon = some ⟨oc_fSoon, od_fSoon, .func (PySem.W.fnOf "first_too_soon" "first_too_soon" (defArgs sSoon) (defBody sSoon) (defScope sSoon) .none kV_fSoon dc_fSoon pm_fSoon an_fSoon cd_fSoon ct_fSoon), sl_fSoon⟩)
    (c_fSoon : PySem.W.codeIn K cd_fSoon "first_too_soon" = true)
    (k_fSoon : PySem.W.keepIn K (.ref g_fSoon) = true)
    (a_fHow : PySem.W.nsIn K mainGlobals "how_far" = some (some (.ref g_fHow)))
    (l_fHow : K.lookup g_fHow = some ⟨oc_fHow, od_fHow, .func (PySem.W.fnOf "how_far" "how_far" (defArgs sHow) (defBody sHow) (defScope sHow) .none kV_fHow dc_fHow pm_fHow an_fHow cd_fHow ct_fHow), sl_fHow⟩)
    (c_fHow : PySem.W.codeIn K cd_fHow "how_far" = true)
    (k_fHow : PySem.W.keepIn K (.ref g_fHow) = true)
    (a_fBit : PySem.W.nsIn K mainGlobals "bit_of" = some (some (.ref g_fBit)))
    (l_fBit : K.lookup g_fBit = some ⟨oc_fBit, od_fBit, .func (PySem.W.fnOf "bit_of" "bit_of" (defArgs sBit) (defBody sBit) (defScope sBit) .none kV_fBit dc_fBit pm_fBit an_fBit cd_fBit ct_fBit), sl_fBit⟩)
    (c_fBit : PySem.W.codeIn K cd_fBit "bit_of" = true)
    (k_fBit : PySem.W.keepIn K (.ref g_fBit) = true)
    (a_fBits : PySem.W.nsIn K mainGlobals "bits_of" = some (some (.ref g_fBits)))
    (l_fBits : K.lookup g_fBits = some ⟨oc_fBits, od_fBits, .func (PySem.W.fnOf "bits_of" "bits_of" (defArgs sBits) (defBody sBits) (defScope sBits) .none kV_fBits dc_fBits pm_fBits an_fBits cd_fBits ct_fBits), sl_fBits⟩)
    (c_fBits : PySem.W.codeIn K cd_fBits "bits_of" = true)
    (k_fBits : PySem.W.keepIn K (.ref g_fBits) = true)
    (a_fBoP : PySem.W.nsIn K mainGlobals "bits_on_parts" = some (some (.ref g_fBoP)))
    (l_fBoP : K.lookup g_fBoP = some ⟨oc_fBoP, od_fBoP, .func (PySem.W.fnOf "bits_on_parts" "bits_on_parts" (defArgs sBoP) (defBody sBoP) (defScope sBoP) .none kV_fBoP dc_fBoP pm_fBoP an_fBoP cd_fBoP ct_fBoP), sl_fBoP⟩)
    (c_fBoP : PySem.W.codeIn K cd_fBoP "bits_on_parts" = true)
    (k_fBoP : PySem.W.keepIn K (.ref g_fBoP) = true)
    (a_fMay : PySem.W.nsIn K mainGlobals "may_come_off" = some (some (.ref g_fMay)))
    (l_fMay : K.lookup g_fMay = some ⟨oc_fMay, od_fMay, .func (PySem.W.fnOf "may_come_off" "may_come_off" (defArgs sMay) (defBody sMay) (defScope sMay) .none kV_fMay dc_fMay pm_fMay an_fMay cd_fMay ct_fMay), sl_fMay⟩)
    (c_fMay : PySem.W.codeIn K cd_fMay "may_come_off" = true)
    (k_fMay : PySem.W.keepIn K (.ref g_fMay) = true)
    (a_fWhen : PySem.W.nsIn K mainGlobals "lean_when" = some (some (.ref g_fWhen)))
    (l_fWhen : K.lookup g_fWhen = some ⟨oc_fWhen, od_fWhen, .func (PySem.W.fnOf "lean_when" "lean_when" (defArgs sWhen) (defBody sWhen) (defScope sWhen) .none kV_fWhen dc_fWhen pm_fWhen an_fWhen cd_fWhen ct_fWhen), sl_fWhen⟩)
    (c_fWhen : PySem.W.codeIn K cd_fWhen "lean_when" = true)
    (k_fWhen : PySem.W.keepIn K (.ref g_fWhen) = true)
    (a_fFrom : PySem.W.nsIn K mainGlobals "least_from" = some (some (.ref g_fFrom)))
    (l_fFrom : K.lookup g_fFrom = some ⟨oc_fFrom, od_fFrom, .func (PySem.W.fnOf "least_from" "least_from" (defArgs sFrom) (defBody sFrom) (defScope sFrom) .none kV_fFrom dc_fFrom pm_fFrom an_fFrom cd_fFrom ct_fFrom), sl_fFrom⟩)
    (c_fFrom : PySem.W.codeIn K cd_fFrom "least_from" = true)
    (k_fFrom : PySem.W.keepIn K (.ref g_fFrom) = true)
    (a_fFar : PySem.W.nsIn K mainGlobals "least_far" = some (some (.ref g_fFar)))
    (l_fFar : K.lookup g_fFar = some ⟨oc_fFar, od_fFar, .func (PySem.W.fnOf "least_far" "least_far" (defArgs sFar) (defBody sFar) (defScope sFar) .none kV_fFar dc_fFar pm_fFar an_fFar cd_fFar ct_fFar), sl_fFar⟩)
    (c_fFar : PySem.W.codeIn K cd_fFar "least_far" = true)
    (k_fFar : PySem.W.keepIn K (.ref g_fFar) = true)
    (a_fOrd : PySem.W.nsIn K mainGlobals "least_order" = some (some (.ref g_fOrd)))
    (l_fOrd : K.lookup g_fOrd = some ⟨oc_fOrd, od_fOrd, .func (PySem.W.fnOf "least_order" "least_order" (defArgs sOrd) (defBody sOrd) (defScope sOrd) .none kV_fOrd dc_fOrd pm_fOrd an_fOrd cd_fOrd ct_fOrd), sl_fOrd⟩)
    (c_fOrd : PySem.W.codeIn K cd_fOrd "least_order" = true)
    (k_fOrd : PySem.W.keepIn K (.ref g_fOrd) = true)
    (a_fPeak : PySem.W.nsIn K mainGlobals "peak" = some (some (.ref g_fPeak)))
    (l_fPeak : K.lookup g_fPeak = some ⟨oc_fPeak, od_fPeak, .func (PySem.W.fnOf "peak" "peak" (defArgs sPeak) (defBody sPeak) (defScope sPeak) .none kV_fPeak dc_fPeak pm_fPeak an_fPeak cd_fPeak ct_fPeak), sl_fPeak⟩)
    (c_fPeak : PySem.W.codeIn K cd_fPeak "peak" = true)
    (k_fPeak : PySem.W.keepIn K (.ref g_fPeak) = true)
    (a_fTotal : PySem.W.nsIn K mainGlobals "total" = some (some (.ref g_fTotal)))
    (l_fTotal : K.lookup g_fTotal = some ⟨oc_fTotal, od_fTotal, .func (PySem.W.fnOf "total" "total" (defArgs sTotal) (defBody sTotal) (defScope sTotal) .none kV_fTotal dc_fTotal pm_fTotal an_fTotal cd_fTotal ct_fTotal), sl_fTotal⟩)
    (c_fTotal : PySem.W.codeIn K cd_fTotal "total" = true)
    (k_fTotal : PySem.W.keepIn K (.ref g_fTotal) = true)
    (a_fStand : PySem.W.nsIn K mainGlobals "standing" = some (some (.ref g_fStand)))
    (l_fStand : K.lookup g_fStand = some ⟨oc_fStand, od_fStand, .func (PySem.W.fnOf "standing" "standing" (defArgs sStand) (defBody sStand) (defScope sStand) .none kV_fStand dc_fStand pm_fStand an_fStand cd_fStand ct_fStand), sl_fStand⟩)
    (c_fStand : PySem.W.codeIn K cd_fStand "standing" = true)
    (k_fStand : PySem.W.keepIn K (.ref g_fStand) = true)
    (a_fWith : PySem.W.nsIn K mainGlobals "with_part" = some (some (.ref g_fWith)))
    (l_fWith : K.lookup g_fWith = some ⟨oc_fWith, od_fWith, .func (PySem.W.fnOf "with_part" "with_part" (defArgs sWith) (defBody sWith) (defScope sWith) .none kV_fWith dc_fWith pm_fWith an_fWith cd_fWith ct_fWith), sl_fWith⟩)
    (c_fWith : PySem.W.codeIn K cd_fWith "with_part" = true)
    (k_fWith : PySem.W.keepIn K (.ref g_fWith) = true)
    (a_fRows : PySem.W.nsIn K mainGlobals "rows_of_tree" = some (some (.ref g_fRows)))
    (l_fRows : K.lookup g_fRows = some ⟨oc_fRows, od_fRows, .func (PySem.W.fnOf "rows_of_tree" "rows_of_tree" (defArgs sRows) (defBody sRows) (defScope sRows) .none kV_fRows dc_fRows pm_fRows an_fRows cd_fRows ct_fRows), sl_fRows⟩)
    (c_fRows : PySem.W.codeIn K cd_fRows "rows_of_tree" = true)
    (k_fRows : PySem.W.keepIn K (.ref g_fRows) = true)
    (a_fBeg : PySem.W.nsIn K mainGlobals "least_beginning_with" = some (some (.ref g_fBeg)))
    (l_fBeg : K.lookup g_fBeg = some ⟨oc_fBeg, od_fBeg, .func (PySem.W.fnOf "least_beginning_with" "least_beginning_with" (defArgs sBeg) (defBody sBeg) (defScope sBeg) .none kV_fBeg dc_fBeg pm_fBeg an_fBeg cd_fBeg ct_fBeg), sl_fBeg⟩)
    (c_fBeg : PySem.W.codeIn K cd_fBeg "least_beginning_with" = true)
    (k_fBeg : PySem.W.keepIn K (.ref g_fBeg) = true)
    (a_fCnt : PySem.W.nsIn K mainGlobals "count_orders" = some (some (.ref g_fCnt)))
    (l_fCnt : K.lookup g_fCnt = some ⟨oc_fCnt, od_fCnt, .func (PySem.W.fnOf "count_orders" "count_orders" (defArgs sCnt) (defBody sCnt) (defScope sCnt) .none kV_fCnt dc_fCnt pm_fCnt an_fCnt cd_fCnt ct_fCnt), sl_fCnt⟩)
    (c_fCnt : PySem.W.codeIn K cd_fCnt "count_orders" = true)
    (k_fCnt : PySem.W.keepIn K (.ref g_fCnt) = true)
    (a_fNext : PySem.W.nsIn K mainGlobals "next_behind" = some (some (.ref g_fNext)))
    (l_fNext : K.lookup g_fNext = some ⟨oc_fNext, od_fNext, .func (PySem.W.fnOf "next_behind" "next_behind" (defArgs sNext) (defBody sNext) (defScope sNext) .none kV_fNext dc_fNext pm_fNext an_fNext cd_fNext ct_fNext), sl_fNext⟩)
    (c_fNext : PySem.W.codeIn K cd_fNext "next_behind" = true)
    (k_fNext : PySem.W.keepIn K (.ref g_fNext) = true)
    (a_fNob : PySem.W.nsIn K mainGlobals "is_no_bough" = some (some (.ref g_fNob)))
    (l_fNob : K.lookup g_fNob = some ⟨oc_fNob, od_fNob, .func (PySem.W.fnOf "is_no_bough" "is_no_bough" (defArgs sNob) (defBody sNob) (defScope sNob) .none kV_fNob dc_fNob pm_fNob an_fNob cd_fNob ct_fNob), sl_fNob⟩)
    (c_fNob : PySem.W.codeIn K cd_fNob "is_no_bough" = true)
    (k_fNob : PySem.W.keepIn K (.ref g_fNob) = true)
    (a_rfb : PySem.W.nsIn K mainGlobals "rows_for_boughs" = some (some (.ref g_rfb)))
    (l_rfb : K.lookup g_rfb = some ⟨oc_rfb, od_rfb, .func (PySem.W.fnOf "rows_for_boughs" "rows_for_boughs" (defArgs sRfb) (defBody sRfb) (defScope sRfb) .none kV_rfb dc_rfb pm_rfb an_rfb (.ref cR0) ct_rfb), sl_rfb⟩)
    (c_rfb : PySem.W.codeIn K (.ref cR0) "rows_for_boughs" = true)
    (k_rfb : PySem.W.keepIn K (.ref g_rfb) = true)
    (a_q0 : PySem.W.nsIn K mainGlobals "begin" = some (some (.ref g_q0)))
    (l_q0 : K.lookup g_q0 = some ⟨oc_q0, od_q0, .func (PySem.W.fnOf "begin" "begin" (defArgs sBegin) (defBody sBegin) (defScope sBegin) .none kV_q0 dc_q0 pm_q0 an_q0 cd_q0 ct_q0), sl_q0⟩)
    (c_q0 : PySem.W.codeIn K cd_q0 "begin" = true)
    (k_q0 : PySem.W.keepIn K (.ref g_q0) = true)
    (a_q1 : PySem.W.nsIn K mainGlobals "bough" = some (some (.ref g_q1)))
    (l_q1 : K.lookup g_q1 = some ⟨oc_q1, od_q1, .func (PySem.W.fnOf "bough" "bough" (defArgs sBough) (defBody sBough) (defScope sBough) .none kV_q1 dc_q1 pm_q1 an_q1 cd_q1 ct_q1), sl_q1⟩)
    (c_q1 : PySem.W.codeIn K cd_q1 "bough" = true)
    (k_q1 : PySem.W.keepIn K (.ref g_q1) = true)
    (a_q2 : PySem.W.nsIn K mainGlobals "change" = some (some (.ref g_q2)))
    (l_q2 : K.lookup g_q2 = some ⟨oc_q2, od_q2, .func (PySem.W.fnOf "change" "change" (defArgs sChange) (defBody sChange) (defScope sChange) .none kV_q2 dc_q2 pm_q2 an_q2 cd_q2 ct_q2), sl_q2⟩)
    (c_q2 : PySem.W.codeIn K cd_q2 "change" = true)
    (k_q2 : PySem.W.keepIn K (.ref g_q2) = true)
    (a_q3 : PySem.W.nsIn K mainGlobals "less" = some (some (.ref g_q3)))
    (l_q3 : K.lookup g_q3 = some ⟨oc_q3, od_q3, .func (PySem.W.fnOf "less" "less" (defArgs sLess) (defBody sLess) (defScope sLess) .none kV_q3 dc_q3 pm_q3 an_q3 cd_q3 ct_q3), sl_q3⟩)
    (c_q3 : PySem.W.codeIn K cd_q3 "less" = true)
    (k_q3 : PySem.W.keepIn K (.ref g_q3) = true)
    (a_q4 : PySem.W.nsIn K mainGlobals "lean" = some (some (.ref g_q4)))
    (l_q4 : K.lookup g_q4 = some ⟨oc_q4, od_q4, .func (PySem.W.fnOf "lean" "lean" (defArgs sLean) (defBody sLean) (defScope sLean) .none kV_q4 dc_q4 pm_q4 an_q4 cd_q4 ct_q4), sl_q4⟩)
    (c_q4 : PySem.W.codeIn K cd_q4 "lean" = true)
    (k_q4 : PySem.W.keepIn K (.ref g_q4) = true)
    (a_q5 : PySem.W.nsIn K mainGlobals "try_order" = some (some (.ref g_q5)))
    (l_q5 : K.lookup g_q5 = some ⟨oc_q5, od_q5, .func (PySem.W.fnOf "try_order" "try_order" (defArgs sTry) (defBody sTry) (defScope sTry) .none kV_q5 dc_q5 pm_q5 an_q5 cd_q5 ct_q5), sl_q5⟩)
    (c_q5 : PySem.W.codeIn K cd_q5 "try_order" = true)
    (k_q5 : PySem.W.keepIn K (.ref g_q5) = true)
    (a_q6 : PySem.W.nsIn K mainGlobals "right" = some (some (.ref g_q6)))
    (l_q6 : K.lookup g_q6 = some ⟨oc_q6, od_q6, .func (PySem.W.fnOf "right" "right" (defArgs sRight) (defBody sRight) (defScope sRight) .none kV_q6 dc_q6 pm_q6 an_q6 cd_q6 ct_q6), sl_q6⟩)
    (c_q6 : PySem.W.codeIn K cd_q6 "right" = true)
    (k_q6 : PySem.W.keepIn K (.ref g_q6) = true)
    (a_q7 : PySem.W.nsIn K mainGlobals "left" = some (some (.ref g_q7)))
    (l_q7 : K.lookup g_q7 = some ⟨oc_q7, od_q7, .func (PySem.W.fnOf "left" "left" (defArgs sLeft) (defBody sLeft) (defScope sLeft) .none kV_q7 dc_q7 pm_q7 an_q7 cd_q7 ct_q7), sl_q7⟩)
    (c_q7 : PySem.W.codeIn K cd_q7 "left" = true)
    (k_q7 : PySem.W.keepIn K (.ref g_q7) = true)
    (a_q8 : PySem.W.nsIn K mainGlobals "both" = some (some (.ref g_q8)))
    (l_q8 : K.lookup g_q8 = some ⟨oc_q8, od_q8, .func (PySem.W.fnOf "both" "both" (defArgs sBoth) (defBody sBoth) (defScope sBoth) .none kV_q8 dc_q8 pm_q8 an_q8 cd_q8 ct_q8), sl_q8⟩)
    (c_q8 : PySem.W.codeIn K cd_q8 "both" = true)
    (k_q8 : PySem.W.keepIn K (.ref g_q8) = true)
    (a_q9 : PySem.W.nsIn K mainGlobals "order" = some (some (.ref g_q9)))
    (l_q9 : K.lookup g_q9 = some ⟨oc_q9, od_q9, .func (PySem.W.fnOf "order" "order" (defArgs sOrder) (defBody sOrder) (defScope sOrder) .none kV_q9 dc_q9 pm_q9 an_q9 cd_q9 ct_q9), sl_q9⟩)
    (c_q9 : PySem.W.codeIn K cd_q9 "order" = true)
    (k_q9 : PySem.W.keepIn K (.ref g_q9) = true)
    (a_q10 : PySem.W.nsIn K mainGlobals "told" = some (some (.ref g_q10)))
    (l_q10 : K.lookup g_q10 = some ⟨oc_q10, od_q10, .func (PySem.W.fnOf "told" "told" (defArgs sTold) (defBody sTold) (defScope sTold) .none kV_q10 dc_q10 pm_q10 an_q10 cd_q10 ct_q10), sl_q10⟩)
    (c_q10 : PySem.W.codeIn K cd_q10 "told" = true)
    (k_q10 : PySem.W.keepIn K (.ref g_q10) = true)
    (a_q11 : PySem.W.nsIn K mainGlobals "rows" = some (some (.ref g_q11)))
    (l_q11 : K.lookup g_q11 = some ⟨oc_q11, od_q11, .func (PySem.W.fnOf "rows" "rows" (defArgs sRowsC) (defBody sRowsC) (defScope sRowsC) .none kV_q11 dc_q11 pm_q11 an_q11 cd_q11 ct_q11), sl_q11⟩)
    (c_q11 : PySem.W.codeIn K cd_q11 "rows" = true)
    (k_q11 : PySem.W.keepIn K (.ref g_q11) = true)
    (a_q12 : PySem.W.nsIn K mainGlobals "ways" = some (some (.ref g_q12)))
    (l_q12 : K.lookup g_q12 = some ⟨oc_q12, od_q12, .func (PySem.W.fnOf "ways" "ways" (defArgs sWays) (defBody sWays) (defScope sWays) .none kV_q12 dc_q12 pm_q12 an_q12 cd_q12 ct_q12), sl_q12⟩)
    (c_q12 : PySem.W.codeIn K cd_q12 "ways" = true)
    (k_q12 : PySem.W.keepIn K (.ref g_q12) = true)
    (a_q13 : PySem.W.nsIn K mainGlobals "may" = some (some (.ref g_q13)))
    (l_q13 : K.lookup g_q13 = some ⟨oc_q13, od_q13, .func (PySem.W.fnOf "may" "may" (defArgs sMayC) (defBody sMayC) (defScope sMayC) .none kV_q13 dc_q13 pm_q13 an_q13 cd_q13 ct_q13), sl_q13⟩)
    (c_q13 : PySem.W.codeIn K cd_q13 "may" = true)
    (k_q13 : PySem.W.keepIn K (.ref g_q13) = true)
    (a_q14 : PySem.W.nsIn K mainGlobals "first" = some (some (.ref g_q14)))
    (l_q14 : K.lookup g_q14 = some ⟨oc_q14, od_q14, .func (PySem.W.fnOf "first" "first" (defArgs sFirst) (defBody sFirst) (defScope sFirst) .none kV_q14 dc_q14 pm_q14 an_q14 cd_q14 ct_q14), sl_q14⟩)
    (c_q14 : PySem.W.codeIn K cd_q14 "first" = true)
    (k_q14 : PySem.W.keepIn K (.ref g_q14) = true)
    (a_q15 : PySem.W.nsIn K mainGlobals "keeps" = some (some (.ref g_q15)))
    (l_q15 : K.lookup g_q15 = some ⟨oc_q15, od_q15, .func (PySem.W.fnOf "keeps" "keeps" (defArgs sKeeps) (defBody sKeeps) (defScope sKeeps) .none kV_q15 dc_q15 pm_q15 an_q15 cd_q15 ct_q15), sl_q15⟩)
    (c_q15 : PySem.W.codeIn K cd_q15 "keeps" = true)
    (k_q15 : PySem.W.keepIn K (.ref g_q15) = true)
    (a_q16 : PySem.W.nsIn K mainGlobals "ifchange" = some (some (.ref g_q16)))
    (l_q16 : K.lookup g_q16 = some ⟨oc_q16, od_q16, .func (PySem.W.fnOf "ifchange" "ifchange" (defArgs sIfc) (defBody sIfc) (defScope sIfc) .none kV_q16 dc_q16 pm_q16 an_q16 cd_q16 ct_q16), sl_q16⟩)
    (c_q16 : PySem.W.codeIn K cd_q16 "ifchange" = true)
    (k_q16 : PySem.W.keepIn K (.ref g_q16) = true)
    (a_q17 : PySem.W.nsIn K mainGlobals "iflean" = some (some (.ref g_q17)))
    (l_q17 : K.lookup g_q17 = some ⟨oc_q17, od_q17, .func (PySem.W.fnOf "iflean" "iflean" (defArgs sIfl) (defBody sIfl) (defScope sIfl) .none kV_q17 dc_q17 pm_q17 an_q17 cd_q17 ct_q17), sl_q17⟩)
    (c_q17 : PySem.W.codeIn K cd_q17 "iflean" = true)
    (k_q17 : PySem.W.keepIn K (.ref g_q17) = true)
    (a_q18 : PySem.W.nsIn K mainGlobals "boughs" = some (some (.ref g_q18)))
    (l_q18 : K.lookup g_q18 = some ⟨oc_q18, od_q18, .func (PySem.W.fnOf "boughs" "boughs" (defArgs sBoughs) (defBody sBoughs) (defScope sBoughs) .none kV_q18 dc_q18 pm_q18 an_q18 cd_q18 ct_q18), sl_q18⟩)
    (c_q18 : PySem.W.codeIn K cd_q18 "boughs" = true)
    (k_q18 : PySem.W.keepIn K (.ref g_q18) = true)
    (a_q19 : PySem.W.nsIn K mainGlobals "look" = some (some (.ref g_q19)))
    (l_q19 : K.lookup g_q19 = some ⟨oc_q19, od_q19, .func (PySem.W.fnOf "look" "look" (defArgs sLook) (defBody sLook) (defScope sLook) .none kV_q19 dc_q19 pm_q19 an_q19 cd_q19 ct_q19), sl_q19⟩)
    (c_q19 : PySem.W.codeIn K cd_q19 "look" = true)
    (k_q19 : PySem.W.keepIn K (.ref g_q19) = true)
    (a_q20 : PySem.W.nsIn K mainGlobals "ends" = some (some (.ref g_q20)))
    (l_q20 : K.lookup g_q20 = some ⟨oc_q20, od_q20, .func (PySem.W.fnOf "ends" "ends" (defArgs sEnds) (defBody sEnds) (defScope sEnds) .none kV_q20 dc_q20 pm_q20 an_q20 cd_q20 ct_q20), sl_q20⟩)
    (c_q20 : PySem.W.codeIn K cd_q20 "ends" = true)
    (k_q20 : PySem.W.keepIn K (.ref g_q20) = true)
    (a_q21 : PySem.W.nsIn K mainGlobals "state" = some (some (.ref g_q21)))
    (l_q21 : K.lookup g_q21 = some ⟨oc_q21, od_q21, .func (PySem.W.fnOf "state" "state" (defArgs sState) (defBody sState) (defScope sState) .none kV_q21 dc_q21 pm_q21 an_q21 cd_q21 ct_q21), sl_q21⟩)
    (c_q21 : PySem.W.codeIn K cd_q21 "state" = true)
    (k_q21 : PySem.W.keepIn K (.ref g_q21) = true)
    (a_ac : PySem.W.nsIn K mainGlobals "answer_call" = some (some (.ref g_ac)))
    (l_ac : K.lookup g_ac = some ⟨oc_ac, od_ac, .func (PySem.W.fnOf "answer_call" "answer_call" (defArgs sAC) (defBody sAC) (defScope sAC) .none kV_ac dc_ac pm_ac an_ac cd_ac ct_ac), sl_ac⟩)
    (c_ac : PySem.W.codeIn K cd_ac "answer_call" = true)
    (k_ac : PySem.W.keepIn K (.ref g_ac) = true)
    (a_an : PySem.W.nsIn K mainGlobals "answers" = some (some (.ref g_an)))
    (l_an : K.lookup g_an = some ⟨oc_an, od_an, .func (PySem.W.fnOf "answers" "answers" (defArgs sAns) (defBody sAns) (defScope sAns) .none kV_an dc_an pm_an an_an cd_an ct_an), sl_an⟩)
    (c_an : PySem.W.codeIn K cd_an "answers" = true)
    (k_an : PySem.W.keepIn K (.ref g_an) = true)
    (lcR : K.lookup cR0 = some ⟨oc4, od4, .fields vs4, sl4⟩)
    (pcR : (vs4[11]? : Option Value) = some (.ref Pt))
    (kP : K.lookup Pt = none)
    (aCalls : PySem.W.nsIn K mainGlobals "CALLS" = some (some (.ref tc)))
    (lCalls : K.lookup tc = some ⟨.type "tuple", od1, .seq #[.ref g_q0, .ref g_q1, .ref g_q2, .ref g_q3, .ref g_q4, .ref g_q5, .ref g_q6, .ref g_q7, .ref g_q8, .ref g_q9, .ref g_q10, .ref g_q11, .ref g_q12, .ref g_q13, .ref g_q14, .ref g_q15, .ref g_q16, .ref g_q17, .ref g_q18, .ref g_q19, .ref g_q20, .ref g_q21] n1, sl1⟩)
    (aPlain : PySem.W.nsIn K mainGlobals "PLAIN_NUMBERS" = some (some (.ref tp)))
    (lPlain : K.lookup tp = some ⟨.type "tuple", od2, .seq #[.int 1 tp0, .int 2 tp1, .int 2 tp2, .int 0 tp3, .int 1 tp4, .int 0 tp5, .int 0 tp6, .int 0 tp7, .int 0 tp8, .int 1 tp9, .int 0 tp10, .int 0 tp11, .int 0 tp12, .int 0 tp13, .int 1 tp14, .int 1 tp15, .int 2 tp16, .int 1 tp17, .int 1 tp18, .int 1 tp19, .int 0 tp20, .int 0 tp21] n2, sl2⟩)
    (aRows : PySem.W.nsIn K mainGlobals "CALLS_WITH_ROW" = some (some (.ref tr)))
    (lRows : K.lookup tr = some ⟨.type "tuple", od3, .seq #[.int 5 tr5, .int 13 tr13] n3, sl3⟩)
    : ∃ (fd : FuncData) (c Pt : Addr), PySem.W.tabIn K "rows_for_boughs" = some (c, Pt) ∧ K.lookup Pt = none ∧ (∀ (s : Shared) (us : List Value), us.length = (["calls"] : List Str).length → BindsTo s fd ⟨us, []⟩ ((["calls"] : List Str).zip us)) ∧
        ∀ base : Heap, K.In base → base.Ns mainGlobals mg → PySem.W.CodeHd base c Pt → base.BuiltinsAt mg Pt → FnOk P w K mg base CX0 11 fa fd ["calls"] (spAns K Pt) := by
  have e := hfa.symm.trans (PySem.W.mg_of X G a_an)
  cases e
  have T : Txt K mg C := Facts.txt X G ⟨aC, ⟨pg, hd, po, sa⟩, nB, nL, nH, nC, z0, z1, z2, z3, z4, z5, z6, z7, z8⟩
  have c2 : Cst mg "NO_SUCH_PART" (-2) := ⟨_, PySem.W.mg_of X G k_c2⟩
  have c6 : Cst mg "TRUNK_ALONE" (-6) := ⟨_, PySem.W.mg_of X G k_c6⟩
  have c11 : Cst mg "NOT_BEGUN" (-11) := ⟨_, PySem.W.mg_of X G k_c11⟩
  have c22 : Cst mg "NOT_AS_TOLD" (-22) := ⟨_, PySem.W.mg_of X G k_c22⟩
  have c28 : Cst mg "TOO_MANY" (-28) := ⟨_, PySem.W.mg_of X G k_c28⟩
  have c33 : Cst mg "SOMETHING_HANGS_ON_IT" (-33) := ⟨_, PySem.W.mg_of X G k_c33⟩
  have cM : Cst mg "MOST_PARTS" 9 := ⟨_, PySem.W.mg_of X G k_cM⟩
  have cLS : Cst mg "LEAN_SHIFT" 200 := ⟨_, PySem.W.mg_of X G k_cLS⟩
  have cGL : Cst mg "GREATEST_LEAN" 400 := ⟨_, PySem.W.mg_of X G k_cGL⟩
  have cCS : Cst mg "CHANGE_SHIFT" 50 := ⟨_, PySem.W.mg_of X G k_cCS⟩
  have cGC : Cst mg "GREATEST_CHANGE" 100 := ⟨_, PySem.W.mg_of X G k_cGC⟩
  have cSi : Cst mg "SIDES" 3 := ⟨_, PySem.W.mg_of X G k_cSi⟩
  have cR : Cst mg "RIGHT" 0 := ⟨_, PySem.W.mg_of X G k_cR⟩
  have cL : Cst mg "LEFT" 1 := ⟨_, PySem.W.mg_of X G k_cL⟩
  have cE : Cst mg "EITHER" 2 := ⟨_, PySem.W.mg_of X G k_cE⟩
  have c0 : Cst mg "BEGIN_CALL" 0 := ⟨_, PySem.W.mg_of X G k_c0⟩
  have FA := fun_mk (st := sAns) l_an c_an k_an
  have FI := fun_mk (st := sInit) l_mI c_mI k_mI
  have FC := fun_mk (st := sAC) l_ac c_ac k_ac
  have bI := FI.binds (ps := ["self"]) fun _ _ _ _ _ _ us hl => match us, hl with | [_], _ => rfl
  have bA := FC.binds (ps := ["tree", "number", "given"]) fun _ _ _ _ _ _ us hl => match us, hl with | [_, _, _], _ => rfl
  refine ⟨PySem.W.fnOf "answers" "answers" (defArgs sAns) (defBody sAns) (defScope sAns) .none kV_an dc_an pm_an an_an cd_an ct_an, cR0, Pt, tab_mk a_rfb l_rfb rfl lcR pcR, kP, fun s us hu => match us, hu with | [_], _ => .of_eq rfl, fun base _ _ hC hB => ?_⟩
  have R : Reck P w K mg base C Pt := reck X G T hC hB cR cL ⟨_, _, ⟨a_mCount, i_mCount, k_mCount⟩, fun_mk l_mCount c_mCount k_mCount⟩ ⟨_, _, ⟨a_mLoose, i_mLoose, k_mLoose⟩, fun_mk l_mLoose c_mLoose k_mLoose⟩ ⟨_, _, ⟨a_mOn, i_mOn, k_mOn⟩, fun_mk l_mOn c_mOn k_mOn⟩ ⟨_, _, ⟨a_mAnew, i_mAnew, k_mAnew⟩, fun_mk l_mAnew c_mAnew k_mAnew⟩ ⟨_, _, ⟨a_mHang, i_mHang, k_mHang⟩, fun_mk l_mHang c_mHang k_mHang⟩ ⟨_, _, ⟨a_mDrop, i_mDrop, k_mDrop⟩, fun_mk l_mDrop c_mDrop k_mDrop⟩ ⟨_, _, a_fLeans, fun_mk l_fLeans c_fLeans k_fLeans⟩ ⟨_, _, a_fSoon, fun_mk l_fSoon c_fSoon k_fSoon⟩ ⟨_, _, a_fHow, fun_mk l_fHow c_fHow k_fHow⟩ ⟨_, _, a_fBit, fun_mk l_fBit c_fBit k_fBit⟩ ⟨_, _, a_fBits, fun_mk l_fBits c_fBits k_fBits⟩ ⟨_, _, a_fBoP, fun_mk l_fBoP c_fBoP k_fBoP⟩ ⟨_, _, a_fMay, fun_mk l_fMay c_fMay k_fMay⟩ ⟨_, _, a_fWhen, fun_mk l_fWhen c_fWhen k_fWhen⟩ ⟨_, _, a_fFrom, fun_mk l_fFrom c_fFrom k_fFrom⟩ ⟨_, _, a_fFar, fun_mk l_fFar c_fFar k_fFar⟩ ⟨_, _, a_fOrd, fun_mk l_fOrd c_fOrd k_fOrd⟩ ⟨_, _, a_fPeak, fun_mk l_fPeak c_fPeak k_fPeak⟩ ⟨_, _, a_fTotal, fun_mk l_fTotal c_fTotal k_fTotal⟩ ⟨_, _, a_fStand, fun_mk l_fStand c_fStand k_fStand⟩ a_rfb ⟨⟨_, _, _, _, _, _, _, _, rfl, l_rfb, c_rfb⟩, k_rfb⟩ ⟨_, _, a_fWith, fun_mk l_fWith c_fWith k_fWith⟩ ⟨_, _, a_fRows, fun_mk l_fRows c_fRows k_fRows⟩ ⟨mk, a_mI, i_mI, kc⟩ (ok_init FI T) bI c2 c22 cGC cCS cGL cLS cE ⟨_, _, ⟨a_mTwin, i_mTwin, k_mTwin⟩, fun_mk l_mTwin c_mTwin k_mTwin⟩ ⟨_, _, a_fBeg, fun_mk l_fBeg c_fBeg k_fBeg⟩ ⟨_, _, a_fCnt, fun_mk l_fCnt c_fCnt k_fCnt⟩ ⟨_, _, a_fNext, fun_mk l_fNext c_fNext k_fNext⟩ ⟨_, _, a_fNob, fun_mk l_fNob c_fNob k_fNob⟩ ⟨_, _, a_q2, fun_mk l_q2 c_q2 k_q2⟩ ⟨_, _, a_q4, fun_mk l_q4 c_q4 k_q4⟩ ⟨_, _, a_q6, fun_mk l_q6 c_q6 k_q6⟩ ⟨_, _, a_q8, fun_mk l_q8 c_q8 k_q8⟩
  have HC : CallsOk P w K mg base C Pt 8 := calls_ok T R ⟨_, a_q0, fun_mk l_q0 c_q0 k_q0⟩ ⟨_, a_q1, fun_mk l_q1 c_q1 k_q1⟩ ⟨_, a_q2, fun_mk l_q2 c_q2 k_q2⟩ ⟨_, a_q3, fun_mk l_q3 c_q3 k_q3⟩ ⟨_, a_q4, fun_mk l_q4 c_q4 k_q4⟩ ⟨_, a_q5, fun_mk l_q5 c_q5 k_q5⟩ ⟨_, a_q6, fun_mk l_q6 c_q6 k_q6⟩ ⟨_, a_q7, fun_mk l_q7 c_q7 k_q7⟩ ⟨_, a_q8, fun_mk l_q8 c_q8 k_q8⟩ ⟨_, a_q9, fun_mk l_q9 c_q9 k_q9⟩ ⟨_, a_q10, fun_mk l_q10 c_q10 k_q10⟩ ⟨_, a_q11, fun_mk l_q11 c_q11 k_q11⟩ ⟨_, a_q12, fun_mk l_q12 c_q12 k_q12⟩ ⟨_, a_q13, fun_mk l_q13 c_q13 k_q13⟩ ⟨_, a_q14, fun_mk l_q14 c_q14 k_q14⟩ ⟨_, a_q15, fun_mk l_q15 c_q15 k_q15⟩ ⟨_, a_q16, fun_mk l_q16 c_q16 k_q16⟩ ⟨_, a_q17, fun_mk l_q17 c_q17 k_q17⟩ ⟨_, a_q18, fun_mk l_q18 c_q18 k_q18⟩ ⟨_, a_q19, fun_mk l_q19 c_q19 k_q19⟩ ⟨_, a_q20, fun_mk l_q20 c_q20 k_q20⟩ ⟨_, a_q21, fun_mk l_q21 c_q21 k_q21⟩ c2 c6 c11 c22 c28 c33 cM cLS cGL cCS cGC cSi cR cL cE c0 (PySem.W.mg_of X G aCalls) lCalls
  have GA : Callee P w K mg base (8 + 2) "answer_call" ["tree", "number", "given"] (spAC K C Pt) := to_callee (PySem.W.mg_of X G a_ac) FC bA ((ok_ac FC T c0 c11 HC).mono (by decide))
  exact ok_ans FA T ⟨mk, a_mI, i_mI, kc⟩ (ok_init FI T) bI (PySem.W.mg_of X G aPlain) (fun H => tup_at lPlain (by show 22 ≤ sizeLine; decide) (vint (vint (vint (vint (vint (vint (vint (vint (vint (vint (vint (vint (vint (vint (vint (vint (vint (vint (vint (vint (vint (vint .nil)))))))))))))))))))))) H) (PySem.W.mg_of X G aRows) (fun H => tup_at lRows (by show 2 ≤ sizeLine; decide) (vint (vint .nil)) H) GA
end
end Le

end
section
open PySem PySem.W PyProof.Rows
set_option Elab.async false
noncomputable def PySem.W.Fast.tw5814572201595944406 : Nat := 0
theorem PySem.W.Fast.te5814572201595944406 : True := trivial
noncomputable def PySem.W.Fast.tw4002207599998780484 : Nat := 0
theorem PySem.W.Fast.te4002207599998780484 : True := trivial
noncomputable def PySem.W.Fast.tw10392414767615019698 : PySem.Program := PySem.Challenge.pw_leaning_s01_answers
theorem PySem.W.Fast.te10392414767615019698 : PySem.Challenge.pw_leaning_s01_answers = PySem.W.Fast.tw10392414767615019698 := rfl
set_option maxRecDepth 100000 in
set_option maxHeartbeats 0 in
theorem PySem.Challenge.cw_leaning_s01_answers_holds : PySem.Challenge.rw_leaning_s01_answers.Holds := by
  w_on; k_headS; (case hw => exact ⟨[.list [.int 0, .int 0]], by decide +kernel, by decide +kernel⟩)
  k_fillS
  refine L2.walk_specT (r := PySem.Challenge.rw_leaning_s01_answers) (k := 11) (CX := L2.CX0) (ps := ["calls"]) (sp := Le.spAns) "rows_for_boughs" (by decide +kernel) rfl rfl ⟨rfl, by decide, by decide⟩ (fun w h Y => PySem.W.kIn_of Y) rfl ?F Le.ans_sp (fun _ _ _ _ z => z)
  case F =>
    intro w mg fa h Y KX G hmg
    refine' Le.all_mk KX G hmg ?aC ?pg ?hd ?po ?sa ?mk ?kc ?nB ?nL ?nH ?nC ?z0 ?z1 ?z2 ?z3 ?z4 ?z5 ?z6 ?z7 ?z8 ?k_c2 ?k_c6 ?k_c11 ?k_c22 ?k_c28 ?k_c33 ?k_cM ?k_cLS ?k_cGL ?k_cCS ?k_cGC ?k_cSi ?k_cR ?k_cL ?k_cE ?k_c0 ?a_mI ?i_mI ?l_mI ?c_mI ?k_mI ?a_mCount ?i_mCount ?l_mCount ?c_mCount ?k_mCount ?a_mLoose ?i_mLoose ?l_mLoose ?c_mLoose ?k_mLoose ?a_mOn ?i_mOn ?l_mOn ?c_mOn ?k_mOn ?a_mAnew ?i_mAnew ?l_mAnew ?c_mAnew ?k_mAnew ?a_mHang ?i_mHang ?l_mHang ?c_mHang ?k_mHang ?a_mDrop ?i_mDrop ?l_mDrop ?c_mDrop ?k_mDrop ?a_mTwin ?i_mTwin ?l_mTwin ?c_mTwin ?k_mTwin ?a_fLeans ?l_fLeans ?c_fLeans ?k_fLeans ?a_fSoon ?l_fSoon ?c_fSoon ?k_fSoon ?a_fHow ?l_fHow ?c_fHow ?k_fHow ?a_fBit ?l_fBit ?c_fBit ?k_fBit ?a_fBits ?l_fBits ?c_fBits ?k_fBits ?a_fBoP ?l_fBoP ?c_fBoP ?k_fBoP ?a_fMay ?l_fMay ?c_fMay ?k_fMay ?a_fWhen ?l_fWhen ?c_fWhen ?k_fWhen ?a_fFrom ?l_fFrom ?c_fFrom ?k_fFrom ?a_fFar ?l_fFar ?c_fFar ?k_fFar ?a_fOrd ?l_fOrd ?c_fOrd ?k_fOrd ?a_fPeak ?l_fPeak ?c_fPeak ?k_fPeak ?a_fTotal ?l_fTotal ?c_fTotal ?k_fTotal ?a_fStand ?l_fStand ?c_fStand ?k_fStand ?a_fWith ?l_fWith ?c_fWith ?k_fWith ?a_fRows ?l_fRows ?c_fRows ?k_fRows ?a_fBeg ?l_fBeg ?c_fBeg ?k_fBeg ?a_fCnt ?l_fCnt ?c_fCnt ?k_fCnt ?a_fNext ?l_fNext ?c_fNext ?k_fNext ?a_fNob ?l_fNob ?c_fNob ?k_fNob ?a_rfb ?l_rfb ?c_rfb ?k_rfb ?a_q0 ?l_q0 ?c_q0 ?k_q0 ?a_q1 ?l_q1 ?c_q1 ?k_q1 ?a_q2 ?l_q2 ?c_q2 ?k_q2 ?a_q3 ?l_q3 ?c_q3 ?k_q3 ?a_q4 ?l_q4 ?c_q4 ?k_q4 ?a_q5 ?l_q5 ?c_q5 ?k_q5 ?a_q6 ?l_q6 ?c_q6 ?k_q6 ?a_q7 ?l_q7 ?c_q7 ?k_q7 ?a_q8 ?l_q8 ?c_q8 ?k_q8 ?a_q9 ?l_q9 ?c_q9 ?k_q9 ?a_q10 ?l_q10 ?c_q10 ?k_q10 ?a_q11 ?l_q11 ?c_q11 ?k_q11 ?a_q12 ?l_q12 ?c_q12 ?k_q12 ?a_q13 ?l_q13 ?c_q13 ?k_q13 ?a_q14 ?l_q14 ?c_q14 ?k_q14 ?a_q15 ?l_q15 ?c_q15 ?k_q15 ?a_q16 ?l_q16 ?c_q16 ?k_q16 ?a_q17 ?l_q17 ?c_q17 ?k_q17 ?a_q18 ?l_q18 ?c_q18 ?k_q18 ?a_q19 ?l_q19 ?c_q19 ?k_q19 ?a_q20 ?l_q20 ?c_q20 ?k_q20 ?a_q21 ?l_q21 ?c_q21 ?k_q21 ?a_ac ?l_ac ?c_ac ?k_ac ?a_an ?l_an ?c_an ?k_an ?lcR ?pcR ?kP ?aCalls ?lCalls ?aPlain ?lPlain ?aRows ?lRows
    (case aC => k_is); (case pg => k_is); (case hd => k_is); (case po => k_is); (case sa => k_is); (case mk => k_is)
    (case kc => k_is); (case nB => k_is); (case nL => k_is); (case nH => k_is); (case nC => k_is); (case z0 => k_is)
    (case z1 => k_is); (case z2 => k_is); (case z3 => k_is); (case z4 => k_is); (case z5 => k_is); (case z6 => k_is)
    (case z7 => k_is); (case z8 => k_is); (case k_c2 => k_is); (case k_c6 => k_is); (case k_c11 => k_is); (case k_c22 => k_is)
    (case k_c28 => k_is); (case k_c33 => k_is); (case k_cM => k_is); (case k_cLS => k_is); (case k_cGL => k_is); (case k_cCS => k_is)
    (case k_cGC => k_is); (case k_cSi => k_is); (case k_cR => k_is); (case k_cL => k_is); (case k_cE => k_is); (case k_c0 => k_is)
    (case a_mI => k_is); (case i_mI => k_is); (case l_mI => k_is); (case c_mI => k_is); (case k_mI => k_is); (case a_mCount => k_is)
    (case i_mCount => k_is); (case l_mCount => k_is); (case c_mCount => k_is); (case k_mCount => k_is); (case a_mLoose => k_is); (case i_mLoose => k_is)
    (case l_mLoose => k_is); (case c_mLoose => k_is); (case k_mLoose => k_is); (case a_mOn => k_is); (case i_mOn => k_is); (case l_mOn => k_is)
    (case c_mOn => k_is); (case k_mOn => k_is); (case a_mAnew => k_is); (case i_mAnew => k_is); (case l_mAnew => k_is); (case c_mAnew => k_is)
    (case k_mAnew => k_is); (case a_mHang => k_is); (case i_mHang => k_is); (case l_mHang => k_is); (case c_mHang => k_is); (case k_mHang => k_is)
    (case a_mDrop => k_is); (case i_mDrop => k_is); (case l_mDrop => k_is); (case c_mDrop => k_is); (case k_mDrop => k_is); (case a_mTwin => k_is)
    (case i_mTwin => k_is); (case l_mTwin => k_is); (case c_mTwin => k_is); (case k_mTwin => k_is); (case a_fLeans => k_is); (case l_fLeans => k_is)
    (case c_fLeans => k_is); (case k_fLeans => k_is); (case a_fSoon => k_is); (case l_fSoon => k_is); (case c_fSoon => k_is); (case k_fSoon => k_is)
    (case a_fHow => k_is); (case l_fHow => k_is); (case c_fHow => k_is); (case k_fHow => k_is); (case a_fBit => k_is); (case l_fBit => k_is)
    (case c_fBit => k_is); (case k_fBit => k_is); (case a_fBits => k_is); (case l_fBits => k_is); (case c_fBits => k_is); (case k_fBits => k_is)
    (case a_fBoP => k_is); (case l_fBoP => k_is); (case c_fBoP => k_is); (case k_fBoP => k_is); (case a_fMay => k_is); (case l_fMay => k_is)
    (case c_fMay => k_is); (case k_fMay => k_is); (case a_fWhen => k_is); (case l_fWhen => k_is); (case c_fWhen => k_is); (case k_fWhen => k_is)
    (case a_fFrom => k_is); (case l_fFrom => k_is); (case c_fFrom => k_is); (case k_fFrom => k_is); (case a_fFar => k_is); (case l_fFar => k_is)
    (case c_fFar => k_is); (case k_fFar => k_is); (case a_fOrd => k_is); (case l_fOrd => k_is); (case c_fOrd => k_is); (case k_fOrd => k_is)
    (case a_fPeak => k_is); (case l_fPeak => k_is); (case c_fPeak => k_is); (case k_fPeak => k_is); (case a_fTotal => k_is); (case l_fTotal => k_is)
    (case c_fTotal => k_is); (case k_fTotal => k_is); (case a_fStand => k_is); (case l_fStand => k_is); (case c_fStand => k_is); (case k_fStand => k_is)
    (case a_fWith => k_is); (case l_fWith => k_is); (case c_fWith => k_is); (case k_fWith => k_is); (case a_fRows => k_is); (case l_fRows => k_is)
    (case c_fRows => k_is); (case k_fRows => k_is); (case a_fBeg => k_is); (case l_fBeg => k_is); (case c_fBeg => k_is); (case k_fBeg => k_is)
    (case a_fCnt => k_is); (case l_fCnt => k_is); (case c_fCnt => k_is); (case k_fCnt => k_is); (case a_fNext => k_is); (case l_fNext => k_is)
    (case c_fNext => k_is); (case k_fNext => k_is); (case a_fNob => k_is); (case l_fNob => k_is); (case c_fNob => k_is); (case k_fNob => k_is)
    (case a_rfb => k_is); (case l_rfb => k_is); (case c_rfb => k_is); (case k_rfb => k_is); (case a_q0 => k_is); (case l_q0 => k_is)
    (case c_q0 => k_is); (case k_q0 => k_is); (case a_q1 => k_is); (case l_q1 => k_is); (case c_q1 => k_is); (case k_q1 => k_is)
    (case a_q2 => k_is); (case l_q2 => k_is); (case c_q2 => k_is); (case k_q2 => k_is); (case a_q3 => k_is); (case l_q3 => k_is)
    (case c_q3 => k_is); (case k_q3 => k_is); (case a_q4 => k_is); (case l_q4 => k_is); (case c_q4 => k_is); (case k_q4 => k_is)
    (case a_q5 => k_is); (case l_q5 => k_is); (case c_q5 => k_is); (case k_q5 => k_is); (case a_q6 => k_is); (case l_q6 => k_is)
    (case c_q6 => k_is); (case k_q6 => k_is); (case a_q7 => k_is); (case l_q7 => k_is); (case c_q7 => k_is); (case k_q7 => k_is)
    (case a_q8 => k_is); (case l_q8 => k_is); (case c_q8 => k_is); (case k_q8 => k_is); (case a_q9 => k_is); (case l_q9 => k_is)
    (case c_q9 => k_is); (case k_q9 => k_is); (case a_q10 => k_is); (case l_q10 => k_is); (case c_q10 => k_is); (case k_q10 => k_is)
    (case a_q11 => k_is); (case l_q11 => k_is); (case c_q11 => k_is); (case k_q11 => k_is); (case a_q12 => k_is); (case l_q12 => k_is)
    (case c_q12 => k_is); (case k_q12 => k_is); (case a_q13 => k_is); (case l_q13 => k_is); (case c_q13 => k_is); (case k_q13 => k_is)
    (case a_q14 => k_is); (case l_q14 => k_is); (case c_q14 => k_is); (case k_q14 => k_is); (case a_q15 => k_is); (case l_q15 => k_is)
    (case c_q15 => k_is); (case k_q15 => k_is); (case a_q16 => k_is); (case l_q16 => k_is); (case c_q16 => k_is); (case k_q16 => k_is)
    (case a_q17 => k_is); (case l_q17 => k_is); (case c_q17 => k_is); (case k_q17 => k_is); (case a_q18 => k_is); (case l_q18 => k_is)
    (case c_q18 => k_is); (case k_q18 => k_is); (case a_q19 => k_is); (case l_q19 => k_is); (case c_q19 => k_is); (case k_q19 => k_is)
    (case a_q20 => k_is); (case l_q20 => k_is); (case c_q20 => k_is); (case k_q20 => k_is); (case a_q21 => k_is); (case l_q21 => k_is)
    (case c_q21 => k_is); (case k_q21 => k_is); (case a_ac => k_is); (case l_ac => k_is); (case c_ac => k_is); (case k_ac => k_is)
    (case a_an => k_is); (case l_an => k_is); (case c_an => k_is); (case k_an => k_is); (case lcR => k_is); (case pcR => rfl)
    (case kP => kernel_rfl); (case aCalls => k_is); (case lCalls => k_is); (case aPlain => k_is); (case lPlain => k_is); (case aRows => k_is)
    (case lRows => k_is)

end
