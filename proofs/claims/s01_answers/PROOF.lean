import PyProof.Rows.All
import Wide.All
import OpenK.AllK
import Wide.FinOn
import PyProof.EqAt
import PyProof.EqKinds
import PyProof.TupleCall
import KE.BitLaws
import KE.OsGo
import KE.OsNats
import Open.SpecLaws
import PySem.Challenge.RW_cellflow_s01_answers
set_option Elab.async false
set_option linter.all false
set_option maxRecDepth 100000

namespace L2
open PySem PySem.Spec PyProof.Rows
noncomputable abbrev Key := Sum Int Str
noncomputable def keyIs : Key → Value → Bool
  | .inl k, v => Value.isInt k v
  | .inr x, v => Value.isStrOf x v
noncomputable def keyH (w : World) : Key → Int
  | .inl k => hashInt k
  | .inr x => hashStr w x
theorem keyIs_shape : ∀ {k : Key} {v : Value}, keyIs k v = true → (∃ i t, k = Sum.inl i ∧ v = Value.int i t) ∨ (∃ x t, k = Sum.inr x ∧ v = Value.str x t)
  | .inl i, v, h => by
    obtain ⟨t, e⟩ := Value.isInt_shape (k := i) (v := v) h
    exact .inl ⟨i, t, rfl, e⟩
  | .inr x, v, h => by
    obtain ⟨t, e⟩ := Value.isStrOf_shape (x := x) (v := v) h
    exact .inr ⟨x, t, rfl, e⟩
theorem keyIs_int (i : Int) (t : Tok) : keyIs (.inl i) (.int i t) = true := by simp [keyIs, Value.isInt]
theorem keyIs_str (x : Str) (t : Tok) : keyIs (.inr x) (.str x t) = true := by simp [keyIs, Value.isStrOf]
theorem key_ll (a b : Int) : decide ((Sum.inl a : Key) = Sum.inl b) = (a == b) := by
  by_cases e : a = b
  · subst e; simp
  · have h : ¬ (Sum.inl a : Key) = Sum.inl b := fun q => e (Sum.inl.inj q)
    rw [decide_eq_false h]
    exact (beq_eq_false_iff_ne.mpr e).symm
theorem key_rr (a b : Str) : decide ((Sum.inr a : Key) = Sum.inr b) = decide (a = b) := by
  by_cases e : a = b
  · subst e; simp
  · have h : ¬ (Sum.inr a : Key) = Sum.inr b := fun q => e (Sum.inr.inj q)
    rw [decide_eq_false h, decide_eq_false e]
theorem key_lr (a : Int) (b : Str) : decide ((Sum.inl a : Key) = Sum.inr b) = false := decide_eq_false (fun q => nomatch q)
theorem key_rl (a : Str) (b : Int) : decide ((Sum.inr a : Key) = Sum.inl b) = false := decide_eq_false (fun q => nomatch q)
noncomputable def mixKind (prog : Program) (w : World) : PySem.KeyKind prog w Key where
  is := keyIs
  hash := keyH w
  inj := fun v a b ha hb => by
    rcases keyIs_shape ha with ⟨i, t, rfl, rfl⟩ | ⟨x, t, rfl, rfl⟩
    · rcases keyIs_shape hb with ⟨j, u, rfl, e⟩ | ⟨y, u, rfl, e⟩
      · injection e with e1 _; rw [e1]
      · exact nomatch e
    · rcases keyIs_shape hb with ⟨j, u, rfl, e⟩ | ⟨y, u, rfl, e⟩
      · exact nomatch e
      · injection e with e1 _; rw [e1]
  byValue := fun k v h => by
    rcases keyIs_shape h with ⟨i, t, rfl, rfl⟩ | ⟨x, t, rfl, rfl⟩ <;> rfl
  pyHash := fun hv h => by
    rcases keyIs_shape hv with ⟨i, t, rfl, rfl⟩ | ⟨x, t, rfl, rfl⟩
    · exact wpAny_pyHash_int h
    · exact wpAny_pyHash_str h
  eqBool := fun hu hv h => by
    rcases keyIs_shape hu with ⟨i, t, rfl, rfl⟩ | ⟨x, t, rfl, rfl⟩
    · rcases keyIs_shape hv with ⟨j, u, rfl, rfl⟩ | ⟨y, u, rfl, rfl⟩
      · rw [key_ll] at h; exact wpAny_eqBool_int h
      · rw [key_lr] at h; exact SeqAt.EqAt.int_str i t y u _ _ _ _ h
    · rcases keyIs_shape hv with ⟨j, u, rfl, rfl⟩ | ⟨y, u, rfl, rfl⟩
      · rw [key_rl] at h; exact SeqAt.EqAt.str_int x t j u _ _ _ _ h
      · rw [key_rr] at h; exact wpAny_eqBool_str h
  «strs» := fun k x t v h => by
    rcases keyIs_shape h with ⟨i, u, rfl, e⟩ | ⟨y, u, rfl, e⟩
    · exact nomatch e
    · injection e with e1 _
      subst e1
      cases v <;> rfl
theorem mixKind_int (prog : Program) (w : World) (i : Int) (t : Tok) : (mixKind prog w).is (.inl i) (.int i t) = true := keyIs_int i t
theorem mixKind_str (prog : Program) (w : World) (x : Str) (t : Tok) : (mixKind prog w).is (.inr x) (.str x t) = true := keyIs_str x t
end L2
namespace L2
open PySem PySem.Spec PyProof.Rows
inductive V where
  | non | bl (b : Bool) | int (i : Int) | str (x : Str) | byt (b : Array UInt8) | flt (b : UInt64) | ref (a : Addr) | ty (n : String)
  deriving DecidableEq
noncomputable def RelV : V → Value → Prop
  | .non, u => u = Value.none
  | .bl b, u => u = Value.bool b
  | .int i, u => ∃ t, u = Value.int i t
  | .str x, u => ∃ t, u = Value.str x t
  | .byt b, u => ∃ t, u = Value.bytes b t
  | .flt b, u => ∃ t, u = Value.float b t
  | .ref a, u => u = Value.ref a
  | .ty n, u => u = Value.type n
noncomputable abbrev Vals : List V → List Value → Prop := Paired RelV
theorem Vals.length {xs : List V} {us : List Value} (r : Vals xs us) : xs.length = us.length := Paired.length r
theorem Vals.get : ∀ {xs : List V} {us : List Value} {i : Nat} {x : V}, Vals xs us → xs[i]? = some x → ∃ u, us[i]? = some u ∧ RelV x u
  | _, _, _, _, .nil, e => by simp at e
  | _, _, 0, _, .cons r _, e => by simp at e; subst e; exact ⟨_, rfl, r⟩
  | _, _, i + 1, x, .cons _ t, e => by
    obtain ⟨u, h1, h2⟩ := Vals.get (i := i) (x := x) t (by simpa using e)
    exact ⟨u, by simpa using h1, h2⟩
theorem Vals.set {x : V} {u : Value} (r : RelV x u) : ∀ {xs : List V} {us : List Value} (i : Nat), Vals xs us → Vals (xs.set i x) (us.set i u)
  | _, _, _, .nil => .nil
  | _, _, 0, .cons _ t => .cons r t
  | _, _, i + 1, .cons q t => .cons q (Vals.set r i t)
theorem Vals.append : ∀ {xs ys : List V} {us ws : List Value}, Vals xs us → Vals ys ws → Vals (xs ++ ys) (us ++ ws)
  | _, _, _, _, .nil, s => s
  | _, _, _, _, .cons r t, s => .cons r (Vals.append t s)
theorem Vals.take : ∀ {xs : List V} {us : List Value} (n : Nat), Vals xs us → Vals (xs.take n) (us.take n)
  | _, _, 0, _ => .nil
  | _, _, _ + 1, .nil => .nil
  | _, _, n + 1, .cons r t => .cons r (Vals.take n t)
theorem Vals.drop : ∀ {xs : List V} {us : List Value} (n : Nat), Vals xs us → Vals (xs.drop n) (us.drop n)
  | _, _, 0, r => r
  | _, _, _ + 1, .nil => .nil
  | _, _, n + 1, .cons _ t => Vals.drop n t
noncomputable def RelO : Option V → Option Value → Prop
  | some v, some u => RelV v u
  | none, none => True
  | _, _ => False
noncomputable def KV {κ : Type} : List (κ × V) → List (κ × Value) → Prop := Paired fun (p : κ × V) (q : κ × Value) => p.1 = q.1 ∧ RelV p.2 q.2
noncomputable def kV : Key → V
  | .inl i => .int i
  | .inr x => .str x
inductive HO where
  /-- a list -/
  | lst (xs : List V)
  /-- a tuple (never changes) -/
  | tup (xs : List V)
  /-- a dict whose keys are ints and texts; one whose keys are tuples of ints and texts (the empty one is both) -/
  | dK (kvs : List (Key × V)) | dT (kvs : List (List Key × V))
  /-- a set of ints: its members, its size -/
  | set (S : Int → Bool) (n : Nat)
  /-- an instance of the class at C, its dict at dx, its attributes -/
  | ins (C dx : Addr) (fs : List (Str × V))
  /-- the dict of the instance at x -/
  | own (x : Addr)
  /-- the dict of an exception -/
  | xd (fs : List (Str × V))
  /-- a bound method, f of x -/
  | met (f x : Addr)
  /-- a range object lo, lo + 1, .. below hi -/
  | rng (lo hi : Int)
  /-- a thing that is known to the object (the script; a dict while a loop walks it): read, never written while it is so -/
  | frz (o : Obj) (u : HO)
  /-- a code object's table -/
  | tbl (ps : Array Value)
  /-- any other thing, by what is true of its one object (a def of one's own: SetO a S n := HO.ext fun h => ..) -/
  | ext (φ : Heap → Prop)
noncomputable abbrev Hp := Addr → Option HO
noncomputable def upd (H : Hp) (a : Addr) (o : HO) : Hp := fun b => if b = a then some o else H b
theorem upd_same {H : Hp} {a : Addr} {o : HO} : upd H a o a = some o := by unfold upd; rw [if_pos rfl]
theorem upd_ne {H : Hp} {a b : Addr} {o : HO} (h : b ≠ a) : upd H a o b = H b := by unfold upd; rw [if_neg h]
theorem upd_upd {H : Hp} {a : Addr} {o u : HO} : upd (upd H a o) a u = upd H a u := by
  funext b; unfold upd; split <;> rfl
theorem ne_of {H : Hp} {a b : Addr} {o u : HO} (h : H a = some o) (h' : H b = some u) (d : o ≠ u) : a ≠ b := by
  intro e; subst e; rw [h] at h'; exact d (Option.some.inj h')
theorem ne_of_none {H : Hp} {a b : Addr} {o : HO} (h : H a = some o) (h' : H b = none) : a ≠ b := by
  intro e; subst e; rw [h] at h'; cases h'
section
variable (P : Program) (w : World)
noncomputable def ObjOk (H : Hp) (h : Heap) (a : Addr) : HO → Prop
  | .lst xs => xs.length ≤ sizeLine ∧ ∃ (its : List Value) (n : Nat), Vals xs its ∧ h.get? a = some { cls := .type "list", data := .seq its.toArray n }
  | .tup xs => xs.length ≤ sizeLine ∧ ∃ its : List Value, Vals xs its ∧ IsTup h a its.toArray
  | .dK kvs => kvs.length ≤ sizeLine ∧ (a == sysModules) = false ∧ ∃ vs, KV kvs vs ∧ h.DictOf (mixKind P w) a vs
  | .dT kvs => kvs.length ≤ sizeLine ∧ (a == sysModules) = false ∧ ∃ xs : List (List Key × Addr × Value),
      Paired (fun (p : List Key × V) (q : List Key × Addr × Value) => p.1 = q.1 ∧ H q.2.1 = some (.tup (p.1.map kV)) ∧ RelV p.2 q.2.2) kvs xs ∧
      ∃ o es ep, h.get? a = some o ∧ o.ExactDict ∧ o.data = .dict es ep ∧ es.toList = xs.map (entryOfKey (tupleKind (mixKind P w))) ∧ (xs.map (·.1)).Nodup
  | .set S n => h.SetOf (intKind P w) a S n
  | .ins C dx fs => H dx = some (.own a) ∧ fs.length ≤ 1000 ∧ dx ≠ a ∧ h.get? a = some (PySem.W.instObj C dx) ∧
      ∃ mA, h.Ns1 dx mA ∧ (∀ f, RelO (fs.lookup f) (mA f)) ∧ PySem.Within mA (fs.map (·.1))
  | .own _ => ∃ o, h.get? a = some o
  | .xd fs => ∃ mA, h.Ns1 a mA ∧ ∀ f, RelO (fs.lookup f) (mA f)
  | .rng lo hi => ∃ t u v, h.get? a = some { cls := .type "range", data := .fields #[.int lo t, .int hi u, .int 1 v] }
  | .frz o u => h.get? a = some o ∧ ObjOk H h a u
  | .tbl ps => h.get? a = some { cls := .none, data := .fields ps }
  | .met f x => h.get? a = some (PySem.W.methodObj (.ref f) (.ref x))
  | .ext φ => φ h ∧ (∃ o, h.get? a = some o) ∧ ∀ h1 h2 : Heap, φ h1 → (∀ o, h1.get? a = some o → h2.get? a = some o) → φ h2
noncomputable def HOk (H : Hp) (h : Heap) : Prop := ∀ a o, H a = some o → ObjOk P w H h a o
end
section
variable {P : Program} {w : World} {H H' : Hp} {h h' : Heap} {a : Addr} {o : HO}
theorem ObjOk.lt (x : ObjOk P w H h a o) : a < h.objs.size := by
  cases o with
  | lst xs => obtain ⟨_, _, _, _, e⟩ := x; exact Heap.lt_size e
  | tup xs => obtain ⟨_, _, _, p⟩ := x; exact p.lt
  | dK kvs => obtain ⟨_, _, _, _, o, _, _, e, _⟩ := x; exact Heap.lt_size e
  | dT kvs => obtain ⟨_, _, _, _, o, _, _, e, _⟩ := x; exact Heap.lt_size e
  | set S n => obtain ⟨o, _, _, _, e, _⟩ := x; exact Heap.lt_size e
  | ins C dx fs => obtain ⟨_, _, _, e, _⟩ := x; exact Heap.lt_size e
  | own y => obtain ⟨_, e⟩ := x; exact Heap.lt_size e
  | xd fs => obtain ⟨_, ⟨_, _, _, e, _⟩, _⟩ := x; exact Heap.lt_size e
  | rng lo hi => obtain ⟨_, _, _, e⟩ := x; exact Heap.lt_size e
  | frz ob u => obtain ⟨e, _⟩ := x; exact Heap.lt_size e
  | tbl ps => exact Heap.lt_size (show h.get? a = some _ from x)
  | met f y => exact Heap.lt_size (show h.get? a = some _ from x)
  | ext φ => obtain ⟨_, ⟨_, e⟩, _⟩ := x; exact Heap.lt_size e
theorem Paired.mapP {α β : Type} {F G : α → β → Prop} : ∀ {l₁ : List α} {l₂ : List β}, Paired F l₁ l₂ → (∀ a b, F a b → G a b) → Paired G l₁ l₂
  | _, _, .nil, _ => .nil
  | _, _, .cons r t, f => .cons (f _ _ r) (Paired.mapP t f)
theorem ObjOk.stay (x : ObjOk P w H h a o) (k : ∀ b u, (b = a ∨ H b = some (.own a)) → h.get? b = some u → h'.get? b = some u)
    (ho : ∀ b, H b = some (.own a) → H' b = some (.own a)) (ht : ∀ b xs, H b = some (.tup xs) → H' b = some (.tup xs)) : ObjOk P w H' h' a o := by
  induction o with
  | lst xs => obtain ⟨z, its, n, r, e⟩ := x; exact ⟨z, its, n, r, k _ _ (.inl rfl) e⟩
  | tup xs => obtain ⟨z, its, r, ob, e, c⟩ := x; exact ⟨z, its, r, ob, k _ _ (.inl rfl) e, c⟩
  | dK kvs => obtain ⟨z, y, vs, r, ob, es, ep, e, c⟩ := x; exact ⟨z, y, vs, r, ob, es, ep, k _ _ (.inl rfl) e, c⟩
  | dT kvs =>
    obtain ⟨z, y, xs, r, ob, es, ep, e, c⟩ := x
    exact ⟨z, y, xs, Paired.mapP r fun p q z => ⟨z.1, ht _ _ z.2.1, z.2.2⟩, ob, es, ep, k _ _ (.inl rfl) e, c⟩
  | set S n => obtain ⟨ob, es, ep, t, e, c⟩ := x; exact ⟨ob, es, ep, t, k _ _ (.inl rfl) e, c⟩
  | ins C dx fs =>
    obtain ⟨d, z, ne, e, mA, ⟨od, es, ep, e2, c⟩, r⟩ := x
    exact ⟨ho _ d, z, ne, k _ _ (.inl rfl) e, mA, ⟨od, es, ep, k _ _ (.inr d) e2, c⟩, r⟩
  | own y => obtain ⟨ob, e⟩ := x; exact ⟨ob, k _ _ (.inl rfl) e⟩
  | xd fs => obtain ⟨mA, ⟨od, es, ep, e, c⟩, r⟩ := x; exact ⟨mA, ⟨od, es, ep, k _ _ (.inl rfl) e, c⟩, r⟩
  | rng lo hi => obtain ⟨t, u, v, e⟩ := x; exact ⟨t, u, v, k _ _ (.inl rfl) e⟩
  | frz ob u ih => obtain ⟨e, q⟩ := x; exact ⟨k _ _ (.inl rfl) e, ih q⟩
  | tbl ps =>
    have e : h.get? a = some { cls := .none, data := .fields ps } := x
    show h'.get? a = some { cls := .none, data := .fields ps }
    exact k a _ (.inl rfl) e
  | met f y =>
    have e : h.get? a = some (PySem.W.methodObj (.ref f) (.ref y)) := x
    show h'.get? a = some (PySem.W.methodObj (.ref f) (.ref y))
    exact k a _ (.inl rfl) e
  | ext φ => obtain ⟨p, ⟨o, e⟩, st⟩ := x; exact ⟨st _ _ p fun o q => k _ _ (.inl rfl) q, ⟨o, k _ _ (.inl rfl) e⟩, st⟩
theorem HOk.lt (x : HOk P w H h) (e : H a = some o) : a < h.objs.size := (x a o e).lt
theorem HOk.fresh (x : HOk P w H h) (e : h.objs.size ≤ a) : H a = none := by
  cases q : H a with
  | none => rfl
  | some u => exact absurd (Nat.lt_of_lt_of_le (x.lt q) e) (Nat.lt_irrefl _)
theorem HOk.kept (x : HOk P w H h) (k : ∀ b u, h.get? b = some u → h'.get? b = some u) : HOk P w H h' := fun a o e =>
  (x a o e).stay (fun b u _ q => k b u q) (fun _ q => q) fun _ _ q => q
theorem HOk.laid (x : HOk P w H h) (k : ∀ b u, h.get? b = some u → h'.get? b = some u) (hp : h.objs.size ≤ a) (new : ObjOk P w (upd H a o) h' a o) : HOk P w (upd H a o) h' := fun b u e => by
  have hn := x.fresh hp
  by_cases hb : b = a
  · subst hb; rw [upd_same] at e; cases e; exact new
  · rw [upd_ne hb] at e
    exact (x b u e).stay (fun c v _ q => k c v q) (fun c q => by rw [upd_ne (ne_of_none q hn)]; exact q) fun c xs q => by rw [upd_ne (ne_of_none q hn)]; exact q
end
noncomputable def Rd (H : Hp) (a : Addr) (u : HO) : Prop := H a = some u ∨ ∃ o, H a = some (.frz o u)
theorem Rd.ok {P : Program} {w : World} {H : Hp} {h : Heap} {a : Addr} {u : HO} (r : Rd H a u) (x : HOk P w H h) : ObjOk P w H h a u := by
  rcases r with r | ⟨o, r⟩
  · exact x a u r
  · obtain ⟨_, q⟩ := x a _ r
    exact q
noncomputable def Mut : Option HO → Prop
  | some (.lst _) => True
  | some (.dK _) => True
  | some (.dT _) => True
  | some (.set _ _) => True
  | some (.ins _ _ _) => True
  | some (.ext _) => True
  | _ => False
section
variable {P : Program} {w : World} {H : Hp} {h h' : Heap} {x e : Addr} {o' : HO}
theorem HOk.write (ok : HOk P w H h) (mu : Mut (H x)) (he : e = x ∨ H e = some (.own x)) (k : ∀ b u, b ≠ e → h.get? b = some u → h'.get? b = some u) (heo : ∃ u, h'.get? e = some u)
    (new : ObjOk P w (upd H x o') h' x o') : HOk P w (upd H x o') h' := fun b u q => by
  have nown : ∀ c y, H c = some (.own y) → c ≠ x := fun c y r z => by subst z; rw [r] at mu; exact mu
  have ntup : ∀ c xs, H c = some (.tup xs) → c ≠ x := fun c xs r z => by subst z; rw [r] at mu; exact mu
  by_cases hb : b = x
  · subst hb; rw [upd_same] at q; cases q; exact new
  · rw [upd_ne hb] at q
    by_cases hbe : b = e
    · have q' : H b = some (.own x) := by
        rcases he with z | z
        · exact absurd (hbe.trans z) hb
        · rw [hbe]; exact z
      rw [q] at q'; cases q'
      obtain ⟨v, hv⟩ := heo
      exact ⟨v, by rw [hbe]; exact hv⟩
    · refine (ok b u q).stay (fun c v hc r => k c v ?_ r) (fun c r => by rw [upd_ne (nown c b r)]; exact r) fun c xs r => by rw [upd_ne (ntup c xs r)]; exact r
      rcases hc with rfl | hc
      · exact hbe
      · rintro rfl
        rcases he with z | z
        · exact nown c b hc z
        · rw [hc] at z; cases z; exact hb rfl
end
structure Un (fs ex : List Addr) (H H' : Hp) (h h' : Heap) : Prop where
  keep : ∀ b o, h.get? b = some o → H b = none → b ∉ fs → b ∉ ex → h'.get? b = some o
  slot : ∀ b o, h.get? b = some o → H b = none → b ∈ fs → b ∉ ex → ∃ sl, h'.get? b = some { o with slots := sl }
  free : ∀ b o, h.get? b = some o → H b = none → b ∉ ex → H' b = none
  there : ∀ b o, h.get? b = some o → b ∉ ex → ∃ o', h'.get? b = some o'
  tups : ∀ b xs, H b = some (.tup xs) → H' b = some (.tup xs)
  frzs : ∀ b o u, H b = some (.frz o u) → H' b = some (.frz o u)
  tbls : ∀ b ps, H b = some (.tbl ps) → ∃ more, H' b = some (.tbl (ps ++ more))
section
variable {fs fs' ex ex' : List Addr} {H H1 H2 : Hp} {h h1 h2 h' : Heap} {a x e : Addr} {o : HO}
theorem Un.any (u : Un fs ex H H1 h h1) {b : Addr} {ob : Obj} (q : h.get? b = some ob) (n : H b = none) (hx : b ∉ ex) : ∃ sl, h1.get? b = some { ob with slots := sl } := by
  by_cases hb : b ∈ fs
  · exact u.slot b ob q n hb hx
  · exact ⟨ob.slots, u.keep b ob q n hb hx⟩
theorem Un.trans (a : Un fs ex H H1 h h1) (b : Un fs ex H1 H2 h1 h2) : Un fs ex H H2 h h2 where
  keep := fun c ob q n hc hx => b.keep c ob (a.keep c ob q n hc hx) (a.free c ob q n hx) hc hx
  slot := fun c ob q n hc hx => by
    obtain ⟨sl, e1⟩ := a.slot c ob q n hc hx
    obtain ⟨sl', e2⟩ := b.slot c _ e1 (a.free c ob q n hx) hc hx
    exact ⟨sl', e2⟩
  free := fun c ob q n hx => by
    obtain ⟨o', e1⟩ := a.there c ob q hx
    exact b.free c o' e1 (a.free c ob q n hx) hx
  there := fun c ob q hx => by
    obtain ⟨o', e1⟩ := a.there c ob q hx
    exact b.there c o' e1 hx
  tups := fun c xs q => b.tups c xs (a.tups c xs q)
  frzs := fun c ob xs q => b.frzs c ob xs (a.frzs c ob xs q)
  tbls := fun c ps q => by
    obtain ⟨m1, e1⟩ := a.tbls c ps q
    obtain ⟨m2, e2⟩ := b.tbls c _ e1
    exact ⟨m1 ++ m2, by rw [e2, Array.append_assoc]⟩
theorem Un.kept (k : ∀ b u, h.get? b = some u → h'.get? b = some u) : Un fs ex H H h h' :=
  ⟨fun b ob q _ _ _ => k b ob q, fun b ob q _ _ _ => ⟨ob.slots, k b ob q⟩, fun _ _ _ n _ => n, fun b ob q _ => ⟨ob, k b ob q⟩, fun _ _ q => q, fun _ _ _ q => q, fun _ ps q => ⟨#[], by rw [q]; simp⟩⟩
theorem Un.refl : Un fs ex H H h h := Un.kept fun _ _ q => q
theorem Un.laid (k : ∀ b u, h.get? b = some u → h'.get? b = some u) (hp : h.objs.size ≤ a) (hn : H a = none) : Un fs ex H (upd H a o) h h' where
  keep := fun b u q _ _ _ => k b u q
  slot := fun b u q _ _ _ => ⟨u.slots, k b u q⟩
  free := fun b u q n _ => by rw [upd_ne (Nat.ne_of_lt (Nat.lt_of_lt_of_le (Heap.lt_size q) hp))]; exact n
  there := fun b u q _ => ⟨u, k b u q⟩
  tups := fun b xs q => by rw [upd_ne (ne_of_none q hn)]; exact q
  frzs := fun b u xs q => by rw [upd_ne (ne_of_none q hn)]; exact q
  tbls := fun b ps q => ⟨#[], by rw [upd_ne (ne_of_none q hn), q]; simp⟩
theorem Un.write (mu : Mut (H x)) (he : e = x ∨ H e = some (.own x)) (k : ∀ b u, b ≠ e → h.get? b = some u → h'.get? b = some u) (heo : ∃ u, h'.get? e = some u) : Un fs ex H (upd H x o) h h' := by
  have hx : ∀ b, H b = none → b ≠ x := fun b n z => by subst z; rw [n] at mu; exact mu
  have hb : ∀ b, H b = none → b ≠ e := fun b n z => by
    subst z
    rcases he with r | r
    · exact hx b n r
    · rw [n] at r; cases r
  have hm : ∀ b u, H b = some u → ¬ Mut (some u) → b ≠ x := fun b u q nm z => by subst z; rw [q] at mu; exact nm mu
  refine ⟨fun b u q n _ _ => k b u (hb b n) q, fun b u q n _ _ => ⟨u.slots, k b u (hb b n) q⟩, fun b u q n _ => by rw [upd_ne (hx b n)]; exact n, fun b u q _ => ?_,
    fun b xs q => by rw [upd_ne (hm b _ q fun z => z)]; exact q, fun b u xs q => by rw [upd_ne (hm b _ q fun z => z)]; exact q, fun b ps q => ⟨#[], by rw [upd_ne (hm b _ q fun z => z), q]; simp⟩⟩
  by_cases hbe : b = e
  · subst hbe; exact heo
  · exact ⟨u, k b u hbe q⟩
theorem Un.mono (u : Un fs ex H H1 h h1) (hs : ∀ b ∈ fs, b ∈ fs') (hx : ∀ b ∈ ex, b ∈ ex') : Un fs' ex' H H1 h h1 :=
  ⟨fun b ob q n hb he => u.keep b ob q n (fun z => hb (hs b z)) fun z => he (hx b z), fun _ _ q n _ he => u.any q n fun z => he (hx _ z), fun b ob q n he => u.free b ob q n fun z => he (hx b z), fun b ob q he => u.there b ob q fun z => he (hx b z), u.tups, u.frzs, u.tbls⟩
end
noncomputable def trk (h : Heap) (H : Hp) : List Addr := (List.range h.objs.size).filter fun a => (H a).isSome
noncomputable def hidT (h : Heap) (H : Hp) : Heap := PySem.W.hideAll h (trk h H)
theorem hidT_size (h : Heap) (H : Hp) : (hidT h H).objs.size = h.objs.size := PySem.W.hideAll_size _ _
theorem hidT_get {h : Heap} {H : Hp} {b : Addr} {o : Obj} (e : h.get? b = some o) (n : H b = none) : (hidT h H).get? b = some o :=
  PySem.W.hideAll_get _ e fun hm => by
    have q : (H b).isSome = true := (List.mem_filter.mp hm).2
    rw [n] at q; simp at q
theorem of_hidT {h : Heap} {H : Hp} {b : Addr} {o : Obj} (e : (hidT h H).get? b = some o) : h.get? b = some o ∧ H b = none := by
  have e' : h.get? b = some o := PySem.W.of_hideAll (trk h H) e
  refine ⟨e', ?_⟩
  cases q : H b with
  | none => rfl
  | some x =>
    have hm : b ∈ trk h H := List.mem_filter.mpr ⟨List.mem_range.mpr (Heap.lt_size e'), by simp [q]⟩
    have z : (hidT h H).get? b = none := PySem.W.hideAll_none (trk h H) hm
    rw [z] at e; cases e
end L2
namespace L2
open PySem PySem.Spec PyProof.Rows
structure Mod (K : PySem.W.Frag) (mg : Str → Option Value) (base : Heap) : Prop where
  kin : K.In base
  glob : base.Ns mainGlobals mg
  blt : ∃ mb, base.Ns builtinsNs mb ∧ ∀ x : Str, x ≠ "__name__" → mb x = bootBuiltins x
  nolimit : base.NoLimit
structure Cx where
  prog : Program
  w : World
  K : PySem.W.Frag
  mg : Str → Option Value
  base : Heap
  A : Around
  N : List Str
  s_0 : Shared
  H_0 : Hp
  env : Env
  outer : List Env
  stack : List Env
  ex : List Addr
  fn : Str → Bool
  calm : Bool
  pn : List (Addr × Obj)
  xe : Value → Shared → Prop
noncomputable def frs (l : List Env) : List Addr := l.filterMap (·.frame)
noncomputable abbrev Cx.fs (X : Cx) : List Addr := frs X.outer
noncomputable def Vis (sc : Scope) (x : Str) : Prop := sc.names.lookup x = some .local ∨ sc.names.lookup x = some .cell ∨ sc.names.lookup x = some .free
noncomputable def Loc (sc : Scope) (x : Str) : Prop := sc.names.lookup x = some .local ∨ sc.names.lookup x = some .cell
noncomputable def Look (env : Env) (h : Heap) (m : Str → Option Value) (x : Str) (u : Value) : Prop :=
  (env.kindOf x = some .local ∧ m x = some u) ∨ ((env.kindOf x = some .cell ∨ env.kindOf x = some .free) ∧ ∃ c, env.cells.lookup x = some c ∧ h.IsCell c (some u))
structure Cx.Ok (X : Cx) : Prop where
  mod : Mod X.K X.mg X.base
  kind : X.env.scope.kind = .function
  glob : X.env.globals = mainGlobals
  blt : X.env.builtins = builtinsNs
  above : X.s_0.heap.objs.size ≤ X.env.locals
  inj : ∀ x y c, X.env.cells.lookup x = some c → X.env.cells.lookup y = some c → x = y
  has : ∀ x, (X.env.kindOf x = some .cell ∨ X.env.kindOf x = some .free) → ∃ c, X.env.cells.lookup x = some c
  cab : ∀ x c, X.fn x = true → X.env.cells.lookup x = some c → X.s_0.heap.objs.size ≤ c
  hd : X.calm = true → X.A.handled = none
  frames : X.A.frames = some X.stack
  stk : X.stack = X.outer ∨ (X.stack = X.env :: X.outer ∧ X.env.frame = some X.env.locals)
  exf : ∀ b ∈ X.ex, b ≠ X.env.locals ∧ ∀ x c, X.env.cells.lookup x = some c → c ≠ b
  bs : ∀ b o, X.base.get? b = some o → X.s_0.heap.get? b = some o ∧ X.H_0 b = none
  bsz : X.base.objs.size ≤ X.s_0.heap.objs.size
  noex : ∀ b o, X.base.get? b = some o → b ∉ X.ex
  exfs : ∀ b ∈ X.ex, b ∉ X.fs
  funs : X.s_0.heap.FunFrames X.base X.outer
  frf : ∀ b ∈ X.fs, X.H_0 b = none
structure Inv (X : Cx) (pins : List (Addr × Obj)) (σ : List (Option V)) (H : Hp) (s : Shared) : Prop where
  ok : X.Ok
  os : s.os = X.s_0.os
  bare : AllBare s.gens
  base : Un X.fs X.ex X.H_0 H X.s_0.heap s.heap
  loc : ∃ m, s.heap.Ns X.env.locals m ∧ ∀ (i : Nat) (x : Str) (v : V), X.N[i]? = some x → σ[i]? = some (some v) → Vis X.env.scope x → ∃ u, RelV v u ∧ Look X.env s.heap m x u
  cell : ∀ x c, X.env.cells.lookup x = some c → ∃ v, s.heap.IsCell c v
  free : H X.env.locals = none
  freeC : ∀ x c, X.env.cells.lookup x = some c → H c = none
  pin : ∀ p ∈ X.pn ++ pins, s.heap.get? p.1 = some p.2 ∧ H p.1 = none ∧ p.1 ≠ X.env.locals ∧ p.1 ∉ X.fs ∧ ∀ v, p.2.data ≠ .cell v
  hok : HOk X.prog X.w H s.heap
  len : σ.length = X.N.length
section
variable {X : Cx} {pins : List (Addr × Obj)} {σ : List (Option V)} {H H' : Hp} {s : Shared} {h' : Heap}
theorem Cx.Ok.nofr (ok : X.Ok) {b : Addr} {o : Obj} (e : X.base.get? b = some o) : b ∉ X.fs := fun hb => by
  have := (ok.funs.mem hb).1
  rw [e] at this; cases this
theorem Inv.bs (I : Inv X pins σ H s) : ∀ b o, X.base.get? b = some o → s.heap.get? b = some o ∧ H b = none := fun b o e =>
  ⟨I.base.keep b o (I.ok.bs b o e).1 (I.ok.bs b o e).2 (I.ok.nofr e) (I.ok.noex b o e), I.base.free b o (I.ok.bs b o e).1 (I.ok.bs b o e).2 (I.ok.noex b o e)⟩
theorem Inv.bk (I : Inv X pins σ H s) : ∀ b o, X.base.get? b = some o → s.heap.get? b = some o := fun b o e => (I.bs b o e).1
theorem Inv.mod (I : Inv X pins σ H s) : Mod X.K X.mg X.base := I.ok.mod
theorem Inv.kIn (I : Inv X pins σ H s) : X.K.In s.heap := I.ok.mod.kin.keeps I.bk
theorem Inv.lt (I : Inv X pins σ H s) : X.env.locals < s.heap.objs.size := let ⟨_, hn, _⟩ := I.loc; hn.lt
theorem Inv.sz (I : Inv X pins σ H s) : X.s_0.heap.objs.size ≤ s.heap.objs.size := Nat.le_trans I.ok.above (Nat.le_of_lt I.lt)
theorem Inv.nofs (I : Inv X pins σ H s) {a : Addr} (h : s.heap.objs.size ≤ a) : a ∉ X.fs := fun hb => by
  obtain ⟨_, o, ho, _⟩ := I.ok.funs.mem hb
  exact absurd (Nat.lt_of_lt_of_le (Heap.lt_size ho) (Nat.le_trans I.sz h)) (Nat.lt_irrefl _)
theorem Inv.cne (I : Inv X pins σ H s) : ∀ x c, X.env.cells.lookup x = some c → c ≠ X.env.locals := fun x c e z => by
  obtain ⟨v, o, ho, hd⟩ := I.cell x c e
  obtain ⟨m, ⟨o', es, ep, ho', hd', _⟩, _⟩ := I.loc
  rw [z, ho'] at ho; cases ho; rw [hd'] at hd; cases hd
theorem Inv.funs (I : Inv X pins σ H s) : s.heap.FunFrames X.base X.outer := by
  have all : ∀ (l : List Env), (∀ b ∈ frs l, b ∈ X.fs) → X.s_0.heap.FunFrames X.base l → s.heap.FunFrames X.base l := by
    intro l
    induction l with
    | nil => intro _ _; trivial
    | cons env r ih =>
      intro hs hl
      obtain ⟨hk, ⟨L, o, hf, hn, ho, hd⟩, hr⟩ := hl
      have hL : L ∈ X.fs := hs L (by unfold frs; rw [List.filterMap_cons, hf]; exact List.mem_cons_self)
      obtain ⟨sl, e⟩ := I.base.slot L o ho (I.ok.frf L hL) hL fun z => I.ok.exfs L z hL
      exact ⟨hk, ⟨L, _, hf, hn, e, hd⟩, ih (fun b hb => hs b (by unfold frs; rw [List.filterMap_cons, hf]; exact List.mem_cons_of_mem _ hb)) hr⟩
  exact all X.outer (fun _ hb => hb) I.ok.funs
theorem Inv.stack (I : Inv X pins σ H s) : s.heap.FunFrames X.base X.stack := by
  rcases I.ok.stk with e | ⟨e, hf⟩
  · rw [e]; exact I.funs
  · rw [e]
    obtain ⟨m, hn, _⟩ := I.loc
    refine .cons (by rw [I.ok.kind]; decide) hf hn ?_ I.funs
    exact Heap.get?_none_of_le (Nat.le_trans I.ok.bsz I.ok.above)
theorem Inv.stkSub (I : Inv X pins σ H s) : ∀ b ∈ frs X.stack, b ∈ X.env.locals :: X.fs := fun b hb => by
  rcases I.ok.stk with e | ⟨e, hf⟩
  · rw [e] at hb; exact List.mem_cons_of_mem _ hb
  · rw [e] at hb
    unfold frs at hb
    rw [List.filterMap_cons, hf] at hb
    exact hb
theorem Inv.stkFree (I : Inv X pins σ H s) : ∀ b ∈ frs X.stack, H b = none := fun b hb => by
  rcases List.mem_cons.mp (I.stkSub b hb) with e | hb
  · rw [e]; exact I.free
  · obtain ⟨_, o, ho, _⟩ := I.ok.funs.mem hb
    exact I.base.free b o ho (I.ok.frf b hb) fun z => I.ok.exfs b z hb
theorem Inv.step {g' : Array GenState} {t' : Nat} {d' : Drawn} {ch : List Addr} (I : Inv X pins σ H s)
    (hch : ∀ b ∈ ch, (b ∈ X.ex ∨ X.s_0.heap.objs.size ≤ b) ∧ b ≠ X.env.locals ∧ (∀ x c, X.env.cells.lookup x = some c → c ≠ b) ∧ ∀ p ∈ X.pn ++ pins, p.1 ≠ b)
    (keep : ∀ b o, b ≠ X.env.locals → b ∉ X.fs → b ∉ ch → s.heap.get? b = some o → H b = none → h'.get? b = some o)
    (slot : ∀ b o, b ≠ X.env.locals → b ∈ X.fs → b ∉ ch → s.heap.get? b = some o → H b = none → ∃ sl, h'.get? b = some { o with slots := sl }) (free : ∀ b o, b ∉ ch → s.heap.get? b = some o → H b = none → H' b = none)
    (there : ∀ b o, b ∉ ch → s.heap.get? b = some o → ∃ o', h'.get? b = some o')
    (tups : ∀ b xs, H b = some (.tup xs) → H' b = some (.tup xs)) (frzs : ∀ b o u, H b = some (.frz o u) → H' b = some (.frz o u)) (tbls : ∀ b ps, H b = some (.tbl ps) → ∃ more, H' b = some (.tbl (ps ++ more)))
    (ns : ∀ m, s.heap.Ns X.env.locals m → h'.Ns X.env.locals m) (hok : HOk X.prog X.w H' h') (hg : AllBare g') :
    Inv X pins σ H' { s with heap := h', gens := g', drawn := d', toks := t' } := by
  have neL : ∀ b o, X.s_0.heap.get? b = some o → b ≠ X.env.locals := fun b o e => Nat.ne_of_lt (Nat.lt_of_lt_of_le (Heap.lt_size e) I.ok.above)
  have neC : ∀ b o, X.s_0.heap.get? b = some o → b ∉ X.ex → b ∉ ch := fun b o e hx hb => by
    rcases (hch b hb).1 with z | z
    · exact hx z
    · exact absurd (Nat.lt_of_lt_of_le (Heap.lt_size e) z) (Nat.lt_irrefl _)
  have cellK : ∀ x c, X.env.cells.lookup x = some c → ∀ v, s.heap.IsCell c v → h'.IsCell c v := fun x c e v ⟨o, ho, hd⟩ => by
    have nch : c ∉ ch := fun z => (hch c z).2.2.1 x c e rfl
    by_cases hc : c ∈ X.fs
    · obtain ⟨sl, q⟩ := slot c o (I.cne x c e) hc nch ho (I.freeC x c e)
      exact ⟨_, q, hd⟩
    · exact ⟨o, keep c o (I.cne x c e) hc nch ho (I.freeC x c e), hd⟩
  refine ⟨I.ok, I.os, hg, ⟨fun b o e n hb hx => ?_, fun b o e n hb hx => ?_, fun b o e n hx => ?_, fun b o e hx => ?_, fun b xs e => tups b xs (I.base.tups b xs e), fun b o xs e => frzs b o xs (I.base.frzs b o xs e), fun b ps e => ?_⟩, ?_, fun x c e => ?_, ?_, fun x c e => ?_, fun p hp => ?_, hok, I.len⟩
  · exact keep b o (neL b o e) hb (neC b o e hx) (I.base.keep b o e n hb hx) (I.base.free b o e n hx)
  · obtain ⟨sl, e1⟩ := I.base.slot b o e n hb hx
    obtain ⟨sl', e2⟩ := slot b _ (neL b o e) hb (neC b o e hx) e1 (I.base.free b o e n hx)
    exact ⟨sl', e2⟩
  · obtain ⟨o', e1⟩ := I.base.there b o e hx
    exact free b o' (neC b o e hx) e1 (I.base.free b o e n hx)
  · obtain ⟨o', e1⟩ := I.base.there b o e hx
    exact there b o' (neC b o e hx) e1
  · obtain ⟨m1, e1⟩ := I.base.tbls b ps e
    obtain ⟨m2, e2⟩ := tbls b _ e1
    exact ⟨m1 ++ m2, by rw [e2, Array.append_assoc]⟩
  · obtain ⟨m, hn, hl⟩ := I.loc
    refine ⟨m, ns m hn, fun i x v e1 e2 e3 => ?_⟩
    obtain ⟨u, r, l⟩ := hl i x v e1 e2 e3
    refine ⟨u, r, ?_⟩
    rcases l with l | ⟨k, c, e, z⟩
    · exact .inl l
    · exact .inr ⟨k, c, e, cellK x c e _ z⟩
  · obtain ⟨v, z⟩ := I.cell x c e
    exact ⟨v, cellK x c e v z⟩
  · obtain ⟨m, ⟨o, _, _, ho, _⟩, _⟩ := I.loc
    exact free _ o (fun z => (hch _ z).2.1 rfl) ho I.free
  · obtain ⟨v, o, ho, hd⟩ := I.cell x c e
    exact free c o (fun z => (hch c z).2.2.1 x c e rfl) ho (I.freeC x c e)
  · obtain ⟨e, n, ne, nf, d⟩ := I.pin p hp
    have nch : p.1 ∉ ch := fun z => (hch p.1 z).2.2.2 p hp rfl
    exact ⟨keep p.1 p.2 ne nf nch e n, free p.1 p.2 nch e n, ne, nf, d⟩
theorem Inv.un {t' : Nat} (I : Inv X pins σ H s) (u : Un X.fs [] H H' s.heap h') (hok : HOk X.prog X.w H' h') : Inv X pins σ H' { s with heap := h', toks := t' } := by
  obtain ⟨m, ⟨o, es, ep, ho, r⟩, _⟩ := id I.loc
  obtain ⟨sl, hL⟩ := u.any ho I.free (by simp)
  exact I.step (g' := s.gens) (d' := s.drawn) (ch := []) (fun _ z => nomatch z) (fun b o _ hb _ e n => u.keep b o e n hb (by simp)) (fun b o _ hb _ e n => u.slot b o e n hb (by simp)) (fun b o _ e n => u.free b o e n (by simp)) (fun b o _ e => u.there b o e (by simp)) u.tups u.frzs u.tbls (fun m' hm => by
    obtain ⟨o', es', ep', ho', r'⟩ := hm
    rw [ho] at ho'; cases ho'
    exact ⟨_, es', ep', hL, r'⟩) hok I.bare
theorem Inv.call {g' : Array GenState} {t' : Nat} {d' : Drawn} {ch : List Addr} (I : Inv X pins σ H s) (u : Un (frs X.stack) ch H H' s.heap h') (hok : HOk X.prog X.w H' h') (hg : AllBare g')
    (hch : ∀ b ∈ ch, (b ∈ X.ex ∨ X.s_0.heap.objs.size ≤ b) ∧ b ≠ X.env.locals ∧ (∀ x c, X.env.cells.lookup x = some c → c ≠ b) ∧ ∀ p ∈ X.pn ++ pins, p.1 ≠ b) :
    Inv X pins σ H' { s with heap := h', gens := g', drawn := d', toks := t' } := by
  obtain ⟨m, ⟨o, es, ep, ho, r⟩, _⟩ := id I.loc
  obtain ⟨sl, hL⟩ := u.any ho I.free fun z => (hch _ z).2.1 rfl
  exact I.step (ch := ch) hch (fun b o hL hb hc e n => u.keep b o e n (fun z => (List.mem_cons.mp (I.stkSub b z)).elim hL hb) hc) (fun b o _ _ hc e n => u.any e n hc) (fun b o hc e n => u.free b o e n hc) (fun b o hc e => u.there b o e hc) u.tups u.frzs u.tbls (fun m' hm => by
    obtain ⟨o', es', ep', ho', r'⟩ := hm
    rw [ho] at ho'; cases ho'
    exact ⟨_, es', ep', hL, r'⟩) hok hg
theorem Inv.turned {t' : Nat} {it : Addr} (I : Inv X pins σ H s) (k : ∀ b o, b ≠ it → s.heap.get? b = some o → h'.get? b = some o) (hn : H it = none) (hL : it ≠ X.env.locals)
    (h1 : it ∈ X.ex ∨ X.s_0.heap.objs.size ≤ it) (h2 : ∀ x c, X.env.cells.lookup x = some c → c ≠ it) (h3 : ∀ p ∈ X.pn ++ pins, p.1 ≠ it) : Inv X pins σ H { s with heap := h', toks := t' } := by
  have nit : ∀ b u, H b = some u → b ≠ it := fun b u e z => by rw [z, hn] at e; cases e
  refine I.step (g' := s.gens) (d' := s.drawn) (ch := [it]) (fun b hb => ?_) (fun b o _ _ hc e _ => k b o (fun z => hc (by simp [z])) e) (fun b o _ _ hc e _ => ⟨o.slots, k b o (fun z => hc (by simp [z])) e⟩) (fun _ _ _ _ n => n)
    (fun b o hc e => ⟨o, k b o (fun z => hc (by simp [z])) e⟩) (fun _ _ e => e) (fun _ _ _ e => e) (fun b ps e => ⟨#[], by rw [e]; simp⟩) (fun m hm => ?_) (fun b u e => ?_) I.bare
  · have e : b = it := by simpa using hb
    subst e
    exact ⟨h1, hL, h2, h3⟩
  · obtain ⟨o, es, ep, ho, r⟩ := hm
    exact ⟨o, es, ep, k _ o (Ne.symm hL) ho, r⟩
  · refine (I.hok b u e).stay (fun c v hc q => k c v ?_ q) (fun _ q => q) fun _ _ q => q
    rcases hc with z | z
    · rw [z]; exact nit b u e
    · exact nit c _ z
theorem Inv.tok (I : Inv X pins σ H s) (t : Nat) : Inv X pins σ H { s with toks := t } := I.un (h' := s.heap) (t' := t) Un.refl I.hok
theorem Inv.kept {t' : Nat} (I : Inv X pins σ H s) (k : ∀ b u, s.heap.get? b = some u → h'.get? b = some u) : Inv X pins σ H { s with heap := h', toks := t' } := I.un (Un.kept k) (I.hok.kept k)
theorem Inv.laid {a : Addr} {o : HO} {t' : Nat} (I : Inv X pins σ H s) (k : ∀ b u, s.heap.get? b = some u → h'.get? b = some u) (hp : s.heap.objs.size ≤ a) (new : ObjOk X.prog X.w (upd H a o) h' a o) :
    Inv X pins σ (upd H a o) { s with heap := h', toks := t' } := I.un (Un.laid k hp (I.hok.fresh hp)) (I.hok.laid k hp new)
theorem Inv.write {x e : Addr} {o : HO} {t' : Nat} (I : Inv X pins σ H s) (mu : Mut (H x)) (he : e = x ∨ H e = some (.own x)) (k : ∀ b u, b ≠ e → s.heap.get? b = some u → h'.get? b = some u) (heo : ∃ u, h'.get? e = some u)
    (new : ObjOk X.prog X.w (upd H x o) h' x o) : Inv X pins σ (upd H x o) { s with heap := h', toks := t' } := I.un (Un.write mu he k heo) (I.hok.write mu he k heo new)
theorem Inv.weak {σ' : List (Option V)} (I : Inv X pins σ H s) (hl : σ'.length = σ.length) (w : ∀ (i : Nat) v, σ'[i]? = some (some v) → σ[i]? = some (some v)) : Inv X pins σ' H s :=
  ⟨I.ok, I.os, I.bare, I.base, let ⟨m, hn, hl'⟩ := I.loc; ⟨m, hn, fun i x v e1 e2 e3 => hl' i x v e1 (w i v e2) e3⟩, I.cell, I.free, I.freeC, I.pin, I.hok, hl.trans I.len⟩
theorem Inv.pins_of {pins' : List (Addr × Obj)} (I : Inv X pins σ H s) (h : ∀ p ∈ pins', s.heap.get? p.1 = some p.2 ∧ H p.1 = none ∧ p.1 ≠ X.env.locals ∧ p.1 ∉ X.fs ∧ ∀ v, p.2.data ≠ .cell v) : Inv X pins' σ H s :=
  ⟨I.ok, I.os, I.bare, I.base, I.loc, I.cell, I.free, I.freeC, fun p hp => (List.mem_append.mp hp).elim (fun z => I.pin p (List.mem_append_left _ z)) (h p), I.hok, I.len⟩
theorem nodup_ix {N : List Str} (hN : N.Nodup) {i j : Nat} {x : Str} (a : N[i]? = some x) (b : N[j]? = some x) : i = j := by
  obtain ⟨h1, e1⟩ := List.getElem?_eq_some_iff.mp a
  obtain ⟨h2, e2⟩ := List.getElem?_eq_some_iff.mp b
  exact (List.getElem_inj hN).mp (e1.trans e2.symm)
theorem store_ok2 {M : Model} {A : Around} {E : Value → Shared → Prop} {i : Nat} {x : Str} {v : V} {u : Value} {Q : Unit → Shared → Prop} (I : Inv X pins σ H s) (hN : X.N.Nodup) (hi : X.N[i]? = some x) (hx : Loc X.env.scope x) (r : RelV v u)
    (h : ∀ s', Inv X pins (σ.set i (some v)) H s' → (∃ a, Heap.SameBut a s.heap s'.heap ∧ (a = X.env.locals ∨ X.env.cells.lookup x = some a)) → Q () s') (hf : X.fn x = true ∨ X.env.scope.names.lookup x = some .local := by first | exact .inl rfl | exact .inr rfl | assumption) : wpAny M A (storeName X.env x u) Q E s := by
  obtain ⟨m, hn, hl⟩ := id I.loc
  have hcls : (X.env.scope.kind == .class || (X.env.scope.kind == .module && X.env.locals != X.env.globals)) = false := by rw [I.ok.kind]; rfl
  have hiσ : i < σ.length := by rw [I.len]; exact (List.getElem?_eq_some_iff.mp hi).1
  have cne := I.cne
  have tracked : ∀ {a : Addr} {h' : Heap}, (∃ o, s.heap.get? a = some o ∧ H a = none) → Heap.SameBut a s.heap h' → HOk X.prog X.w H h' := fun {a h'} ha hs b ob e => by
    obtain ⟨_, _, hfree⟩ := ha
    refine (I.hok b ob e).stay (fun c w' hc q => (hs.2 c ?_).trans q) (fun _ q => q) fun _ _ q => q
    rintro rfl
    rcases hc with rfl | hc
    · rw [hfree] at e; cases e
    · rw [hfree] at hc; cases hc
  rcases hx with hk | hk
  · refine wpAny_storeName_local hk hn (fun h' hn' hs => ?_) hcls
    obtain ⟨oL, _, _, hoL, _⟩ := id hn
    refine h _ ⟨I.ok, I.os, I.bare, ⟨fun b o e n hb hx => ?_, fun b o e n hb hx => ?_, I.base.free, fun b o e hx => ?_, I.base.tups, I.base.frzs, I.base.tbls⟩, ⟨_, hn', fun j y v' e1 e2 e3 => ?_⟩, fun y c e => ?_, I.free, I.freeC, fun p hp => ?_, tracked ⟨oL, hoL, I.free⟩ hs, by simpa using I.len⟩ ⟨_, hs, .inl rfl⟩
    · exact (hs.2 b (Nat.ne_of_lt (Nat.lt_of_lt_of_le (Heap.lt_size e) I.ok.above))).trans (I.base.keep b o e n hb hx)
    · obtain ⟨sl, e1⟩ := I.base.slot b o e n hb hx
      exact ⟨sl, (hs.2 b (Nat.ne_of_lt (Nat.lt_of_lt_of_le (Heap.lt_size e) I.ok.above))).trans e1⟩
    · obtain ⟨o', e1⟩ := I.base.there b o e hx
      exact ⟨o', (hs.2 b (Nat.ne_of_lt (Nat.lt_of_lt_of_le (Heap.lt_size e) I.ok.above))).trans e1⟩
    · by_cases hj : j = i
      · subst hj
        rw [hi] at e1; cases e1
        rw [List.getElem?_set_self hiσ] at e2
        cases e2
        exact ⟨u, r, .inl ⟨hk, by simp⟩⟩
      · rw [List.getElem?_set_ne (Ne.symm hj)] at e2
        obtain ⟨u', r', q⟩ := hl j y v' e1 e2 e3
        refine ⟨u', r', ?_⟩
        rcases q with ⟨k, e⟩ | ⟨k, c, e, z⟩
        · refine .inl ⟨k, ?_⟩
          have : y ≠ x := fun e => hj (nodup_ix hN e1 (e ▸ hi))
          simp [this, e]
        · exact .inr ⟨k, c, e, z.sameBut hs (cne y c e)⟩
    · obtain ⟨w', z⟩ := I.cell y c e
      exact ⟨w', z.sameBut hs (cne y c e)⟩
    · obtain ⟨e, n, ne, nf, d⟩ := I.pin p hp
      exact ⟨(hs.2 p.1 ne).trans e, n, ne, nf, d⟩
  · have hfn : X.fn x = true := by
      rcases hf with z | z
      · exact z
      · rw [z] at hk; cases hk
    obtain ⟨c, hc⟩ := I.ok.has x (.inl hk)
    obtain ⟨w', z⟩ := I.cell x c hc
    refine wpAny_storeName_cell I.ok.kind hk hc z (fun h' hc' hs => ?_)
    obtain ⟨oc, hoc, hocd⟩ := id z
    refine h { s with heap := h' } ⟨I.ok, I.os, I.bare, ⟨fun b o e n hb hx => ?_, fun b o e n hb hx => ?_, I.base.free, fun b o e hx => ?_, I.base.tups, I.base.frzs, I.base.tbls⟩, ⟨m, hn.sameBut hs (Ne.symm (cne x c hc)), fun j y v' e1 e2 e3 => ?_⟩, fun y c' e => ?_, I.free, I.freeC, fun p hp => ?_, tracked ⟨oc, hoc, I.freeC x c hc⟩ hs, by simpa using I.len⟩ ⟨c, hs, .inr hc⟩
    · exact (hs.2 b (Nat.ne_of_lt (Nat.lt_of_lt_of_le (Heap.lt_size e) (I.ok.cab x c hfn hc)))).trans (I.base.keep b o e n hb hx)
    · obtain ⟨sl, e1⟩ := I.base.slot b o e n hb hx
      exact ⟨sl, (hs.2 b (Nat.ne_of_lt (Nat.lt_of_lt_of_le (Heap.lt_size e) (I.ok.cab x c hfn hc)))).trans e1⟩
    · obtain ⟨o', e1⟩ := I.base.there b o e hx
      exact ⟨o', (hs.2 b (Nat.ne_of_lt (Nat.lt_of_lt_of_le (Heap.lt_size e) (I.ok.cab x c hfn hc)))).trans e1⟩
    · by_cases hj : j = i
      · subst hj
        rw [hi] at e1; cases e1
        rw [List.getElem?_set_self hiσ] at e2
        cases e2
        exact ⟨u, r, .inr ⟨.inl hk, c, hc, hc'⟩⟩
      · rw [List.getElem?_set_ne (Ne.symm hj)] at e2
        obtain ⟨u', r', q⟩ := hl j y v' e1 e2 e3
        refine ⟨u', r', ?_⟩
        rcases q with q | ⟨k, c', e, z'⟩
        · exact .inl q
        · refine .inr ⟨k, c', e, z'.sameBut hs ?_⟩
          rintro rfl
          exact hj (nodup_ix hN e1 (I.ok.inj _ _ _ e hc ▸ hi))
    · by_cases hcc : c' = c
      · subst hcc; exact ⟨_, hc'⟩
      · obtain ⟨w2, z2⟩ := I.cell y c' e
        exact ⟨w2, z2.sameBut hs hcc⟩
    · obtain ⟨e, n, ne, nf, d⟩ := I.pin p hp
      refine ⟨(hs.2 p.1 ?_).trans e, n, ne, nf, d⟩
      intro q
      rw [q, hoc] at e
      have q' : oc = p.2 := Option.some.inj e
      exact d w' (by rw [← q']; exact hocd)
theorem store_ok {M : Model} {A : Around} {E : Value → Shared → Prop} {i : Nat} {x : Str} {v : V} {u : Value} {Q : Unit → Shared → Prop} (I : Inv X pins σ H s) (hN : X.N.Nodup) (hi : X.N[i]? = some x) (hx : Loc X.env.scope x) (r : RelV v u)
    (h : ∀ s', Inv X pins (σ.set i (some v)) H s' → Q () s') (hf : X.fn x = true ∨ X.env.scope.names.lookup x = some .local := by first | exact .inl rfl | exact .inr rfl | assumption) : wpAny M A (storeName X.env x u) Q E s :=
  store_ok2 I hN hi hx r (fun s' I' _ => h s' I') hf
theorem Inv.call' {s' : Shared} {ch : List Addr} (I : Inv X pins σ H s) (ho : s'.os = s.os) (u : Un (frs X.stack) ch H H' s.heap s'.heap) (hok : HOk X.prog X.w H' s'.heap) (hg : AllBare s'.gens)
    (hch : ∀ b ∈ ch, (b ∈ X.ex ∨ X.s_0.heap.objs.size ≤ b) ∧ b ≠ X.env.locals ∧ (∀ x c, X.env.cells.lookup x = some c → c ≠ b) ∧ ∀ p ∈ X.pn ++ pins, p.1 ≠ b) : Inv X pins σ H' s' := by
  obtain ⟨h', g', d', t', o'⟩ := s'
  have e : o' = s.os := ho
  subst e
  exact I.call (g' := g') (t' := t') (d' := d') u hok hg hch
end
noncomputable abbrev XK := Value → Option Addr → Hp → Prop
noncomputable abbrev St := List (Option V)
noncomputable abbrev VK := V → Hp → Prop
noncomputable abbrev TE := St → Hp → VK → Prop
noncomputable abbrev TT := St → Hp → (Bool → Hp → Prop) → Prop
noncomputable abbrev TA := St → Hp → (List V → Hp → Prop) → Prop
structure Ends where
  nx : St → Hp → Prop
  rt : VK
  bk : St → Hp → Prop := fun _ _ => False
  ct : St → Hp → Prop := fun _ _ => False
noncomputable abbrev TS := Ends → St → Hp → Prop
noncomputable def EP (X : Cx) (pins : List (Addr × Obj)) (σ : St) (Q : VK) (u : Value) (s' : Shared) : Prop := ∃ v H', Inv X pins σ H' s' ∧ RelV v u ∧ Q v H'
noncomputable def TP (X : Cx) (pins : List (Addr × Obj)) (σ : St) (Q : Bool → Hp → Prop) (b : Bool) (s' : Shared) : Prop := ∃ H', Inv X pins σ H' s' ∧ Q b H'
noncomputable def AP (X : Cx) (pins : List (Addr × Obj)) (σ : St) (Q : List V → Hp → Prop) (us : List Value) (s' : Shared) : Prop := ∃ vs H', Inv X pins σ H' s' ∧ Vals vs us ∧ Q vs H'
noncomputable def SP (X : Cx) (pins : List (Addr × Obj)) (D : Ends) (f : Flow) (s' : Shared) : Prop :=
  match f with
  | .next => ∃ σ' H', Inv X pins σ' H' s' ∧ D.nx σ' H'
  | .brk => ∃ σ' H', Inv X pins σ' H' s' ∧ D.bk σ' H'
  | .cont => ∃ σ' H', Inv X pins σ' H' s' ∧ D.ct σ' H'
  | .ret u => ∃ v σ' H', Inv X pins σ' H' s' ∧ RelV v u ∧ D.rt v H'
noncomputable def PE (X : Cx) (e : Expr) (t : TE) : Prop :=
  ∀ (pins : List (Addr × Obj)) (s : Shared) (σ : St) (H : Hp) (Q : VK), Inv X pins σ H s → t σ H Q → wpAny (model X.prog X.w) X.A (eval e X.env) (EP X pins σ Q) X.xe s
noncomputable def PT (X : Cx) (e : Expr) (t : TT) : Prop :=
  ∀ (pins : List (Addr × Obj)) (s : Shared) (σ : St) (H : Hp) (Q : Bool → Hp → Prop), Inv X pins σ H s → t σ H Q → wpAny (model X.prog X.w) X.A (isTrue e X.env (eval e X.env)) (TP X pins σ Q) X.xe s
noncomputable def PW (X : Cx) (e : Expr) (t : TT) : Prop :=
  ∀ (whole : Sem Value) (pins : List (Addr × Obj)) (s : Shared) (σ : St) (H : Hp) (Q : Bool → Hp → Prop), Inv X pins σ H s → t σ H Q → wpAny (model X.prog X.w) X.A (isTrue e X.env whole) (TP X pins σ Q) X.xe s
theorem PW.pt {X : Cx} {e : Expr} {t : TT} (h : PW X e t) : PT X e t := h _
noncomputable def PA (X : Cx) (es : List Expr) (t : TA) : Prop :=
  ∀ (pos : Pos) (pins : List (Addr × Obj)) (s : Shared) (σ : St) (H : Hp) (Q : List V → Hp → Prop), Inv X pins σ H s → t σ H Q → wpAny (model X.prog X.w) X.A (spliced (backTo pos (starEach es X.env))) (AP X pins σ Q) X.xe s
noncomputable def PS (X : Cx) (st : Stmt) (t : TS) : Prop :=
  ∀ (pins : List (Addr × Obj)) (s : Shared) (σ : St) (H : Hp) (D : Ends), Inv X pins σ H s → t D σ H → wpAny (model X.prog X.w) X.A (exec st X.env) (SP X pins D) X.xe s
noncomputable def PSs (X : Cx) (st : List Stmt) (t : TS) : Prop :=
  ∀ (pins : List (Addr × Obj)) (s : Shared) (σ : St) (H : Hp) (D : Ends), Inv X pins σ H s → t D σ H → wpAny (model X.prog X.w) X.A (execs st X.env) (SP X pins D) X.xe s
theorem thn {α : Type} {t : Sem α} {Q Q' : α → Shared → Prop} {M : Model} {A : Around} {E : Value → Shared → Prop} {s : Shared} (h : wpAny M A t Q E s) (hQ : ∀ a s, Q a s → Q' a s) : wpAny M A t Q' E s := wpAny_mono h hQ fun _ _ x => x
end L2
namespace L2
open PySem PySem.Spec PyProof.Rows
section
variable {X : Cx}
noncomputable def tVar (i : Nat) : TE := fun σ H Q => ∃ v, σ[i]? = some (some v) ∧ Q v H
noncomputable def tC (v : V) : TE := fun _ H Q => Q v H
theorem pe_var {i : Nat} {x : Str} {pos : Pos} (hN : X.N[i]? = some x) (hv : Vis X.env.scope x) (hd : (x == ("__debug__" : Str)) = false := by decide) (hcd : (x == ("__classdict__" : Str)) = false := by decide) : PE X (.Name x pos) (tVar i) := by
  intro pins s σ H Q I h
  obtain ⟨v, e, h⟩ := h
  obtain ⟨m, hn, hl⟩ := I.loc
  obtain ⟨u, r, l⟩ := hl i x v hN e hv
  have fin : EP X pins σ Q u s := ⟨v, H, I, r, h⟩
  rcases l with ⟨hk, hm⟩ | ⟨hk, c, hc, hcell⟩
  · exact wpAny_Name (wpAny_loadName_local I.ok.kind hk hn hm fin) hd
  · rcases hk with hk | hk
    · exact wpAny_Name (wpAny_loadName_cell I.ok.kind hk hc hcell fin) hd
    · exact wpAny_Name (wpAny_loadName_free I.ok.kind hk hc hcell fin hcd) hd
theorem pe_int {i j pos} : PE X (.Constant (.int i) j pos) (tC (.int i)) := fun _ _ _ H _ I h => wpAny_Constant_int ⟨.int i, H, I.tok _, ⟨_, rfl⟩, h⟩
noncomputable def Gl (X : Cx) (x : Str) : Prop := X.env.kindOf x = some .globalImplicit
theorem ld_glob {E : Value → Shared → Prop} {pins : List (Addr × Obj)} {s : Shared} {σ : St} {H : Hp} {x : Str} {u : Value} {pos : Pos} {Q : Value → Shared → Prop} (I : Inv X pins σ H s) (hg : Gl X x) (hm : X.mg x = some u) (h : Q u s)
    (hd : (x == ("__debug__" : Str)) = false := by decide) : wpAny (model X.prog X.w) X.A (eval (.Name x pos) X.env) Q E s :=
  Calls.Name_function_global I.ok.kind hg (Calls.loadGlobal_global (by rw [I.ok.glob]; exact I.mod.glob.keeps I.bk) hm h) hd
theorem ld_blt {E : Value → Shared → Prop} {pins : List (Addr × Obj)} {s : Shared} {σ : St} {H : Hp} {x : Str} {u : Value} {pos : Pos} {Q : Value → Shared → Prop} (I : Inv X pins σ H s) (hg : Gl X x) (hm : X.mg x = none) (hv : bootBuiltins x = some u) (h : Q u s)
    (hn : x ≠ "__name__" := by decide) (hd : (x == ("__debug__" : Str)) = false := by decide) : wpAny (model X.prog X.w) X.A (eval (.Name x pos) X.env) Q E s := by
  obtain ⟨mb, h1, h2⟩ := I.mod.blt
  exact Calls.Name_function_global I.ok.kind hg (Calls.loadGlobal_builtin (by rw [I.ok.glob]; exact I.mod.glob.keeps I.bk) hm (by rw [I.ok.blt]; exact h1.keeps I.bk) ((h2 x hn).trans hv) h) hd
theorem pe_glob {x : Str} {v : V} {u : Value} {pos : Pos} (hg : Gl X x) (hm : X.mg x = some u) (r : RelV v u) (hd : (x == ("__debug__" : Str)) = false := by decide) : PE X (.Name x pos) (tC v) :=
  fun _ _ _ H _ I h => ld_glob I hg hm ⟨v, H, I, r, h⟩ hd
variable {a b : Expr} {ta tb : TE} {pos : Pos}
noncomputable def PC (X : Cx) (op : CmpOp) (a b : Expr) (t : TE) : Prop :=
  ∀ (pins : List (Addr × Obj)) (s : Shared) (σ : St) (H : Hp) (Q : VK), Inv X pins σ H s → t σ H Q →
    wpAny (model X.prog X.w) X.A (eval a X.env) (fun v s₁ => wpAny (model X.prog X.w) X.A (eval b X.env) (fun u s₂ => wpAny (model X.prog X.w) X.A (compareOp op v u) (EP X pins σ Q) X.xe s₂) X.xe s₁) X.xe s
noncomputable def tB (t : TE) : TT := fun σ H Q => t σ H fun x H1 => ∃ c, x = .bl c ∧ Q c H1
theorem pt_cmp {op : CmpOp} {t : TE} (h : PC X op a b t) (h1 : behindInMarks op b = false := by first | exact nobehind _ (by decide) (by decide) | rfl) : PT X (.Compare a [op] [b] pos) (tB t) := by
  intro pins s σ H Q I hw
  refine wpAny_isTrue_Compare1 (thn (h pins s σ H _ I hw) fun v s1 h1 => thn h1 fun u s2 h2 => thn h2 fun c s3 ⟨x, H1, I1, r1, q1⟩ => ?_) h1
  obtain ⟨d, rfl, q⟩ := q1
  cases r1
  exact wpAny_truthy_bool ⟨H1, I1, q⟩
theorem pt_val {e : Expr} {t : TE} (h : PE X e t) (he : ∀ whole, isTrue e X.env whole = (do let v ← whole; standAt e.pos; holding [v] (truthy v)) := by intro _; rfl) : PT X e (tB t) := by
  intro pins s σ H Q I hw
  refine isTrue_plain (thn (h pins s σ H _ I hw) fun v s1 ⟨x, H1, I1, r1, q1⟩ => ?_) (he _)
  obtain ⟨d, rfl, q⟩ := q1
  cases r1
  exact wpAny_truthy_bool ⟨H1, I1, q⟩
variable {tA tB' : TT} {rest : List Expr}
noncomputable def tOr (t u : TT) : TT := fun σ H Q => t σ H fun c H1 => if c = true then Q true H1 else u σ H1 Q
noncomputable def tNot (t : TT) : TT := fun σ H Q => t σ H fun c H1 => Q (!c) H1
theorem pw_or1 (ha : PT X a tA) : PW X (.BoolOp .Or [a] pos) tA := by
  intro wh pins s σ H Q I h
  refine isTrue_or (thn (ha pins s σ H Q I h) fun c s1 e => ?_)
  cases c with
  | false => exact isTrue_or_nil e
  | true => exact e
theorem pw_or (ha : PT X a tA) (hb : PW X (.BoolOp .Or (b :: rest) pos) tB') : PW X (.BoolOp .Or (a :: b :: rest) pos) (tOr tA tB') := by
  intro wh pins s σ H Q I h
  refine isTrue_or (thn (ha pins s σ H _ I h) fun c s1 ⟨H1, I1, q1⟩ => ?_)
  cases c with
  | true => exact ⟨H1, I1, q1⟩
  | false => exact hb wh pins s1 σ H1 Q I1 q1
theorem pt_not (ha : PT X a tA) : PT X (.UnaryOp .Not a pos) (tNot tA) := by
  intro pins s σ H Q I h
  exact isTrue_not (ha pins s σ H (fun c H1 => Q (!c) H1) I h)
noncomputable def tAndV (ta tb : TE) : TE := fun σ H Q => ta σ H fun x H1 => ∃ c, x = .bl c ∧ if c = true then tb σ H1 Q else Q (.bl false) H1
theorem pe_one {op} {t : TE} (h : PE X a t) : PE X (.BoolOp op [a] pos) t := fun pins s σ H Q I hw => BoolOp_one (h pins s σ H Q I hw)
theorem pe_and (ha : PE X a ta) (hb : PE X (.BoolOp .And (b :: rest) pos) tb) : PE X (.BoolOp .And (a :: b :: rest) pos) (tAndV ta tb) := by
  intro pins s σ H Q I h
  refine BoolOp_and (thn (ha pins s σ H _ I h) fun v s1 ⟨x, H1, I1, r1, q1⟩ => ?_)
  obtain ⟨c, rfl, q1⟩ := q1
  cases r1
  refine wpAny_truthy_bool ?_
  cases c with
  | true => exact hb pins s1 σ H1 Q I1 q1
  | false => exact ⟨.bl false, H1, I1, rfl, q1⟩
noncomputable def tIf (t : TT) (ta tb : TE) : TE := fun σ H Q => t σ H fun c H1 => if c = true then ta σ H1 Q else tb σ H1 Q
theorem pe_ifExp {c : Expr} (hc : PT X c tA) (ha : PE X a ta) (hb : PE X b tb) : PE X (.IfExp c a b pos) (tIf tA ta tb) := by
  intro pins s σ H Q I h
  refine wpAny_IfExp (thn (hc pins s σ H _ I h) fun d s1 ⟨H1, I1, q1⟩ => ?_)
  cases d with
  | true => exact ha pins s1 σ H1 Q I1 q1
  | false => exact hb pins s1 σ H1 Q I1 q1
end
end L2
namespace L2
open PySem PySem.Spec PyProof.Rows
noncomputable def SqL (K : PySem.W.Frag) (H : Hp) (a : Addr) (xs : List V) : Prop :=
  Rd H a (.lst xs) ∨
    ∃ (o : Obj) (its : Array Value) (n : Nat), K.lookup a = some o ∧ o.cls = .type "list" ∧ o.dict = none ∧ o.data = .seq its n ∧ its.size ≤ sizeLine ∧ Vals xs its.toList
noncomputable def SqT (K : PySem.W.Frag) (H : Hp) (a : Addr) (xs : List V) : Prop :=
  Rd H a (.tup xs) ∨
    ∃ (o : Obj) (its : Array Value) (n : Nat), K.lookup a = some o ∧ o.cls = .type "tuple" ∧ o.data = .seq its n ∧ its.size ≤ sizeLine ∧ Vals xs its.toList
noncomputable def absV : Value → Option V
  | .none => some .non
  | .bool b => some (.bl b)
  | .int i _ => some (.int i)
  | .str x _ => some (.str x)
  | .bytes b _ => some (.byt b)
  | .float b _ => some (.flt b)
  | .ref a => some (.ref a)
  | .type n => some (.ty n)
  | _ => none
theorem RelV.abs {x : V} {u : Value} (r : RelV x u) : absV u = some x := by
  cases x with
  | non => cases r; rfl
  | bl _ => cases r; rfl
  | int _ => obtain ⟨t, rfl⟩ := r; rfl
  | str _ => obtain ⟨t, rfl⟩ := r; rfl
  | byt _ => obtain ⟨t, rfl⟩ := r; rfl
  | flt _ => obtain ⟨t, rfl⟩ := r; rfl
  | ref _ => cases r; rfl
  | ty _ => cases r; rfl
theorem RelV.inj {x y : V} {u : Value} (r : RelV x u) (q : RelV y u) : x = y := Option.some.inj (r.abs.symm.trans q.abs)
theorem Vals.inj : ∀ {xs ys : List V} {us : List Value}, Vals xs us → Vals ys us → xs = ys
  | _, _, _, .nil, .nil => rfl
  | _, _, _, .cons r t, .cons r' t' => by rw [r.inj r', Vals.inj t t']
section
variable {X : Cx} {pins : List (Addr × Obj)} {σ : St} {H : Hp} {s : Shared} {a : Addr} {xs ys : List V}
theorem SqL.of {K : PySem.W.Frag} (h : H a = some (.lst xs)) : SqL K H a xs := .inl (.inl h)
theorem SqT.of {K : PySem.W.Frag} (h : H a = some (.tup xs)) : SqT K H a xs := .inl (.inl h)
theorem Inv.list (I : Inv X pins σ H s) (h : SqL X.K H a xs) : ∃ its : List Value, Vals xs its ∧ PlainL s.heap a its.toArray ∧ xs.length ≤ sizeLine := by
  rcases h with h | ⟨o, its, n, hk, hc, hd, hs, hz, r⟩
  · obtain ⟨z, its, n, r, e⟩ := h.ok I.hok
    exact ⟨its, r, ⟨_, n, e, rfl, rfl, rfl⟩, z⟩
  · refine ⟨its.toList, r, ⟨o, n, I.kIn a o hk, hc, hd, by simpa using hs⟩, ?_⟩
    have e := r.length
    simp only [Array.length_toList] at e
    omega
theorem Inv.tuple (I : Inv X pins σ H s) (h : SqT X.K H a xs) : ∃ its : List Value, Vals xs its ∧ IsTup s.heap a its.toArray ∧ xs.length ≤ sizeLine := by
  rcases h with h | ⟨o, its, n, hk, hc, hs, hz, r⟩
  · obtain ⟨z, its, r, p⟩ := h.ok I.hok
    exact ⟨its, r, p, z⟩
  · refine ⟨its.toList, r, ⟨o, I.kIn a o hk, hc, n, by simpa using hs⟩, ?_⟩
    have e := r.length
    simp only [Array.length_toList] at e
    omega
theorem Inv.list_inj (I : Inv X pins σ H s) (h : SqL X.K H a xs) (h' : SqL X.K H a ys) : xs = ys := by
  obtain ⟨its, r, ⟨o, n, e, _, _, d⟩, _⟩ := I.list h
  obtain ⟨its', r', ⟨o', n', e', _, _, d'⟩, _⟩ := I.list h'
  rw [e] at e'; cases e'
  rw [d] at d'
  injection d' with d1 _
  have : its = its' := by simpa using congrArg Array.toList d1
  subst this
  exact r.inj r'
theorem Inv.tuple_inj (I : Inv X pins σ H s) (h : SqT X.K H a xs) (h' : SqT X.K H a ys) : xs = ys := by
  obtain ⟨its, r, ⟨o, e, _, n, d⟩, _⟩ := I.tuple h
  obtain ⟨its', r', ⟨o', e', _, n', d'⟩, _⟩ := I.tuple h'
  rw [e] at e'; cases e'
  rw [d] at d'
  injection d' with d1 _
  have : its = its' := by simpa using congrArg Array.toList d1
  subst this
  exact r.inj r'
end
noncomputable abbrev Cx.wish (X : Cx) (E : Value → Shared → Prop) : Cx := { X with xe := E }
noncomputable abbrev Cx.nox (X : Cx) : Cx := X.wish fun _ _ => False
theorem Cx.Ok.wish {X : Cx} (ok : X.Ok) (E : Value → Shared → Prop) : (X.wish E).Ok :=
  ⟨ok.mod, ok.kind, ok.glob, ok.blt, ok.above, ok.inj, ok.has, ok.cab, ok.hd, ok.frames, ok.stk, ok.exf, ok.bs, ok.bsz, ok.noex, ok.exfs, ok.funs, ok.frf⟩
theorem Cx.Ok.unwish {X : Cx} {E : Value → Shared → Prop} (ok : (X.wish E).Ok) : X.Ok :=
  ⟨ok.mod, ok.kind, ok.glob, ok.blt, ok.above, ok.inj, ok.has, ok.cab, ok.hd, ok.frames, ok.stk, ok.exf, ok.bs, ok.bsz, ok.noex, ok.exfs, ok.funs, ok.frf⟩
section
variable {X : Cx} {pins : List (Addr × Obj)} {σ : St} {H : Hp} {s : Shared} {E : Value → Shared → Prop}
theorem Inv.wish (I : Inv X pins σ H s) (E : Value → Shared → Prop) : Inv (X.wish E) pins σ H s := ⟨I.ok.wish E, I.os, I.bare, I.base, I.loc, I.cell, I.free, I.freeC, I.pin, I.hok, I.len⟩
theorem Inv.unwish (I : Inv (X.wish E) pins σ H s) : Inv X pins σ H s := ⟨I.ok.unwish, I.os, I.bare, I.base, I.loc, I.cell, I.free, I.freeC, I.pin, I.hok, I.len⟩
end
section
variable {X : Cx} {st : Stmt} {rest : List Stmt} {t u : TS} {e : Expr} {te : TE} {pos : Pos}
noncomputable def tNext : TS := fun D σ H => D.nx σ H
noncomputable def tSeq (t u : TS) : TS := fun D σ H => t { D with nx := u D } σ H
theorem pss_nil : PSs X [] tNext := fun _ _ σ H _ I h => wpAny_execs_nil ⟨σ, H, I, h⟩
theorem pss_cons (h1 : PS X st t) (h2 : PSs X rest u) : PSs X (st :: rest) (tSeq t u) := by
  intro pins s σ H D I h
  refine wpAny_execs_cons (thn (h1 pins s σ H { D with nx := u D } I h) fun f s1 q => ?_)
  cases f with
  | next =>
    obtain ⟨σ', H', I', q⟩ := q
    exact h2 pins s1 σ' H' D I' q
  | ret v => exact q
  | brk => exact q
  | cont => exact q
theorem pss_one (h1 : PS X st t) : PSs X [st] t := by
  intro pins s σ H D I h
  refine wpAny_execs_cons (thn (h1 pins s σ H D I h) fun f s1 q => ?_)
  cases f with
  | next => exact wpAny_execs_nil q
  | ret v => exact q
  | brk => exact q
  | cont => exact q
theorem Inv.quiet {pins : List (Addr × Obj)} {σ : St} {H : Hp} {s : Shared} (I : Inv X pins σ H s) : interactive X.env = false := by simp [interactive, I.ok.kind]
noncomputable def tDrop (te : TE) : TS := fun D σ H => te σ H fun _ H1 => D.nx σ H1
theorem ps_expr (he : PE X e te) (hs : swapsWith e none pos.line X.env = pure false := by rfl) : PS X (.Expr e pos) (tDrop te) := by
  intro pins s σ H D I h
  exact wpAny_Expr_any (thn (he pins s σ H _ I h) fun v s1 ⟨x, H1, I1, r1, q1⟩ => ⟨σ, H1, I1, q1⟩) I.quiet hs
noncomputable def tRet (te : TE) : TS := fun D σ H => te σ H D.rt
theorem ps_ret (he : PE X e te) : PS X (.Return (some e) pos) (tRet te) := by
  intro pins s σ H D I h
  exact wpAny_Return_some (thn (he pins s σ H _ I h) fun v s1 ⟨x, H1, I1, r1, q1⟩ => ⟨x, σ, H1, I1, r1, q1⟩)
noncomputable def tIfS (c : TT) (t u : TS) : TS := fun D σ H => c σ H fun b H1 => if b = true then t D σ H1 else u D σ H1
theorem ps_if {c : Expr} {a b : List Stmt} {tc : TT} (hc : PT X c tc) (ha : PSs X a t) (hb : PSs X b u) : PS X (.If c a b pos) (tIfS tc t u) := by
  intro pins s σ H D I h
  refine wpAny_If (thn (hc pins s σ H _ I h) fun d s1 ⟨H1, I1, q1⟩ => ?_)
  cases d with
  | true => exact ha pins s1 σ H1 D I1 q1
  | false => exact hb pins s1 σ H1 D I1 q1
noncomputable def tNever : TS := fun _ _ _ => False
theorem pss_never {sts : List Stmt} : PSs X sts tNever := fun _ _ _ _ _ _ h => h.elim
end
noncomputable abbrev TG := V → St → Hp → (St → Hp → Prop) → Prop
noncomputable abbrev TGs := List V → St → Hp → (St → Hp → Prop) → Prop
noncomputable def PG (X : Cx) (target : Expr) (t : TG) : Prop :=
  ∀ (pins : List (Addr × Obj)) (s : Shared) (σ : St) (H : Hp) (v : V) (u : Value) (Q : St → Hp → Prop), Inv X pins σ H s → RelV v u → t v σ H Q →
    wpAny (model X.prog X.w) X.A (assign target X.env u) (fun _ s' => ∃ σ' H', Inv X pins σ' H' s' ∧ Q σ' H') X.xe s
noncomputable def PGs (X : Cx) (ts : List Expr) (t : TGs) : Prop :=
  ∀ (pins : List (Addr × Obj)) (s : Shared) (σ : St) (H : Hp) (vs : List V) (us : List Value) (Q : St → Hp → Prop), Inv X pins σ H s → Vals vs us → t vs σ H Q →
    wpAny (model X.prog X.w) X.A (assignInOrder ((assignEach ts X.env).map (·.2)) us) (fun _ s' => ∃ σ' H', Inv X pins σ' H' s' ∧ Q σ' H') X.xe s
noncomputable abbrev TSet := V → V → V → Hp → (Hp → Prop) → Prop
noncomputable def PSet (X : Cx) (t : TSet) : Prop :=
  ∀ (pins : List (Addr × Obj)) (s : Shared) (σ : St) (H : Hp) (o i v : V) (ov iv u : Value) (Q : Hp → Prop), Inv X pins σ H s → RelV o ov → RelV i iv → RelV v u → t o i v H Q →
    wpAny (model X.prog X.w) X.A (setItem ov iv u) (fun _ s' => ∃ H', Inv X pins σ H' s' ∧ Q H') X.xe s
section
variable {X : Cx} {pos : Pos}
noncomputable def gName (i : Nat) : TG := fun v σ H Q => Q (σ.set i (some v)) H
theorem pg_name {i : Nat} {x : Str} (hN : X.N.Nodup) (hi : X.N[i]? = some x) (hx : Loc X.env.scope x) (hf : X.fn x = true ∨ X.env.scope.names.lookup x = some .local := by first | exact .inl rfl | exact .inr rfl | assumption) : PG X (.Name x pos) (gName i) := by
  intro pins s σ H v u Q I r h
  exact wpAny_assign_Name (store_ok I hN hi hx r (fun s' I' => ⟨_, H, I', h⟩) hf)
noncomputable def gNil : TGs := fun vs σ H Q => vs = [] ∧ Q σ H
noncomputable def gCons (t : TG) (u : TGs) : TGs := fun vs σ H Q => ∃ v r, vs = v :: r ∧ t v σ H fun σ' H' => u r σ' H' Q
theorem pgs_nil : PGs X [] gNil := by
  intro pins s σ H vs us Q I r h
  obtain ⟨e, h⟩ := h
  subst e
  cases r
  exact assignInOrder_nil ⟨σ, H, I, h⟩
theorem pgs_cons {e : Expr} {es : List Expr} {t : TG} {u : TGs} (h1 : PG X e t) (h2 : PGs X es u)
    (hs : (assignEach (e :: es) X.env).map (·.2) = assign e X.env :: (assignEach es X.env).map (·.2) := by rfl) : PGs X (e :: es) (gCons t u) := by
  intro pins s σ H vs us Q I r h
  obtain ⟨v, vr, e1, h⟩ := h
  subst e1
  cases r with
  | cons r rr =>
    rw [hs]
    refine assignInOrder_cons (thn (h1 pins s σ H _ _ _ I r h) fun _ s1 ⟨σ1, H1, I1, q1⟩ => ?_)
    exact h2 pins s1 σ1 H1 _ _ Q I1 rr q1
noncomputable def gTup (K : PySem.W.Frag) (n : Nat) (t : TGs) : TG := fun v σ H Q => ∃ a xs, v = .ref a ∧ SqT K H a xs ∧ xs.length = n ∧ t xs σ H Q
theorem pg_tup {es : List Expr} {k : Nat} {t : TGs} {n : Nat} (hc : X.calm = true) (h : PGs X es t)
    (hn : (assignEach es X.env).length = n := by rfl) (hst : (assignEach es X.env).findIdx? (·.1) = none := by rfl) : PG X (.Tuple es k pos) (gTup X.K n t) := by
  intro pins s σ H v u Q I r hw
  obtain ⟨a, xs, e1, hq, hl, hw⟩ := hw
  subst e1
  cases r
  obtain ⟨its, rv, ht, hz⟩ := I.tuple hq
  refine assign_Tuple_tuple (I.ok.hd hc) ht (by simp [hn, ← hl, rv.length]) hst fun h' hx => ?_
  have I1 : Inv X pins σ H { s with heap := h' } := I.kept (t' := s.toks) fun b o e => hx b o (Nat.ne_of_lt (Heap.lt_size e)) e
  exact h pins _ σ H xs _ Q I1 (by simpa using rv) hw
noncomputable def gSub (to ti : TE) (t : TSet) : TG := fun v σ H Q => to σ H fun o H1 => ti σ H1 fun i H2 => t o i v H2 fun H3 => Q σ H3
theorem pg_sub {o i : Expr} {to ti : TE} {t : TSet} (ho : PE X o to) (hi : PE X i ti) (hs : PSet X t)
    (ha : ∀ v, assign (.Subscript o i pos) X.env v = (do
      let ov ← holding [v] (eval o X.env)
      let iv ← holding [v, ov] (eval i X.env)
      standAt pos
      holding [v, ov, iv] (setItem ov iv v)
      release [v, ov, iv] []) := by intro _; rfl) : PG X (.Subscript o i pos) (gSub to ti t) := by
  intro pins s σ H v u Q I r h
  rw [ha]
  refine wpAny_bind (wpAny_holding (thn (ho pins s σ H _ I h) fun ov s1 ⟨x, H1, I1, r1, q1⟩ => ?_))
  refine wpAny_bind (wpAny_holding (thn (hi pins s1 σ H1 _ I1 q1) fun iv s2 ⟨y, H2, I2, r2, q2⟩ => ?_))
  refine wpAny_bind (wpAny_standAt (wpAny_bind (wpAny_holding (thn (hs pins s2 σ H2 x y v ov iv u _ I2 r1 r2 r q2) fun _ s3 ⟨H3, I3, q3⟩ => ?_))))
  exact wpAny_release ⟨σ, H3, I3, q3⟩
noncomputable def tAsg (te : TE) (g : TG) : TS := fun D σ H => te σ H fun x H1 => g x σ H1 D.nx
theorem ps_asg {tg e : Expr} {te : TE} {g : TG} (he : PE X e te) (hg : PG X tg g) (hs : swapsWithSole [tg] e pos.line X.env = pure false := by rfl) (hw : swappedStores [tg] e X.env = pure none := by rfl)
    (h1 : (assignEach [tg] X.env).map (·.2) = [assign tg X.env] := by rfl) : PS X (.Assign [tg] e pos) (tAsg te g) := by
  intro pins s σ H D I h
  refine wpAny_Assign_stores (thn (he pins s σ H _ I h) fun v s1 ⟨x, H1, I1, r1, q1⟩ => ?_) hs hw
  rw [h1]
  exact thn (hg pins s1 σ H1 x v _ I1 r1 q1) fun _ s2 q => q
theorem ps_set {i : Nat} {x : Str} {e : Expr} {te : TE} {pos' : Pos} (hN : X.N.Nodup) (hi : X.N[i]? = some x) (hx : Loc X.env.scope x) (he : PE X e te) (hs : swapsWith e (some (.Name x pos')) pos.line X.env = pure false := by rfl) (hf : X.fn x = true ∨ X.env.scope.names.lookup x = some .local := by first | exact .inl rfl | exact .inr rfl | assumption) :
    PS X (.Assign [.Name x pos'] e pos) (tAsg te (gName i)) := by
  intro pins s σ H D I h
  refine wpAny_Assign_Name (thn (he pins s σ H _ I h) fun v s1 ⟨y, H1, I1, r1, q1⟩ => ?_) hs
  exact store_ok I1 hN hi hx r1 (fun s2 I2 => ⟨_, H1, I2, q1⟩) hf
end
section
variable {X : Cx} {pos : Pos}
noncomputable def tWhile (c : TT) (tb : TS) : TS := fun D σ H => ∃ W : Nat → St → Hp → Prop, (∃ m, W m σ H) ∧ ∀ m σ H, W m σ H →
  c σ H fun b H1 => if b = true then ∃ N : St → Hp → Prop, (∀ σ' H', N σ' H' → ∃ m', m' < m ∧ W m' σ' H') ∧ tb { D with nx := N, ct := N, bk := D.nx } σ H1 else D.nx σ H1
theorem ps_while {c : Expr} {body : List Stmt} {tc : TT} {tb : TS} (hp : PassesOwn (model X.prog X.w) X.A X.env X.xe) (hc : PT X c tc) (hb : PSs X body tb) : PS X (.While c body [] pos) (tWhile tc tb) := by
  intro pins s σ H D I h
  obtain ⟨W, ⟨m0, w0⟩, turn⟩ := h
  refine wpAny_While (codeAny_whileLoop (fun n s' => ∃ σ' H', Inv X pins σ' H' s' ∧ W n σ' H') ?_ m0 ⟨σ, H, I, w0⟩)
  rintro n s1 ⟨σ1, H1, I1, w1⟩
  refine wpAny_passesOwn hp (thn (hc pins s1 σ1 H1 _ I1 (turn n σ1 H1 w1)) fun b s2 ⟨H2, I2, q2⟩ => ?_)
  cases b with
  | true =>
    obtain ⟨N, hN, q2⟩ := q2
    rw [if_pos rfl]
    refine wpAny_passesOwn hp (thn (hb pins s2 σ1 H2 _ I2 q2) fun f s3 q3 => ?_)
    cases f with
    | next =>
      obtain ⟨σ3, H3, I3, n3⟩ := q3
      obtain ⟨m', hm, w3⟩ := hN σ3 H3 n3
      exact ⟨m', hm, σ3, H3, I3, w3⟩
    | cont =>
      obtain ⟨σ3, H3, I3, n3⟩ := q3
      obtain ⟨m', hm, w3⟩ := hN σ3 H3 n3
      exact ⟨m', hm, σ3, H3, I3, w3⟩
    | brk => exact q3
    | ret v => exact q3
  | false =>
    rw [if_neg Bool.false_ne_true]
    exact wpAny_execs_nil ⟨σ1, H2, I2, q2⟩
end
structure It where
  go : Nat → Hp → Prop
  yld : Nat → Hp → V → Hp → Prop
  stop : Nat → Hp → Prop
noncomputable def FpOk (X : Cx) (pins : List (Addr × Obj)) (H : Hp) (b : Addr) : Prop :=
  H b = none ∧ b ≠ X.env.locals ∧ b ∉ X.fs ∧ (b ∈ X.ex ∨ X.s_0.heap.objs.size ≤ b) ∧ (∀ x c, X.env.cells.lookup x = some c → c ≠ b) ∧ ∀ p ∈ X.pn ++ pins, p.1 ≠ b
theorem Inv.fpOk {X : Cx} {pins : List (Addr × Obj)} {σ : St} {H H' : Hp} {s : Shared} {b : Addr} (I : Inv X pins σ H s) (hb : s.heap.objs.size ≤ b) (hn : H' b = none) : FpOk X pins H' b := by
  refine ⟨hn, Nat.ne_of_gt (Nat.lt_of_lt_of_le I.lt hb), I.nofs hb, .inr (Nat.le_trans I.sz hb), fun x c e z => ?_, fun p hp z => ?_⟩
  · obtain ⟨v, q⟩ := I.cell x c e
    exact absurd (Nat.lt_of_lt_of_le q.lt (by rw [z]; exact hb)) (Nat.lt_irrefl _)
  · exact absurd (Nat.lt_of_lt_of_le (Heap.lt_size (I.pin p hp).1) (by rw [z]; exact hb)) (Nat.lt_irrefl _)
structure Turn (P : Program) (w : World) (K : PySem.W.Frag) (tg : Expr) (J : It) (fp : List Addr) (it : Addr) (tn : Nat → Heap → Prop) : Prop where
  mem : it ∈ fp
  obj : ∀ i h, tn i h → ∀ b ∈ fp, ∃ o, h.get? b = some o ∧ ∀ v, o.data ≠ .cell v
  keep : ∀ i h h', tn i h → (∀ b ∈ fp, ∀ o, h.get? b = some o → h'.get? b = some o) → tn i h'
  item : ∀ (X : Cx), X.prog = P → X.w = w → X.K = K → X.calm = true → ∀ (i : Nat) (pins : List (Addr × Obj)) (s : Shared) (σ : St) (H : Hp) (E : Value → Shared → Prop), Inv X pins σ H s → (∀ b ∈ fp, FpOk X pins H b) → tn i s.heap → J.go i H →
    wpAny (model P w) X.A (pyNext (.ref it)) (fun r s1 => ∃ u, r = some u ∧
      wpAny (model P w) X.A (letOwnedTupleGo tg (.ref it) u) (fun _ s2 => ∃ x H', Inv X pins σ H' s2 ∧ RelV x u ∧ J.yld i H x H' ∧ tn (i + 1) s2.heap ∧ ∀ b ∈ fp, H' b = none) E s1) E s
  done : ∀ (X : Cx), X.prog = P → X.w = w → X.K = K → X.calm = true → ∀ (i : Nat) (pins : List (Addr × Obj)) (s : Shared) (σ : St) (H : Hp) (E : Value → Shared → Prop), Inv X pins σ H s → (∀ b ∈ fp, FpOk X pins H b) → tn i s.heap → J.stop i H →
    wpAny (model P w) X.A (pyNext (.ref it)) (fun r s1 => r = none ∧ Inv X pins σ H s1) E s
  self : ∀ (A : Around) (i : Nat) (s : Shared) (Q : Value → Shared → Prop) (E : Value → Shared → Prop), tn i s.heap → Q (.ref it) s → wpAny (model P w) A (pyIter (.ref it)) Q E s
noncomputable abbrev TI := St → Hp → (It → Hp → Prop) → Prop
noncomputable def PIE (X : Cx) (pins : List (Addr × Obj)) (σ : St) (tg : Expr) (R : It → Hp → Prop) (itv : Value) (s2 : Shared) : Prop :=
  ∃ (it : Addr) (fp : List Addr) (tn : Nat → Heap → Prop) (J : It) (H' : Hp), itv = .ref it ∧ Inv X pins σ H' s2 ∧ Turn X.prog X.w X.K tg J fp it tn ∧ tn 0 s2.heap ∧ (∀ b ∈ fp, FpOk X pins H' b) ∧ R J H'
noncomputable def PI (X : Cx) (tg iter : Expr) (wi : TI) : Prop :=
  ∀ (pins : List (Addr × Obj)) (s : Shared) (σ : St) (H : Hp) (R : It → Hp → Prop), Inv X pins σ H s → wi σ H R →
    wpAny (model X.prog X.w) X.A (eval iter X.env) (fun v s1 => wpAny (model X.prog X.w) X.A (pyIter v) (PIE X pins σ tg R) X.xe s1) X.xe s
theorem go_of {M : Model} {A : Around} {E : Value → Shared → Prop} {s : Shared} {tg : Expr} {it : Addr} {u : Value} {o : Obj} {n : String} {vs : Array Value} {Q : Unit → Shared → Prop} (ho : s.heap.get? it = some o) (hc : o.cls = .type n) (hd : o.data = .fields vs)
    (hn : ["enumerate", "zip", "dict_itemiterator", "dict_reverseitemiterator", "odict_iterator", "itertools.zip_longest", "itertools.pairwise"].contains n = false) (hQ : Q () s) : wpAny M A (letOwnedTupleGo tg (.ref it) u) Q E s := by
  unfold letOwnedTupleGo
  cases tg <;> first
    | exact wpAny_pure hQ
    | (cases u <;> first
        | exact wpAny_pure hQ
        | (refine wpAny_bind (wpAny_load ho ?_)
           rw [hc, hd]
           show wpAny M A (if (["enumerate", "zip", "dict_itemiterator", "dict_reverseitemiterator", "odict_iterator", "itertools.zip_longest", "itertools.pairwise"].contains n && vs[0]? == some (rawInt _)) = true then _ else _) Q E s
           rw [if_neg (by intro h; rw [hn, Bool.false_and] at h; cases h)]
           exact wpAny_pure hQ))
noncomputable def Itl (K : PySem.W.Frag) (a : Addr) : It :=
  ⟨fun i H => ∃ xs x, SqL K H a xs ∧ xs[i]? = some x, fun i H x H' => H' = H ∧ ∀ xs, SqL K H a xs → xs[i]? = some x, fun i H => ∃ xs, SqL K H a xs ∧ xs.length ≤ i⟩
noncomputable def Itt (K : PySem.W.Frag) (a : Addr) : It :=
  ⟨fun i H => ∃ xs x, SqT K H a xs ∧ xs[i]? = some x, fun i H x H' => H' = H ∧ ∀ xs, SqT K H a xs → xs[i]? = some x, fun i H => ∃ xs, SqT K H a xs ∧ xs.length ≤ i⟩
noncomputable def Itr (lo : Int) (n : Nat) : It := ⟨fun i _ => i < n, fun i H x H' => H' = H ∧ x = .int (lo + i), fun i _ => n ≤ i⟩
theorem turn_list {P : Program} {w : World} {K : PySem.W.Frag} {tg : Expr} (a it : Addr) : Turn P w K tg (Itl K a) [it] it (fun i h => h.IsListIter it a i) where
  mem := by simp
  obj := fun i h st b hb => by
    have e : b = it := by simpa using hb
    subst e
    obtain ⟨o, e, c, d⟩ := st
    exact ⟨o, e, fun v z => by rw [d] at z; cases z⟩
  keep := fun i h h' st k => st.at fun o e => k it (by simp) o e
  item := by
    intro X hP hw hK hc i pins s σ H E I hf st hg
    subst hP hw hK
    obtain ⟨xs, x, hq, hx⟩ := hg
    obtain ⟨its, rv, p, hz⟩ := I.list hq
    obtain ⟨u, hu, ru⟩ := rv.get hx
    obtain ⟨f0, f1, f2, f3, f4, f5⟩ := hf it (by simp)
    refine wpAny_pyNext_list_item st p.isList (x := u) (by simpa using hu) fun h' st' sb => ?_
    have I1 : Inv X pins σ H { s with heap := h' } := I.turned (t' := s.toks) (fun b o hb e => (sb.2 b hb).trans e) f0 f1 f3 f4 f5
    obtain ⟨o, e, c, d⟩ := id st'
    exact ⟨u, rfl, go_of (s := { s with heap := h' }) e c d (by decide) ⟨x, H, I1, ru, ⟨rfl, fun ys hy => by rw [I.list_inj hy hq]; exact hx⟩, st', fun b hb => (hf b hb).1⟩⟩
  done := by
    intro X hP hw hK hc i pins s σ H E I hf st hg
    subst hP hw hK
    obtain ⟨xs, hq, hx⟩ := hg
    obtain ⟨its, rv, p, hz⟩ := I.list hq
    obtain ⟨f0, f1, f2, f3, f4, f5⟩ := hf it (by simp)
    have hl := rv.length
    exact wpAny_pyNext_list_end (I.ok.hd hc) st p.isList (by simp; omega) fun h' eb => ⟨rfl, I.turned (t' := s.toks) (fun b o hb e => eb b o hb e) f0 f1 f3 f4 f5⟩
  self := fun _ _ _ _ _ st h => wpAny_pyIter_listiter st h
theorem turn_tuple {P : Program} {w : World} {K : PySem.W.Frag} {tg : Expr} (a it : Addr) : Turn P w K tg (Itt K a) [it] it (fun i h => h.IsTupleIter it a i) where
  mem := by simp
  obj := fun i h st b hb => by
    have e : b = it := by simpa using hb
    subst e
    obtain ⟨o, e, c, d⟩ := st
    exact ⟨o, e, fun v z => by rw [d] at z; cases z⟩
  keep := fun i h h' st k => st.at fun o e => k it (by simp) o e
  item := by
    intro X hP hw hK hc i pins s σ H E I hf st hg
    subst hP hw hK
    obtain ⟨xs, x, hq, hx⟩ := hg
    obtain ⟨its, rv, p, hz⟩ := I.tuple hq
    obtain ⟨u, hu, ru⟩ := rv.get hx
    obtain ⟨f0, f1, f2, f3, f4, f5⟩ := hf it (by simp)
    refine wpAny_pyNext_tuple_item st (show s.heap.IsTuple a its.toArray from p) (x := u) (by simpa using hu) fun h' st' sb => ?_
    have I1 : Inv X pins σ H { s with heap := h' } := I.turned (t' := s.toks) (fun b o hb e => (sb.2 b hb).trans e) f0 f1 f3 f4 f5
    obtain ⟨o, e, c, d⟩ := id st'
    exact ⟨u, rfl, go_of (s := { s with heap := h' }) e c d (by decide) ⟨x, H, I1, ru, ⟨rfl, fun ys hy => by rw [I.tuple_inj hy hq]; exact hx⟩, st', fun b hb => (hf b hb).1⟩⟩
  done := by
    intro X hP hw hK hc i pins s σ H E I hf st hg
    subst hP hw hK
    obtain ⟨xs, hq, hx⟩ := hg
    obtain ⟨its, rv, p, hz⟩ := I.tuple hq
    obtain ⟨f0, f1, f2, f3, f4, f5⟩ := hf it (by simp)
    have hl := rv.length
    exact wpAny_pyNext_tuple_end (I.ok.hd hc) st (show s.heap.IsTuple a its.toArray from p) (by simp; omega) fun h' eb => ⟨rfl, I.turned (t' := s.toks) (fun b o hb e => eb b o hb e) f0 f1 f3 f4 f5⟩
  self := fun _ _ _ _ _ st h => wpAny_pyIter_tupleiter st h
theorem turn_range {P : Program} {w : World} {K : PySem.W.Frag} {tg : Expr} (it : Addr) (lo : Int) (n : Nat) : Turn P w K tg (Itr lo n) [it] it (fun i h => IsRangeIter h it (lo + (i : Nat) * 1) ((n : Int) - (i : Nat)) 1) where
  mem := by simp
  obj := fun i h st b hb => by
    have e : b = it := by simpa using hb
    subst e
    exact ⟨_, st, fun v z => by
      have z' : Data.fields _ = Data.cell v := z
      cases z'⟩
  keep := fun i h h' st k => k it (by simp) _ st
  item := by
    intro X hP hw hK hc i pins s σ H E I hf st hg
    subst hP hw hK
    obtain ⟨f0, f1, f2, f3, f4, f5⟩ := hf it (by simp)
    have W := Walks.range (prog := X.prog) (w := X.w) (I.ok.hd hc) it lo 1 n
    refine W.item i s _ _ hg st fun v h' tk hv st' kk => ?_
    obtain ⟨t, rfl⟩ := hv
    have I1 : Inv X pins σ H { s with heap := h', toks := tk } := I.turned (fun b o hb e => kk b o (by simpa using hb) e) f0 f1 f3 f4 f5
    refine ⟨_, rfl, go_of (s := { s with heap := h', toks := tk }) (n := "range_iterator") st' rfl rfl (by decide) ⟨.int (lo + i), H, I1, ⟨t, ?_⟩, ⟨rfl, rfl⟩, st', fun b hb => (hf b hb).1⟩⟩
    rw [Int.mul_one]
  done := by
    intro X hP hw hK hc i pins s σ H E I hf st hg
    subst hP hw hK
    obtain ⟨f0, f1, f2, f3, f4, f5⟩ := hf it (by simp)
    exact wpAny_pyNext_range_end (I.ok.hd hc) st (by have : n ≤ i := hg; omega) fun h' eb => ⟨rfl, I.turned (t' := s.toks) (fun b o hb e => eb b o hb e) f0 f1 f3 f4 f5⟩
  self := fun _ _ _ _ _ st h => wpAny_pyIter_rangeiter st h
end L2
namespace L2
open PySem PySem.Spec PyProof.Rows
section
variable {X : Cx} {tg : Expr}
noncomputable def iList (K : PySem.W.Frag) (tl : TE) : TI := fun σ H R => tl σ H fun x H1 => ∃ a, x = .ref a ∧ (∃ xs, SqL K H1 a xs) ∧ R (Itl K a) H1
noncomputable def iTup (K : PySem.W.Frag) (tl : TE) : TI := fun σ H R => tl σ H fun x H1 => ∃ a, x = .ref a ∧ (∃ xs, SqT K H1 a xs) ∧ R (Itt K a) H1
theorem pi_list {l : Expr} {tl : TE} (hl : PE X l tl) : PI X tg l (iList X.K tl) := by
  intro pins s σ H R I h
  refine thn (hl pins s σ H _ I h) fun v s1 ⟨x, H1, I1, r1, q1⟩ => ?_
  obtain ⟨a, e, ⟨xs, hq⟩, q⟩ := q1
  subst e
  cases r1
  obtain ⟨its, rv, p, hz⟩ := I1.list hq
  refine wpAny_pyIter_list p.isList ?_
  refine ⟨s1.heap.objs.size, [s1.heap.objs.size], _, _, H1, rfl, I1.kept (t' := s1.toks) fun b o e => Heap.get?_push_of_some _ e, turn_list a _, ⟨_, Heap.get?_push_size _ rfl, rfl, rfl⟩, fun b hb => ?_, q⟩
  have e : b = s1.heap.objs.size := by simpa using hb
  subst e
  exact I1.fpOk (Nat.le_refl _) (I1.hok.fresh (Nat.le_refl _))
theorem pi_tup {l : Expr} {tl : TE} (hl : PE X l tl) : PI X tg l (iTup X.K tl) := by
  intro pins s σ H R I h
  refine thn (hl pins s σ H _ I h) fun v s1 ⟨x, H1, I1, r1, q1⟩ => ?_
  obtain ⟨a, e, ⟨xs, hq⟩, q⟩ := q1
  subst e
  cases r1
  obtain ⟨its, rv, p, hz⟩ := I1.tuple hq
  refine wpAny_pyIter_tuple (show s1.heap.IsTuple a its.toArray from p) ?_
  refine ⟨s1.heap.objs.size, [s1.heap.objs.size], _, _, H1, rfl, I1.kept (t' := s1.toks) fun b o e => Heap.get?_push_of_some _ e, turn_tuple a _, ⟨_, Heap.get?_push_size _ rfl, rfl, rfl⟩, fun b hb => ?_, q⟩
  have e : b = s1.heap.objs.size := by simpa using hb
  subst e
  exact I1.fpOk (Nat.le_refl _) (I1.hok.fresh (Nat.le_refl _))
theorem range_it {pins : List (Addr × Obj)} {σ : St} {H : Hp} {s : Shared} {R : It → Hp → Prop} {E : Value → Shared → Prop} {lo hi : Int} {t u v : Tok} {tk : Nat} (I : Inv X pins σ H s) (h1 : -(2 ^ 62) ≤ lo) (h2 : lo < 2 ^ 62) (h3 : -(2 ^ 62) ≤ hi) (h4 : hi < 2 ^ 62)
    (q : R (Itr lo (hi - lo).toNat) H) : wpAny (model X.prog X.w) X.A (pyIter (.ref s.heap.objs.size)) (PIE X pins σ tg R) E { s with heap := s.heap.push { cls := .type "range", data := .fields #[.int lo t, .int hi u, .int 1 v] }, toks := tk } := by
  refine wpAny_pyIter_range (IsRange.new ..) (small_one h1 h2 h3 h4) ?_
  have I1 : Inv X pins σ H { s with heap := s.heap.push { cls := .type "range", data := .fields #[.int lo t, .int hi u, .int 1 v] }, toks := tk } := I.kept fun b o e => Heap.get?_push_of_some _ e
  refine ⟨(s.heap.push { cls := .type "range", data := .fields #[.int lo t, .int hi u, .int 1 v] }).objs.size, [(s.heap.push { cls := .type "range", data := .fields #[.int lo t, .int hi u, .int 1 v] }).objs.size], _, _, H, rfl,
    I1.kept (t' := tk) fun b o e => Heap.get?_push_of_some _ e, turn_range _ lo (hi - lo).toNat, ?_, fun b hb => ?_, q⟩
  · have e1 : lo + ((0 : Nat) : Int) * 1 = lo := by simp
    have e2 : (((hi - lo).toNat : Nat) : Int) - ((0 : Nat) : Int) = Builtin.Range.rangeSize lo hi 1 := by rw [rangeSize_one]; split <;> omega
    show IsRangeIter _ _ (lo + ((0 : Nat) : Int) * 1) ((((hi - lo).toNat : Nat) : Int) - ((0 : Nat) : Int)) 1
    rw [e1, e2]
    exact Heap.get?_push_size _ rfl
  · have e : b = (s.heap.push { cls := .type "range", data := .fields #[.int lo t, .int hi u, .int 1 v] }).objs.size := by simpa using hb
    subst e
    exact I1.fpOk (Nat.le_refl _) (I1.hok.fresh (Nat.le_refl _))
noncomputable def iRng1 (ta : TA) : TI := fun σ H R => ta σ H fun vs H1 => ∃ j : Int, vs = [.int j] ∧ -(2 ^ 62) ≤ j ∧ j < 2 ^ 62 ∧ R (Itr 0 j.toNat) H1
theorem pi_range1 {a : Expr} {ta : TA} {p pos : Pos} (hg : Gl X "range") (hm : X.mg "range" = none) (ha : PA X [a] ta) (hs : starEach [a] X.env = [(false, eval a X.env)] := by rfl) : PI X tg (.Call (.Name "range" p) [a] [] pos) (iRng1 ta) := by
  intro pins s σ H R I h
  refine Call_ (ld_blt I hg hm boot_range (PyProof.Rows.callWith_type1 (thn (ha pos pins s σ H _ I h) fun us s1 ⟨vs, H1, I1, r1, q1⟩ => ?_) hs rfl))
  obtain ⟨j, e, q1, q2, q⟩ := q1
  subst e
  cases r1 with
  | cons r rr =>
    cases rr
    obtain ⟨t, rfl⟩ := r
    exact call_range_1 (range_it I1 (by omega) (by omega) q1 q2 (by simpa using q))
noncomputable def tFor (wi : TI) (g : TG) (tb : TS) : TS := fun D σ H => wi σ H fun J H1 => ∃ W : Nat → Nat → St → Hp → Prop, (∃ m, W 0 m σ H1) ∧ ∀ i m σ H, W i m σ H →
  (J.stop i H ∧ D.nx σ H) ∨ (J.go i H ∧ ∃ N : St → Hp → Prop, (∀ σ' H', N σ' H' → ∃ m', m' < m ∧ W (i + 1) m' σ' H') ∧ ∀ x H', J.yld i H x H' → g x σ H' fun σ2 H2 => tb { D with nx := N, ct := N, bk := D.nx } σ2 H2)
noncomputable def pinsAt (fp : List Addr) (h : Heap) : List (Addr × Obj) := fp.filterMap fun b => (h.get? b).map fun o => (b, o)
theorem mem_pinsAt {fp : List Addr} {h : Heap} {b : Addr} {o : Obj} (hb : b ∈ fp) (e : h.get? b = some o) : (b, o) ∈ pinsAt fp h := List.mem_filterMap.mpr ⟨b, hb, by rw [e]; rfl⟩
theorem of_pinsAt {fp : List Addr} {h : Heap} {p : Addr × Obj} (hp : p ∈ pinsAt fp h) : p.1 ∈ fp ∧ h.get? p.1 = some p.2 := by
  obtain ⟨b, hb, e⟩ := List.mem_filterMap.mp hp
  cases q : h.get? b with
  | none => rw [q] at e; cases e
  | some o =>
    rw [q] at e
    have e' : (b, o) = p := Option.some.inj e
    subst e'
    exact ⟨hb, q⟩
theorem Inv.pinned {pins : List (Addr × Obj)} {σ : St} {H : Hp} {s : Shared} {fp : List Addr} (I : Inv X pins σ H s) (hf : ∀ b ∈ fp, FpOk X pins H b) (ho : ∀ b ∈ fp, ∃ o, s.heap.get? b = some o ∧ ∀ v, o.data ≠ .cell v) : Inv X (pins ++ pinsAt fp s.heap) σ H s :=
  I.pins_of fun p hp => (List.mem_append.mp hp).elim (fun z => I.pin p (List.mem_append_right _ z)) fun z => by
    obtain ⟨hb, e⟩ := of_pinsAt z
    obtain ⟨f0, f1, f2, _⟩ := hf p.1 hb
    obtain ⟨o, e', d⟩ := ho p.1 hb
    rw [e] at e'; cases e'
    exact ⟨e, f0, f1, f2, d⟩
theorem Inv.unpinned {pins pl : List (Addr × Obj)} {σ : St} {H : Hp} {s : Shared} (I : Inv X (pins ++ pl) σ H s) : Inv X pins σ H s := I.pins_of fun p hp => I.pin p (List.mem_append_right _ (List.mem_append_left _ hp))
theorem ps_for {iter : Expr} {body : List Stmt} {wi : TI} {g : TG} {tb : TS} {pos : Pos} (hp : PassesOwn (model X.prog X.w) X.A X.env X.xe) (hc : X.calm = true) (hi : PI X tg iter wi) (hg : PG X tg g) (hb : PSs X body tb)
    (hs : ∀ x, foldedSetIterable iter X.env x = pure x := by intro _; rfl) : PS X (.For tg iter body [] pos) (tFor wi g tb) := by
  intro pins s σ H D I h
  refine wpAny_For (thn (hi pins s σ H _ I h) fun v s1 h1 => thn h1 fun itv s2 h2 => ?_) hs
  obtain ⟨it, fp, tn, J, H2, e, I2, T, st2, f2, W, ⟨m0, w0⟩, turn⟩ := h2
  subst e
  -- what stays true of the iterator's objects through the loop
  have stat : ∀ {H' : Hp}, (∀ b ∈ fp, H' b = none) → ∀ b ∈ fp, FpOk X pins H' b := fun hn b hb => ⟨hn b hb, (f2 b hb).2⟩
  refine codeAny_forLoop_any (fun n s' => ∃ i σ' H', Inv X pins σ' H' s' ∧ tn i s'.heap ∧ (∀ b ∈ fp, H' b = none) ∧ W i n σ' H') ?_ m0 ⟨0, σ, H2, I2, st2, fun b hb => (f2 b hb).1, w0⟩
  rintro n s3 ⟨i, σ3, H3, I3, st3, fr3, w3⟩
  rcases turn i n σ3 H3 w3 with ⟨stop, qn⟩ | ⟨go, N, hN, step⟩
  · refine wpAny_passesOwn hp (thn (T.done X rfl rfl rfl hc i pins s3 σ3 H3 X.xe I3 (stat fr3) st3 stop) fun r s4 ⟨hr, I4⟩ => ?_)
    subst hr
    exact wpAny_execs_nil ⟨σ3, H3, I4, qn⟩
  · refine wpAny_passesOwn hp (thn (T.item X rfl rfl rfl hc i pins s3 σ3 H3 X.xe I3 (stat fr3) st3 go) fun r s4 ⟨u, hr, h4⟩ => ?_)
    subst hr
    refine wpAny_passesOwn hp (thn h4 fun _ s5 ⟨x, H5, I5, r5, y5, st5, fr5⟩ => ?_)
    have I5' := I5.pinned (stat fr5) (T.obj _ _ st5)
    refine wpAny_passesOwn hp (thn (hg _ s5 σ3 H5 x u _ I5' r5 (step x H5 y5)) fun _ s6 ⟨σ6, H6, I6, q6⟩ => ?_)
    refine wpAny_passesOwn hp (thn (hb _ s6 σ6 H6 _ I6 q6) fun f s7 q7 => ?_)
    have again : ∀ {σ7 : St} {H7 : Hp}, Inv X (pins ++ pinsAt fp s5.heap) σ7 H7 s7 → N σ7 H7 → ∃ m, m < n ∧ ∃ i σ' H', Inv X pins σ' H' s7 ∧ tn i s7.heap ∧ (∀ b ∈ fp, H' b = none) ∧ W i m σ' H' := fun {σ7 H7} I7 n7 => by
      obtain ⟨m', hm, w7⟩ := hN σ7 H7 n7
      refine ⟨m', hm, i + 1, σ7, H7, I7.unpinned, T.keep _ _ _ st5 fun b hb o e => (I7.pin (b, o) (List.mem_append_right _ (List.mem_append_right _ (mem_pinsAt hb e)))).1, fun b hb => ?_, w7⟩
      obtain ⟨o, e, d⟩ := T.obj _ _ st5 b hb
      exact (I7.pin (b, o) (List.mem_append_right _ (List.mem_append_right _ (mem_pinsAt hb e)))).2.1
    cases f with
    | next => obtain ⟨σ7, H7, I7, n7⟩ := q7; exact again I7 n7
    | cont => obtain ⟨σ7, H7, I7, n7⟩ := q7; exact again I7 n7
    | brk => obtain ⟨σ7, H7, I7, q7⟩ := q7; exact ⟨σ7, H7, I7.unpinned, q7⟩
    | ret v => obtain ⟨x7, σ7, H7, I7, r7, q7⟩ := q7; exact ⟨x7, σ7, H7, I7.unpinned, r7, q7⟩
end
theorem for_list {K : PySem.W.Frag} {a : Addr} {xs : List V} {g : TG} {tb : TS} {D : Ends} {σ : St} {H : Hp} (Pv : Nat → St → Hp → Prop) (h0 : Pv 0 σ H) (hl : ∀ i σ H, i ≤ xs.length → Pv i σ H → SqL K H a xs)
    (hs : ∀ i x σ H, xs[i]? = some x → Pv i σ H → g x σ H fun σ2 H2 => tb { D with nx := Pv (i + 1), ct := Pv (i + 1), bk := D.nx } σ2 H2) (hd : ∀ σ H, Pv xs.length σ H → D.nx σ H) :
    ∃ W : Nat → Nat → St → Hp → Prop, (∃ m, W 0 m σ H) ∧ ∀ i m σ H, W i m σ H →
      ((Itl K a).stop i H ∧ D.nx σ H) ∨ ((Itl K a).go i H ∧ ∃ N : St → Hp → Prop, (∀ σ' H', N σ' H' → ∃ m', m' < m ∧ W (i + 1) m' σ' H') ∧ ∀ x H', (Itl K a).yld i H x H' → g x σ H' fun σ2 H2 => tb { D with nx := N, ct := N, bk := D.nx } σ2 H2) := by
  refine ⟨fun i m σ H => m = xs.length - i ∧ i ≤ xs.length ∧ Pv i σ H, ⟨xs.length, by simp, Nat.zero_le _, h0⟩, ?_⟩
  rintro i m σ H ⟨rfl, hi, p⟩
  have q := hl i σ H hi p
  by_cases hlt : i < xs.length
  · refine .inr ⟨⟨xs, xs[i], q, by simp [hlt]⟩, Pv (i + 1), fun σ' H' p' => ⟨xs.length - (i + 1), by omega, rfl, hlt, p'⟩, fun x H' y => ?_⟩
    obtain ⟨e, y⟩ := y
    subst e
    exact hs i x σ _ (y xs q) p
  · have e : i = xs.length := by omega
    subst e
    exact .inl ⟨⟨xs, q, Nat.le_refl _⟩, hd σ H p⟩
theorem for_tup {K : PySem.W.Frag} {a : Addr} {xs : List V} {g : TG} {tb : TS} {D : Ends} {σ : St} {H : Hp} (Pv : Nat → St → Hp → Prop) (h0 : Pv 0 σ H) (hl : ∀ i σ H, i ≤ xs.length → Pv i σ H → SqT K H a xs)
    (hs : ∀ i x σ H, xs[i]? = some x → Pv i σ H → g x σ H fun σ2 H2 => tb { D with nx := Pv (i + 1), ct := Pv (i + 1), bk := D.nx } σ2 H2) (hd : ∀ σ H, Pv xs.length σ H → D.nx σ H) :
    ∃ W : Nat → Nat → St → Hp → Prop, (∃ m, W 0 m σ H) ∧ ∀ i m σ H, W i m σ H →
      ((Itt K a).stop i H ∧ D.nx σ H) ∨ ((Itt K a).go i H ∧ ∃ N : St → Hp → Prop, (∀ σ' H', N σ' H' → ∃ m', m' < m ∧ W (i + 1) m' σ' H') ∧ ∀ x H', (Itt K a).yld i H x H' → g x σ H' fun σ2 H2 => tb { D with nx := N, ct := N, bk := D.nx } σ2 H2) := by
  refine ⟨fun i m σ H => m = xs.length - i ∧ i ≤ xs.length ∧ Pv i σ H, ⟨xs.length, by simp, Nat.zero_le _, h0⟩, ?_⟩
  rintro i m σ H ⟨rfl, hi, p⟩
  have q := hl i σ H hi p
  by_cases hlt : i < xs.length
  · refine .inr ⟨⟨xs, xs[i], q, by simp [hlt]⟩, Pv (i + 1), fun σ' H' p' => ⟨xs.length - (i + 1), by omega, rfl, hlt, p'⟩, fun x H' y => ?_⟩
    obtain ⟨e, y⟩ := y
    subst e
    exact hs i x σ _ (y xs q) p
  · have e : i = xs.length := by omega
    subst e
    exact .inl ⟨⟨xs, q, Nat.le_refl _⟩, hd σ H p⟩
theorem for_range {lo : Int} {n : Nat} {g : TG} {tb : TS} {D : Ends} {σ : St} {H : Hp} (Pv : Nat → St → Hp → Prop) (h0 : Pv 0 σ H)
    (hs : ∀ i σ H, i < n → Pv i σ H → g (.int (lo + i)) σ H fun σ2 H2 => tb { D with nx := Pv (i + 1), ct := Pv (i + 1), bk := D.nx } σ2 H2) (hd : ∀ σ H, Pv n σ H → D.nx σ H) :
    ∃ W : Nat → Nat → St → Hp → Prop, (∃ m, W 0 m σ H) ∧ ∀ i m σ H, W i m σ H →
      ((Itr lo n).stop i H ∧ D.nx σ H) ∨ ((Itr lo n).go i H ∧ ∃ N : St → Hp → Prop, (∀ σ' H', N σ' H' → ∃ m', m' < m ∧ W (i + 1) m' σ' H') ∧ ∀ x H', (Itr lo n).yld i H x H' → g x σ H' fun σ2 H2 => tb { D with nx := N, ct := N, bk := D.nx } σ2 H2) := by
  refine ⟨fun i m σ H => m = n - i ∧ i ≤ n ∧ Pv i σ H, ⟨n, by simp, Nat.zero_le _, h0⟩, ?_⟩
  rintro i m σ H ⟨rfl, hi, p⟩
  by_cases hlt : i < n
  · refine .inr ⟨hlt, Pv (i + 1), fun σ' H' p' => ⟨n - (i + 1), by omega, rfl, hlt, p'⟩, fun x H' y => ?_⟩
    obtain ⟨e, y⟩ := y
    subst e y
    exact hs i σ _ hlt p
  · have e : i = n := by omega
    subst e
    exact .inl ⟨Nat.le_refl _, hd σ H p⟩
theorem while_by {c : TT} {tb : TS} {D : Ends} {σ : St} {H : Hp} (Pv : St → Hp → Prop) (μ : St → Hp → Nat) (h0 : Pv σ H)
    (hs : ∀ σ H, Pv σ H → c σ H fun b H1 => if b = true then tb { D with nx := fun σ' H' => Pv σ' H' ∧ μ σ' H' < μ σ H, ct := fun σ' H' => Pv σ' H' ∧ μ σ' H' < μ σ H, bk := D.nx } σ H1 else D.nx σ H1)
    (mono : ∀ σ H Q Q', (∀ b H1, Q b H1 → Q' b H1) → c σ H Q → c σ H Q') : tWhile c tb D σ H := by
  refine ⟨fun m σ H => m = μ σ H ∧ Pv σ H, ⟨_, rfl, h0⟩, ?_⟩
  rintro m σ H ⟨rfl, p⟩
  refine mono σ H _ _ (fun b H1 q => ?_) (hs σ H p)
  cases b with
  | true => exact ⟨_, fun σ' H' ⟨p', l⟩ => ⟨_, l, rfl, p'⟩, q⟩
  | false => exact q
end L2
namespace L2
open PySem PySem.Spec PyProof.Rows
noncomputable abbrev R2 := V → V → Hp → VK → Prop
noncomputable def OpR (X : Cx) (f : Value → Value → Sem Value) (r : R2) : Prop :=
  ∀ (pins : List (Addr × Obj)) (s : Shared) (σ : St) (H : Hp) (x y : V) (v u : Value) (Q : VK), Inv X pins σ H s → RelV x v → RelV y u → r x y H Q →
    wpAny (model X.prog X.w) X.A (f v u) (EP X pins σ Q) X.xe s
noncomputable def UnR (X : Cx) (f : Value → Sem Value) (r : V → Hp → VK → Prop) : Prop :=
  ∀ (pins : List (Addr × Obj)) (s : Shared) (σ : St) (H : Hp) (x : V) (v : Value) (Q : VK), Inv X pins σ H s → RelV x v → r x H Q →
    wpAny (model X.prog X.w) X.A (f v) (EP X pins σ Q) X.xe s
noncomputable def CallR (X : Cx) (f : Value) (r : List V → Hp → VK → Prop) : Prop :=
  ∀ (pins : List (Addr × Obj)) (s : Shared) (σ : St) (H : Hp) (xs : List V) (us : List Value) (Q : VK), Inv X pins σ H s → Vals xs us → r xs H Q →
    wpAny (model X.prog X.w) X.A (call f us) (EP X pins σ Q) X.xe s
noncomputable def tOp (r : R2) (ta tb : TE) : TE := fun σ H Q => ta σ H fun x H1 => tb σ H1 fun y H2 => r x y H2 Q
noncomputable def tUn (r : V → Hp → VK → Prop) (ta : TE) : TE := fun σ H Q => ta σ H fun x H1 => r x H1 Q
noncomputable def rI (C : Int → Int → Prop) (g : Int → Int → V) : R2 := fun x y H Q => ∃ i j, x = .int i ∧ y = .int j ∧ C i j ∧ Q (g i j) H
noncomputable def rI0 (g : Int → Int → V) : R2 := fun x y H Q => ∃ i j, x = .int i ∧ y = .int j ∧ Q (g i j) H
noncomputable def rU (g : Int → V) : V → Hp → VK → Prop := fun x H Q => ∃ i, x = .int i ∧ Q (g i) H
section
variable {X : Cx} {a b c : Expr} {ta tb tc : TE} {pos : Pos}
theorem binT (ha : PE X a ta) (hb : PE X b tb) {pins : List (Addr × Obj)} {s : Shared} {σ : St} {H : Hp} {R : V → V → Hp → Prop} (I : Inv X pins σ H s)
    (h : ta σ H fun x H1 => tb σ H1 fun y H2 => R x y H2) {Q : Value → Shared → Prop} {f : Value → Value → Sem Value}
    (hf : ∀ v u s2 x y H2, Inv X pins σ H2 s2 → RelV x v → RelV y u → R x y H2 → wpAny (model X.prog X.w) X.A (f v u) Q X.xe s2) :
    wpAny (model X.prog X.w) X.A (eval a X.env) (fun v s₁ => wpAny (model X.prog X.w) X.A (eval b X.env) (fun u s₂ => wpAny (model X.prog X.w) X.A (f v u) Q X.xe s₂) X.xe s₁) X.xe s := by
  refine thn (ha pins s σ H _ I h) fun v s1 ⟨x, H1, I1, r1, q1⟩ => ?_
  refine thn (hb pins s1 σ H1 _ I1 q1) fun u s2 ⟨y, H2, I2, r2, q2⟩ => ?_
  exact hf v u s2 x y H2 I2 r1 r2 q2
theorem pe_op {op : Operator} {r : R2} (ho : OpR X (binaryOp op) r) (ha : PE X a ta) (hb : PE X b tb) : PE X (.BinOp a op b pos) (tOp r ta tb) := by
  intro pins s σ H Q I h
  exact wpAny_BinOp (binT ha hb I h fun v u s2 x y H2 I2 rx ry q => ho pins s2 σ H2 x y v u Q I2 rx ry q)
theorem pe_un {op : UnaryOp} {r : V → Hp → VK → Prop} (ho : UnR X (unaryOp op) r) (ha : PE X a ta) : PE X (.UnaryOp op a pos) (tUn r ta) := by
  intro pins s σ H Q I h
  exact UnaryOp_ (thn (ha pins s σ H _ I h) fun v s1 ⟨x, H1, I1, r1, q1⟩ => ho pins s1 σ H1 x v Q I1 r1 q1)
theorem opI {f : Value → Value → Sem Value} {C : Int → Int → Prop} {g : Int → Int → Int}
    (rule : ∀ (i j : Int) (t u : Tok) (s : Shared) (Q : Value → Shared → Prop) (E : Value → Shared → Prop), C i j → Q (.int (g i j) s.toks) { s with toks := s.toks + 1 } → wpAny (model X.prog X.w) X.A (f (.int i t) (.int j u)) Q E s) :
    OpR X f (rI C fun i j => .int (g i j)) := by
  intro pins s σ H x y v u Q I rx ry h
  obtain ⟨i, j, rfl, rfl, hc, q⟩ := h
  obtain ⟨t, rfl⟩ := rx
  obtain ⟨t', rfl⟩ := ry
  exact rule i j t t' s _ _ hc ⟨.int (g i j), H, I.tok _, ⟨_, rfl⟩, q⟩
theorem opI0 {f : Value → Value → Sem Value} {g : Int → Int → Int}
    (rule : ∀ (i j : Int) (t u : Tok) (s : Shared) (Q : Value → Shared → Prop) (E : Value → Shared → Prop), Q (.int (g i j) s.toks) { s with toks := s.toks + 1 } → wpAny (model X.prog X.w) X.A (f (.int i t) (.int j u)) Q E s) :
    OpR X f (rI0 fun i j => .int (g i j)) := by
  intro pins s σ H x y v u Q I rx ry h
  obtain ⟨i, j, rfl, rfl, q⟩ := h
  obtain ⟨t, rfl⟩ := rx
  obtain ⟨t', rfl⟩ := ry
  exact rule i j t t' s _ _ ⟨.int (g i j), H, I.tok _, ⟨_, rfl⟩, q⟩
theorem opB0 {f : Value → Value → Sem Value} {g : Int → Int → Bool}
    (rule : ∀ (i j : Int) (t u : Tok) (s : Shared) (Q : Value → Shared → Prop) (E : Value → Shared → Prop), Q (.bool (g i j)) s → wpAny (model X.prog X.w) X.A (f (.int i t) (.int j u)) Q E s) :
    OpR X f (rI0 fun i j => .bl (g i j)) := by
  intro pins s σ H x y v u Q I rx ry h
  obtain ⟨i, j, rfl, rfl, q⟩ := h
  obtain ⟨t, rfl⟩ := rx
  obtain ⟨t', rfl⟩ := ry
  exact rule i j t t' s _ _ ⟨.bl (g i j), H, I, rfl, q⟩
noncomputable def CPow (i j : Int) : Prop := 0 ≤ j ∧ j ≤ 1000000 ∧ i.natAbs < 2 ^ 64
noncomputable def CMul (i j : Int) : Prop := (-(2 ^ 64) < i ∧ i < 2 ^ 64) ∨ (-(2 ^ 64) < j ∧ j < 2 ^ 64)
theorem CMul.ok {i j : Int} (h : CMul i j) : IntMulOk i j := by
  rcases h with ⟨h1, h2⟩ | ⟨h1, h2⟩
  · exact .of_left (intBits_le_64 h1 h2)
  · exact .of_right (intBits_le_64 h1 h2)
theorem two_pow_nn (k : Nat) : (0 : Int) ≤ 2 ^ k := by
  rw [two_pow_cast]
  exact Int.natCast_nonneg _
theorem op_add : OpR X (binaryOp .Add) (rI0 fun i j => .int (i + j)) := opI0 fun _ _ _ _ _ _ _ q => add_int q
theorem op_sub : OpR X (binaryOp .Sub) (rI0 fun i j => .int (i - j)) := opI0 fun _ _ _ _ _ _ _ q => sub_int q
theorem op_mul : OpR X (binaryOp .Mult) (rI CMul fun i j => .int (i * j)) := opI fun _ _ _ _ _ _ _ hc q => mul_int q hc.ok
theorem op_mod : OpR X (binaryOp .Mod) (rI (fun _ j => 0 < j) fun i j => .int (i % j)) := opI fun i j _ _ _ _ _ hc q => by
  have h1 : (0 : Int) < j := hc
  exact mod_int' (by omega) (by rw [Int.fmod_eq_emod_of_nonneg i (by omega)]; exact q)
theorem op_shl : OpR X (binaryOp .LShift) (rI CPow fun i j => .int (i * 2 ^ j.toNat)) := opI fun _ _ _ _ _ _ _ hc q => lshift_int_small hc.1 hc.2.1 hc.2.2 q
theorem op_shr : OpR X (binaryOp .RShift) (rI (fun _ j => 0 ≤ j) fun i j => .int (i / 2 ^ j.toNat)) := opI fun i j _ _ _ _ _ hc q =>
  rshift_int hc (by rw [Int.fdiv_eq_ediv_of_nonneg i (two_pow_nn _)]; exact q)
theorem op_and : OpR X (binaryOp .BitAnd) (rI0 fun i j => .int (Builtin.bitAnd i j)) := opI0 fun _ _ _ _ _ _ _ q => and_int q
theorem op_or : OpR X (binaryOp .BitOr) (rI0 fun i j => .int (Builtin.bitOr i j)) := opI0 fun _ _ _ _ _ _ _ q => or_int q
theorem op_xor : OpR X (binaryOp .BitXor) (rI0 fun i j => .int (Builtin.bitXor i j)) := opI0 fun _ _ _ _ _ _ _ q => xor_int q
theorem unI {f : Value → Sem Value} {g : Int → Int}
    (rule : ∀ (i : Int) (t : Tok) (s : Shared) (Q : Value → Shared → Prop) (E : Value → Shared → Prop), Q (.int (g i) s.toks) { s with toks := s.toks + 1 } → wpAny (model X.prog X.w) X.A (f (.int i t)) Q E s) :
    UnR X f (rU fun i => .int (g i)) := by
  intro pins s σ H x v Q I rx h
  obtain ⟨i, rfl, q⟩ := h
  obtain ⟨t, rfl⟩ := rx
  exact rule i t s _ _ ⟨.int (g i), H, I.tok _, ⟨_, rfl⟩, q⟩
theorem un_neg : UnR X (unaryOp .USub) (rU fun i => .int (-i)) := unI fun _ _ _ _ _ q => neg_int q
end
noncomputable def scal : V → V → Bool
  | .non, .non => true | .non, .int _ => true | .int _, .non => true | .non, .bl _ => true | .bl _, .non => true | .non, .str _ => true | .str _, .non => true
  | .int _, .int _ => true | .bl _, .bl _ => true | .str _, .str _ => true | .byt _, .byt _ => true
  | .int _, .str _ => true | .str _, .int _ => true | .bl _, .str _ => true | .str _, .bl _ => true
  | _, _ => false
noncomputable def rEq : R2 := fun x y H Q => scal x y = true ∧ Q (.bl (decide (x = y))) H
noncomputable def rNe : R2 := fun x y H Q => scal x y = true ∧ Q (.bl (!decide (x = y))) H
theorem dec_int {i j : Int} : decide (V.int i = V.int j) = (i == j) := by
  rw [Bool.eq_iff_iff]
  simp
theorem dec_bl {i j : Bool} : decide (V.bl i = V.bl j) = (i == j) := by
  rw [Bool.eq_iff_iff]
  simp
theorem dec_str {i j : Str} : decide (V.str i = V.str j) = (i == j) := by
  rw [Bool.eq_iff_iff]
  simp
theorem dec_byt {i j : Array UInt8} : decide (V.byt i = V.byt j) = (i.toList == j.toList) := by
  rw [Bool.eq_iff_iff]
  cases i
  cases j
  simp
section
variable {X : Cx} {a b c : Expr} {ta tb tc : TE} {pos : Pos}
theorem fin_bl {pins : List (Addr × Obj)} {σ : St} {H : Hp} {s : Shared} {Q : VK} {k k' : Bool} (I : Inv X pins σ H s) (q : Q (.bl k) H) (e : k = k') : EP X pins σ Q (.bool k') s := by
  subst e
  exact ⟨.bl k, H, I, rfl, q⟩
theorem op_eq : OpR X (compareOp .Eq) rEq := by
  intro pins s σ H x y v u Q I rx ry h
  obtain ⟨hs, q⟩ := h
  cases x with
  | non =>
    cases rx
    cases y with
    | non => cases ry; exact PySem.EqNone.eq_none_none (fin_bl I q (by simp))
    | bl j => cases ry; exact PySem.EqNone.eq_none_bool (fin_bl I q (by simp))
    | int j => obtain ⟨t', rfl⟩ := ry; exact PySem.EqNone.eq_none_int (fin_bl I q (by simp))
    | str j => obtain ⟨t', rfl⟩ := ry; exact PySem.EqNone.eq_none_str (fin_bl I q (by simp))
    | _ => exact absurd (show false = true from hs) Bool.false_ne_true
  | bl i =>
    cases rx
    cases y with
    | non => cases ry; exact PySem.EqNone.eq_bool_none (fin_bl I q (by simp))
    | bl j => cases ry; exact eq_bool (fin_bl I q dec_bl)
    | str j => obtain ⟨t', rfl⟩ := ry; exact PySem.EqMixed.eq_bool_str (fin_bl I q (by simp))
    | _ => exact absurd (show false = true from hs) Bool.false_ne_true
  | int i =>
    obtain ⟨t, rfl⟩ := rx
    cases y with
    | non => cases ry; exact PySem.EqNone.eq_int_none (fin_bl I q (by simp))
    | int j => obtain ⟨t', rfl⟩ := ry; exact eq_int (fin_bl I q dec_int)
    | str j => obtain ⟨t', rfl⟩ := ry; exact PySem.EqMixed.eq_int_str (fin_bl I q (by simp))
    | _ => exact absurd (show false = true from hs) Bool.false_ne_true
  | str i =>
    obtain ⟨t, rfl⟩ := rx
    cases y with
    | non => cases ry; exact PySem.EqNone.eq_str_none (fin_bl I q (by simp))
    | bl j => cases ry; exact PySem.EqMixed.eq_str_bool (fin_bl I q (by simp))
    | int j => obtain ⟨t', rfl⟩ := ry; exact PySem.EqMixed.eq_str_int (fin_bl I q (by simp))
    | str j => obtain ⟨t', rfl⟩ := ry; exact eq_str (fin_bl I q dec_str)
    | _ => exact absurd (show false = true from hs) Bool.false_ne_true
  | byt i =>
    obtain ⟨t, rfl⟩ := rx
    cases y with
    | byt j => obtain ⟨t', rfl⟩ := ry; exact PySem.W.eq_bytes (fin_bl I q dec_byt)
    | _ => exact absurd (show false = true from hs) Bool.false_ne_true
  | _ => cases y <;> exact absurd (show false = true from hs) Bool.false_ne_true
theorem op_ne : OpR X (compareOp .NotEq) rNe := by
  intro pins s σ H x y v u Q I rx ry h
  obtain ⟨hs, q⟩ := h
  cases x with
  | non =>
    cases rx
    cases y with
    | non => cases ry; exact PySem.EqNone.ne_none_none (fin_bl I q (by simp))
    | bl j => cases ry; exact PySem.EqNone.ne_none_bool (fin_bl I q (by simp))
    | int j => obtain ⟨t', rfl⟩ := ry; exact PySem.EqNone.ne_none_int (fin_bl I q (by simp))
    | str j => obtain ⟨t', rfl⟩ := ry; exact PySem.EqNone.ne_none_str (fin_bl I q (by simp))
    | _ => exact absurd (show false = true from hs) Bool.false_ne_true
  | bl i =>
    cases rx
    cases y with
    | non => cases ry; exact PySem.EqNone.ne_bool_none (fin_bl I q (by simp))
    | bl j => cases ry; exact ne_bool (fin_bl I q (congrArg not dec_bl))
    | str j => obtain ⟨t', rfl⟩ := ry; exact PySem.EqMixed.ne_bool_str (fin_bl I q (by simp))
    | _ => exact absurd (show false = true from hs) Bool.false_ne_true
  | int i =>
    obtain ⟨t, rfl⟩ := rx
    cases y with
    | non => cases ry; exact PySem.EqNone.ne_int_none (fin_bl I q (by simp))
    | int j => obtain ⟨t', rfl⟩ := ry; exact ne_int (fin_bl I q (congrArg not dec_int))
    | str j => obtain ⟨t', rfl⟩ := ry; exact PySem.EqMixed.ne_int_str (fin_bl I q (by simp))
    | _ => exact absurd (show false = true from hs) Bool.false_ne_true
  | str i =>
    obtain ⟨t, rfl⟩ := rx
    cases y with
    | non => cases ry; exact PySem.EqNone.ne_str_none (fin_bl I q (by simp))
    | bl j => cases ry; exact PySem.EqMixed.ne_str_bool (fin_bl I q (by simp))
    | int j => obtain ⟨t', rfl⟩ := ry; exact PySem.EqMixed.ne_str_int (fin_bl I q (by simp))
    | str j => obtain ⟨t', rfl⟩ := ry; exact ne_str (fin_bl I q (congrArg not dec_str))
    | _ => exact absurd (show false = true from hs) Bool.false_ne_true
  | byt i =>
    obtain ⟨t, rfl⟩ := rx
    cases y with
    | byt j => obtain ⟨t', rfl⟩ := ry; exact PySem.W.ne_bytes (fin_bl I q (congrArg not dec_byt))
    | _ => exact absurd (show false = true from hs) Bool.false_ne_true
  | _ => cases y <;> exact absurd (show false = true from hs) Bool.false_ne_true
theorem op_lt : OpR X (compareOp .Lt) (rI0 fun i j => .bl (decide (i < j))) := opB0 fun _ _ _ _ _ _ _ q => lt_int q
theorem op_le : OpR X (compareOp .LtE) (rI0 fun i j => .bl (decide (i ≤ j))) := opB0 fun _ _ _ _ _ _ _ q => le_int q
theorem op_gt : OpR X (compareOp .Gt) (rI0 fun i j => .bl (decide (j < i))) := opB0 fun _ _ _ _ _ _ _ q => gt_int q
theorem op_ge : OpR X (compareOp .GtE) (rI0 fun i j => .bl (decide (j ≤ i))) := opB0 fun _ _ _ _ _ _ _ q => ge_int q
theorem nomark (b : Expr) {op : CmpOp} (h : op ≠ .In := by decide) (h2 : op ≠ .NotIn := by decide) : behindInMarks op b = false := by
  have e1 : (op == CmpOp.In) = false := by cases op <;> first | rfl | exact absurd rfl h
  have e2 : (op == CmpOp.NotIn) = false := by cases op <;> first | rfl | exact absurd rfl h2
  cases b <;> simp [behindInMarks, e1, e2]
theorem pe_cmpR {op : CmpOp} {r : R2} (ho : OpR X (compareOp op) r) (ha : PE X a ta) (hb : PE X b tb) (hm : behindInMarks op b = false) : PE X (.Compare a [op] [b] pos) (tOp r ta tb) := by
  intro pins s σ H Q I h
  exact wpAny_Compare1 (binT ha hb I h fun v u s2 x y H2 I2 rx ry q => ho pins s2 σ H2 x y v u Q I2 rx ry q) hm
noncomputable def tTest (t : TE) : TT := fun σ H Q => t σ H fun x H' => ∃ k, x = .bl k ∧ Q k H'
theorem pt_cmpR {op : CmpOp} {r : R2} (ho : OpR X (compareOp op) r) (ha : PE X a ta) (hb : PE X b tb) (hm : behindInMarks op b = false) : PT X (.Compare a [op] [b] pos) (tTest (tOp r ta tb)) := by
  intro pins s σ H Q I h
  refine wpAny_isTrue_Compare1 (thn (ha pins s σ H _ I h) fun v s1 ⟨x, H1, I1, r1, q1⟩ => thn (hb pins s1 σ H1 _ I1 q1) fun u s2 ⟨y, H2, I2, r2, q2⟩ =>
    thn (ho pins s2 σ H2 x y v u _ I2 r1 r2 q2) fun c s3 ⟨z, H3, I3, r3, k, e, q3⟩ => ?_) hm
  subst e
  cases r3
  exact wpAny_truthy_bool ⟨H3, I3, q3⟩
noncomputable def tChain (r r' : R2) (ta tb tc : TE) : TE := fun σ H Q => ta σ H fun x H1 => tb σ H1 fun y H2 => r x y H2 fun z H3 => ∃ k, z = .bl k ∧
  (if k = true then tc σ H3 fun w' H4 => r' y w' H4 Q else Q (.bl false) H3)
theorem pe_chain {op op' : CmpOp} {r r' : R2} (ho : OpR X (compareOp op) r) (ho' : OpR X (compareOp op') r') (ha : PE X a ta) (hb : PE X b tb) (hc : PE X c tc)
    (hm : lastMarks [op, op'] [b, c] = false := by with_unfolding_all rfl) : PE X (.Compare a [op, op'] [b, c] pos) (tChain r r' ta tb tc) := by
  intro pins s σ H Q I h
  refine Compare_chain (thn (ha pins s σ H _ I h) fun v s1 ⟨x, H1, I1, r1, q1⟩ => chain_link (thn (hb pins s1 σ H1 _ I1 q1) fun u s2 ⟨y, H2, I2, r2, q2⟩ =>
    thn (ho pins s2 σ H2 x y v u _ I2 r1 r2 q2) fun d s3 ⟨z, H3, I3, r3, k, e, q3⟩ => ?_)) hm
  subst e
  cases r3
  refine wpAny_truthy_bool ?_
  cases k with
  | false => exact ite_ff ⟨.bl false, H3, I3, rfl, q3⟩
  | true => exact ite_tt (chain_last (thn (hc pins s3 σ H3 _ I3 q3) fun w' s4 ⟨z', H4, I4, r4, q4⟩ => ho' pins s4 σ H4 y z' u w' Q I4 r2 r4 q4))
theorem pt_chain {op op' : CmpOp} {r r' : R2} (ho : OpR X (compareOp op) r) (ho' : OpR X (compareOp op') r') (ha : PE X a ta) (hb : PE X b tb) (hc : PE X c tc)
    (hm : lastMarks [op, op'] [b, c] = false := by with_unfolding_all rfl) : PT X (.Compare a [op, op'] [b, c] pos) (tTest (tChain r r' ta tb tc)) := by
  intro pins s σ H Q I h
  refine isTrue_chain (thn (ha pins s σ H _ I h) fun v s1 ⟨x, H1, I1, r1, q1⟩ => test_link (thn (hb pins s1 σ H1 _ I1 q1) fun u s2 ⟨y, H2, I2, r2, q2⟩ =>
    thn (ho pins s2 σ H2 x y v u _ I2 r1 r2 q2) fun d s3 ⟨z, H3, I3, r3, k, e, q3⟩ => ?_)) hm
  subst e
  cases r3
  refine wpAny_truthy_bool ?_
  cases k with
  | false =>
    obtain ⟨k', e', q'⟩ := q3
    cases e'
    exact ite_ff ⟨H3, I3, q'⟩
  | true =>
    refine ite_tt (test_last (thn (hc pins s3 σ H3 _ I3 q3) fun w' s4 ⟨z', H4, I4, r4, q4⟩ => thn (ho' pins s4 σ H4 y z' u w' _ I4 r2 r4 q4) fun d' s5 ⟨z2, H5, I5, r5, k2, e2, q5⟩ => ?_))
    subst e2
    cases r5
    exact wpAny_truthy_bool ⟨H5, I5, q5⟩
theorem line63 : (sizeLine : Nat) < 2 ^ 63 := by rw [sizeLine_eq]; decide
theorem vals1 {x : V} {us : List Value} (r : Vals [x] us) : ∃ u, us = [u] ∧ RelV x u := by
  cases r with
  | cons r1 r2 => cases r2; exact ⟨_, rfl, r1⟩
end
end L2
namespace L2
open PySem PySem.Spec PyProof.Rows
structure ObjM (h : Heap) (x dx C : Addr) (mA : Str → Option Value) : Prop where
  obj : h.get? x = some (PySem.W.instObj C dx)
  ns : h.Ns1 dx mA
  ne : dx ≠ x
theorem lookIn_ns {h : Heap} {dx : Addr} {mA : Str → Option Value} (n : h.Ns1 dx mA) : ∃ od, h.get? dx = some od ∧ ∀ name, PySem.W.lookIn name od = some (mA name) := by
  obtain ⟨o, es, ep, ho, hd, hk, _, hm⟩ := n
  refine ⟨o, ho, fun name => ?_⟩
  have e := hm name
  unfold nsFind findBy at e
  rw [← Array.find?_toList] at e
  unfold PySem.W.lookIn
  rw [hd]
  dsimp only
  split
  · rename_i y q
    rw [q] at e
    exact congrArg some e
  · rename_i q
    rw [q] at e
    have a : es.toList.any (·.refKey) = false := by
      rw [List.any_eq_false]
      intro y hy
      obtain ⟨z, t, hkey⟩ := hk y (Array.mem_toList_iff.mp hy)
      simp [DictEntry.refKey, hkey]
    have a' : ¬ es.toList.any (·.refKey) = true := by rw [a]; exact Bool.false_ne_true
    rw [if_neg a']
    exact congrArg some e
theorem ObjM.look {h : Heap} {x dx C : Addr} {mA : Str → Option Value} (I : ObjM h x dx C mA) : ∃ od, PySem.W.InstAt h x (PySem.W.instObj C dx) C (some od) ∧ ∀ name, PySem.W.lookIn name od = some (mA name) :=
  let ⟨od, ho, hl⟩ := lookIn_ns I.ns
  ⟨od, ⟨I.obj, rfl, rfl, ho⟩, hl⟩
section
variable {prog : Program} {w : World} {A : Around} {E : Value → Shared → Prop} {s : Shared} {K : PySem.W.Frag} {x dx C f : Addr} {mA : Str → Option Value} {name : Str} {v : Value}
theorem get_map {expr : Bool} {Q : Value → Shared → Prop} (X : K.In s.heap) (I : ObjM s.heap x dx C mA) (hg : PySem.W.plainGet K C name = true) (hh : PySem.W.hasDictIn K C = true)
    (ha : PySem.W.findIn K (.ref C) name = some none) (hv : mA name = some v) (hv' : PySem.W.handedIn v = true) (h : Q v { s with toks := s.toks + 1 }) :
    wpAny (model prog w) A (getAttr (.ref x) name expr) Q E s := by
  obtain ⟨od, J, hl⟩ := I.look
  exact PySem.W.get_value X J (PySem.W.plainGet_of hg).1 (PySem.W.findObj_own hh ha rfl (by rw [hl, hv])) hv' h
theorem get_meth {pl : Sem Bool} {Q : Value × List Value → Shared → Prop} (X : K.In s.heap) (I : ObjM s.heap x dx C mA) (hg : PySem.W.plainGet K C name = true)
    (hf : PySem.W.findIn K (.ref C) name = some (some (.ref f))) (ht : PySem.W.isFn K (.ref f) = true) (hv : mA name = none) (h : Q (.ref f, [.ref x]) s) :
    wpAny (model prog w) A (getMethod (.ref x) name pl) Q E s := by
  obtain ⟨od, J, hl⟩ := I.look
  exact PySem.W.method_fn X J (PySem.W.plainGet_of hg).1 (PySem.W.plainGet_of hg).2 hf (beq_iff_eq.mp ht) (by show (PySem.W.lookIn name od).map (·.isSome) = some false; rw [hl, hv]; rfl) h
theorem set_map {ns : List Str} {Q : Unit → Shared → Prop} (X : K.In s.heap) (I : ObjM s.heap x dx C mA)
    (hs : PySem.W.findIn K (.ref C) "__setattr__" = some (some (.builtin "object.__setattr__"))) (hp : PySem.W.plainOver K C = true) (ht : PySem.W.takerIn K C name = some none) (hh : PySem.W.hasDictIn K C = true)
    (hw : PySem.Within mA ns) (hsz : ns.length ≤ sizeLine)
    (h : ∀ h', ObjM h' x dx C (fun y => if y = name then some v else mA y) → Heap.SameBut dx s.heap h' → Q () { s with heap := h', toks := s.toks + 2 }) :
    wpAny (model prog w) A (setAttr (.ref x) name v) Q E s := by
  obtain ⟨od, J, hl⟩ := I.look
  refine PySem.W.set_plain X J hs (PySem.W.osa_open (s := { s with toks := s.toks + 1 }) (r := none) X J hp ht fun b => ?_)
  obtain ⟨cd, hc, hd'⟩ := PySem.W.any_some hh
  have hx : s.heap.get? x = some ⟨.ref C, some dx, .plain, #[]⟩ := I.obj
  refine wpAny_bind (wpAny_pure (wpAny_bind (wpAny_bind (wpAny_loadPart hx (wpAny_bind (PySem.W.Looks.here (s := { s with toks := s.toks + 1 }) (PySem.W.looks_clsIn X hc) ?_))))))
  rw [hd']
  refine wpAny_pure (a := some dx) (wpAny_bind (wpAny_pure (wpAny_bind ?_)))
  refine wpAny_nsSet1 (s := { s with toks := s.toks + 1 }) I.ns fun h' hn2 hs2 => ?_
  obtain ⟨oD, esD, epD, hoD, hdD, hcD⟩ := hn2.count (PySem.Within.cons name v hw)
  refine wpAny_bind (wpAny_lookBehind hoD (by rw [hdD]; exact pastItsLine_dict (Nat.le_trans hcD (by rw [List.length_cons]; omega))) ?_)
  exact wpAny_pure (h _ ⟨(hs2.2 _ (Ne.symm I.ne)).trans I.obj, hn2, I.ne⟩ hs2)
theorem make_map {R : Result → Shared → Prop} {vs : List Value} {kw : List (Str × Value)} (X : K.In s.heap) (hm : PySem.W.makesIn K C = true)
    (hi : PySem.W.findIn K (.ref C) "__init__" = some (some (.ref f))) (hf : PySem.W.typeIn K (.ref f) = some (.type "function"))
    (h : codeAny (model prog w) (A.under (.builtin "type.__call__" ⟨.ref C :: vs, kw⟩)) (.call (.ref f) ⟨.ref (s.heap.objs.size + 1) :: vs, kw⟩) (PySem.W.InitBack (s.heap.objs.size + 1) R)
      { s with heap := (s.heap.push PySem.W.emptyDict).push (PySem.W.instObj C s.heap.objs.size) }) :
    codeAny (model prog w) A (.call (.ref C) ⟨vs, kw⟩) R s := by
  obtain ⟨hh, g, d, t, os⟩ := s
  exact PySem.W.make_core (PySem.W.makes_of X hm) (PySem.W.looks_findIn X hi) (fun self => PySem.W.bind_fn X self hf) (.inl rfl) h
end
noncomputable def putF (f : Str) (v : V) : List (Str × V) → List (Str × V)
  | [] => [(f, v)]
  | (g, x) :: r => if g = f then (g, v) :: r else (g, x) :: putF f v r
theorem lookup_putF (f g : Str) (v : V) : ∀ fs : List (Str × V), (putF f v fs).lookup g = if g = f then some v else fs.lookup g
  | [] => by
    show List.lookup g [(f, v)] = _
    by_cases h : g = f
    · have hb : (g == f) = true := beq_iff_eq.mpr h
      simp only [List.lookup, hb, if_pos h]
    · have hb : (g == f) = false := beq_eq_false_iff_ne.mpr h
      simp only [List.lookup, hb, if_neg h]
  | (k, x) :: r => by
    have ih := lookup_putF f g v r
    rw [show putF f v ((k, x) :: r) = (if k = f then (k, v) :: r else (k, x) :: putF f v r) from rfl]
    by_cases hk : k = f
    · rw [if_pos hk]
      by_cases h : g = k
      · have hb : (g == k) = true := beq_iff_eq.mpr h
        simp only [List.lookup, hb, if_pos (h.trans hk)]
      · have hb : (g == k) = false := beq_eq_false_iff_ne.mpr h
        simp only [List.lookup, hb, if_neg (fun e : g = f => h (e.trans hk.symm))]
    · rw [if_neg hk]
      by_cases h : g = k
      · have hb : (g == k) = true := beq_iff_eq.mpr h
        simp only [List.lookup, hb, if_neg (fun e : g = f => hk (h.symm.trans e))]
      · have hb : (g == k) = false := beq_eq_false_iff_ne.mpr h
        simp only [List.lookup, hb]
        exact ih
theorem keys_putF (f : Str) (v : V) : ∀ fs : List (Str × V), f ∈ (putF f v fs).map (·.1) ∧ ∀ g, g ∈ fs.map (·.1) → g ∈ (putF f v fs).map (·.1)
  | [] => ⟨by simp [putF], fun g h => by simp at h⟩
  | (k, x) :: r => by
    obtain ⟨i1, i2⟩ := keys_putF f v r
    rw [show putF f v ((k, x) :: r) = (if k = f then (k, v) :: r else (k, x) :: putF f v r) from rfl]
    by_cases hk : k = f
    · rw [if_pos hk]
      subst hk
      exact ⟨by simp, fun g h => by simpa using h⟩
    · rw [if_neg hk]
      refine ⟨?_, fun g h => ?_⟩
      · rw [List.map_cons]
        exact List.mem_cons_of_mem _ i1
      · rw [List.map_cons] at h ⊢
        rcases List.mem_cons.mp h with e | e
        · exact List.mem_cons.mpr (.inl e)
        · exact List.mem_cons_of_mem _ (i2 g e)
theorem length_putF (f : Str) (v : V) : ∀ fs : List (Str × V), (putF f v fs).length ≤ fs.length + 1
  | [] => by simp [putF]
  | (k, x) :: r => by
    have ih := length_putF f v r
    rw [show putF f v ((k, x) :: r) = (if k = f then (k, v) :: r else (k, x) :: putF f v r) from rfl]
    by_cases hk : k = f
    · rw [if_pos hk, List.length_cons, List.length_cons]; omega
    · rw [if_neg hk, List.length_cons, List.length_cons]; omega
theorem RelO.some_of {v : V} {o : Option Value} (r : RelO (some v) o) : ∃ u, o = some u ∧ RelV v u := by
  cases o with
  | none => exact (show False from r).elim
  | some u => exact ⟨u, rfl, r⟩
theorem RelO.none_of {o : Option Value} (r : RelO none o) : o = none := by
  cases o with
  | none => rfl
  | some u => exact (show False from r).elim
theorem handed_of {v : V} {u : Value} (r : RelV v u) : PySem.W.handedIn u = true := by
  cases v with
  | non => cases (show u = Value.none from r); rfl
  | bl b => cases (show u = Value.bool b from r); rfl
  | int i => obtain ⟨t, e⟩ := (show ∃ t, u = Value.int i t from r); cases e; rfl
  | str x => obtain ⟨t, e⟩ := (show ∃ t, u = Value.str x t from r); cases e; rfl
  | byt b => obtain ⟨t, e⟩ := (show ∃ t, u = Value.bytes b t from r); cases e; rfl
  | flt b => obtain ⟨t, e⟩ := (show ∃ t, u = Value.float b t from r); cases e; rfl
  | ref a => cases (show u = Value.ref a from r); rfl
  | ty n => cases (show u = Value.type n from r); rfl
section
variable {P : Program} {w : World} {H H' : Hp} {h h' : Heap} {a C dx : Addr} {fs fs' : List (Str × V)}
theorem ins_get (hok : HOk P w H h) (e : H a = some (.ins C dx fs)) : ∃ mA, ObjM h a dx C mA ∧ (∀ f, RelO (fs.lookup f) (mA f)) ∧ PySem.Within mA (fs.map (·.1)) ∧ fs.length ≤ 1000 ∧ H dx = some (.own a) := by
  obtain ⟨d, z, ne, ob, mA, n, r, q⟩ := (show ObjOk P w H h a (.ins C dx fs) from hok a _ e)
  exact ⟨mA, ⟨ob, n, ne⟩, r, q, z, d⟩
end
structure Cls (K : PySem.W.Frag) (C : Addr) : Prop where
  pg : PySem.W.plainGet K C Str.empty = true
  hd : PySem.W.hasDictIn K C = true
  po : PySem.W.plainOver K C = true
  sa : PySem.W.findIn K (.ref C) "__setattr__" = some (some (.builtin "object.__setattr__"))
theorem Cls.get {K : PySem.W.Frag} {C : Addr} (c : Cls K C) (f : Str) : PySem.W.plainGet K C f = true := c.pg
noncomputable def NoAttr (K : PySem.W.Frag) (C : Addr) (f : Str) : Prop := PySem.W.findIn K (.ref C) f = some none
theorem NoAttr.taker {K : PySem.W.Frag} {C : Addr} {f : Str} (n : NoAttr K C f) : PySem.W.takerIn K C f = some none := by
  unfold PySem.W.takerIn
  rw [show PySem.W.findIn K (.ref C) f = some none from n]
  rfl
structure Con (K : PySem.W.Frag) (C : Addr) (f : Str) (v : V) (u : Value) : Prop where
  at_ : PySem.W.findIn K (.ref C) f = some (some u)
  rel : RelV v u
  get : PySem.W.specialIn K u "__get__" = some none
  cp : PySem.W.copiedNames.contains f = false
structure Meth (K : PySem.W.Frag) (C : Addr) (m : Str) (f : Addr) : Prop where
  at_ : PySem.W.findIn K (.ref C) m = some (some (.ref f))
  fn : PySem.W.isFn K (.ref f) = true
  kp : PySem.W.keepIn K (.ref f) = true
section
variable {X : Cx} {pins : List (Addr × Obj)} {σ : St} {H : Hp} {s : Shared} {a C dx : Addr} {fs : List (Str × V)} {f : Str} {v : V} {A : Around} {E : Value → Shared → Prop}
theorem getattr_ok {b : Bool} {Q : Value → Shared → Prop} (I : Inv X pins σ H s) (e : H a = some (.ins C dx fs)) (c : Cls X.K C) (n : NoAttr X.K C f) (l : fs.lookup f = some v)
    (h : ∀ u s', Inv X pins σ H s' → RelV v u → Q u s') : wpAny (model X.prog X.w) A (getAttr (.ref a) f b) Q E s := by
  obtain ⟨mA, O, r, _, _, _⟩ := ins_get I.hok e
  obtain ⟨u, hu, ru⟩ := RelO.some_of (v := v) (o := mA f) (by rw [← l]; exact r f)
  exact get_map I.kIn O (c.get f) c.hd n hu (handed_of ru) (h u _ (I.tok _) ru)
theorem getmeth_ok {m : Str} {g : Addr} {pl : Sem Bool} {Q : Value × List Value → Shared → Prop} (I : Inv X pins σ H s) (e : H a = some (.ins C dx fs)) (c : Cls X.K C) (k : Meth X.K C m g) (l : fs.lookup m = none)
    (h : Q (.ref g, [.ref a]) s) : wpAny (model X.prog X.w) A (getMethod (.ref a) m pl) Q E s := by
  obtain ⟨mA, O, r, _, _, _⟩ := ins_get I.hok e
  have hn : mA m = none := RelO.none_of (by rw [← l]; exact r m)
  exact get_meth I.kIn O (c.get m) k.at_ k.fn hn h
theorem setattr_ok {y : V} {u : Value} {Q : Unit → Shared → Prop} (I : Inv X pins σ H s) (e : H a = some (.ins C dx fs)) (c : Cls X.K C) (n : NoAttr X.K C f) (hl : fs.length < 1000) (ry : RelV y u)
    (h : ∀ s', Inv X pins σ (upd H a (.ins C dx (putF f y fs))) s' → Q () s') : wpAny (model X.prog X.w) A (setAttr (.ref a) f u) Q E s := by
  obtain ⟨mA, O, r, wi, _, ho⟩ := ins_get I.hok e
  have hz : (fs.map (·.1)).length ≤ sizeLine := by rw [List.length_map, sizeLine_eq]; omega
  refine set_map I.kIn O c.sa c.po n.taker c.hd wi hz fun h' O' sb => h _ ?_
  have hd : ∃ o, h'.get? dx = some o := let ⟨o, _, _, e', _⟩ := O'.ns; ⟨o, e'⟩
  refine I.write (x := a) (e := dx) (by rw [e]; exact True.intro) (.inr ho) (fun b q hb z => (sb.2 b hb).trans z) hd ?_
  refine ⟨by rw [upd_ne O.ne]; exact ho, ?_, O.ne, O'.obj, _, O'.ns, fun g => ?_, fun g hg => ?_⟩
  · have := length_putF f y fs; omega
  · show RelO ((putF f y fs).lookup g) (if g = f then some u else mA g)
    rw [lookup_putF]
    by_cases q : g = f
    · rw [if_pos q, if_pos q]; exact ry
    · rw [if_neg q, if_neg q]; exact r g
  · by_cases q : g = f
    · rw [q]; exact (keys_putF f y fs).1
    · refine (keys_putF f y fs).2 g (wi g fun z => hg ?_)
      show (if g = f then some u else mA g) = none
      rw [if_neg q]; exact z
theorem Inv.made (I : Inv X pins σ H s) : Inv X pins σ (upd (upd H s.heap.objs.size (.own (s.heap.objs.size + 1))) (s.heap.objs.size + 1) (.ins C s.heap.objs.size []))
    { s with heap := (s.heap.push PySem.W.emptyDict).push (PySem.W.instObj C s.heap.objs.size) } := by
  have e1 : (s.heap.push PySem.W.emptyDict).get? s.heap.objs.size = some PySem.W.emptyDict := Heap.get?_push_size s.heap rfl
  have e2 : ((s.heap.push PySem.W.emptyDict).push (PySem.W.instObj C s.heap.objs.size)).get? (s.heap.objs.size + 1) = some (PySem.W.instObj C s.heap.objs.size) := by
    have := Heap.get?_push_size (s.heap.push PySem.W.emptyDict) (o := PySem.W.instObj C s.heap.objs.size) rfl
    rwa [Heap.size_push] at this
  have e3 : (s.heap.push PySem.W.emptyDict).Ns s.heap.objs.size (fun _ => none) := ⟨PySem.W.emptyDict, #[], _, e1, rfl, (fun e he => absurd he (by simp)), fun _ => rfl⟩
  have I1 := I.laid (a := s.heap.objs.size) (o := .own (s.heap.objs.size + 1)) (h' := s.heap.push PySem.W.emptyDict) (t' := s.toks) (fun b u q => Heap.get?_push_of_some _ q) (Nat.le_refl _) ⟨_, e1⟩
  refine I1.laid (a := s.heap.objs.size + 1) (o := .ins C s.heap.objs.size []) (t' := s.toks) (fun b u q => Heap.get?_push_of_some _ q) (Nat.le_of_eq (Heap.size_push _ _)) ?_
  have ne : s.heap.objs.size ≠ s.heap.objs.size + 1 := Nat.ne_of_lt (Nat.lt_succ_self _)
  refine ⟨by rw [upd_ne ne, upd_same], Nat.zero_le _, ne, e2, fun _ => none, (Heap.Ns1.of_empty e3).at fun o q => Heap.get?_push_of_some _ q, fun _ => True.intro, fun y hy => absurd rfl hy⟩
theorem attr_of {prog : Program} {w : World} {env : Env} {e : Expr} {f : Str} {pos : Pos} {s : Shared} {Q : Value → Shared → Prop} (hb : attributeBase e f env (eval e env) = eval e env)
    (h : wpAny (model prog w) A (eval e env) (fun o s₁ => wpAny (model prog w) A (getAttr o f true) Q E s₁) E s) : wpAny (model prog w) A (eval (.Attribute e f pos) env) Q E s :=
  Attribute_any_ h (by rw [arm_eval_Attribute, hb])
end
noncomputable def tFld (K : PySem.W.Frag) (ta : TE) (f : Str) : TE := fun σ H Q => ta σ H fun x H1 => ∃ a C dx fs v, x = .ref a ∧ H1 a = some (.ins C dx fs) ∧ Cls K C ∧ NoAttr K C f ∧ fs.lookup f = some v ∧ Q v H1
noncomputable def sFld (K : PySem.W.Frag) (ta tv : TE) (f : Str) : TS := fun D σ H => tv σ H fun y H1 => ta σ H1 fun x H2 => ∃ a C dx fs, x = .ref a ∧ H2 a = some (.ins C dx fs) ∧ Cls K C ∧ NoAttr K C f ∧ fs.length < 1000 ∧
  D.nx σ (upd H2 a (.ins C dx (putF f y fs)))
section
variable {X : Cx} {o e value : Expr} {f : Str} {pos pos' tpos : Pos} {ta tv : TE}
theorem pe_fld (he : PE X e ta) (hb : attributeBase e f X.env (eval e X.env) = eval e X.env) : PE X (.Attribute e f pos) (tFld X.K ta f) := by
  intro pins s σ H Q I h
  refine attr_of hb (thn (he pins s σ H _ I h) fun u s1 ⟨x, H1, I1, rx, a, C, dx, fs, v, ex, ea, c, n, l, q⟩ => ?_)
  subst ex
  obtain rfl : u = Value.ref a := rx
  exact getattr_ok I1 ea c n l fun u' s2 I2 ru => ⟨v, H1, I2, ru, q⟩
theorem ps_fld (ha : PE X o ta) (hv : PE X value tv) (hs : swapsWith value (some (.Attribute o f pos')) pos.line X.env = pure false) : PS X (.Assign [.Attribute o f pos'] value pos) (sFld X.K ta tv f) := by
  intro pins s σ H D I h
  refine plainObj_wpAny_Assign_Attribute (thn (hv pins s σ H _ I h) fun u s1 ⟨y, H1, I1, ry, q⟩ => thn (ha pins s1 σ H1 _ I1 q) fun ov s2 ⟨x, H2, I2, rx, a, C, dx, fs, ex, ea, c, n, l, q2⟩ => ?_) hs
  subst ex
  obtain rfl : ov = Value.ref a := rx
  exact setattr_ok I2 ea c n l ry fun s3 I3 => ⟨σ, _, I3, q2⟩
end
section
variable {X : Cx} {pins : List (Addr × Obj)} {σ : St} {H : Hp} {s : Shared} {A : Around} {E : Value → Shared → Prop} {Q : Value → Shared → Prop} {c : Value} {b : Bool}
inductive TyOf (K : PySem.W.Frag) (H : Hp) : V → Value → Prop where
  | non : TyOf K H .non (.type "NoneType")
  | bl (x : Bool) : TyOf K H (.bl x) (.type "bool")
  | int (i : Int) : TyOf K H (.int i) (.type "int")
  | str (x : Str) : TyOf K H (.str x) (.type "str")
  | flt (x : UInt64) : TyOf K H (.flt x) (.type "float")
  | lst {a : Addr} {xs : List V} (e : H a = some (.lst xs)) : TyOf K H (.ref a) (.type "list")
  | frz {a : Addr} {o : Obj} {xs : List V} (e : H a = some (.frz o (.lst xs))) : TyOf K H (.ref a) (.type "list")
  | tup {a : Addr} {xs : List V} (e : H a = some (.tup xs)) : TyOf K H (.ref a) (.type "tuple")
  | dK {a : Addr} {kvs : List (Key × V)} (e : H a = some (.dK kvs)) : TyOf K H (.ref a) (.type "dict")
  | dT {a : Addr} {kvs : List (List Key × V)} (e : H a = some (.dT kvs)) : TyOf K H (.ref a) (.type "dict")
  | ins {a C dx : Addr} {fs : List (Str × V)} (e : H a = some (.ins C dx fs)) (cl : Cls K C) (ha : PySem.W.findIn K (.ref C) "__class__" = some (some (.builtin "object.__class__")))
      (hn : PySem.W.specialIn K (.builtin "object.__class__") "__get__" = some (some (.builtin "getset_descriptor.__get__"))) (htk : PySem.W.takesIn K (.builtin "object.__class__") = some true)
      (hm : PySem.W.mroIn K C (.type "object") = some true) : TyOf K H (.ref a) (.ref C)
end
end L2
namespace L2
open PySem PySem.Spec PyProof.Rows
structure Room (k : Nat) (A : Around) : Prop where
  hd : A.handled = none
  dp : A.depth + 3 * k + 5 < recursionLimit
  un : A.units + 16 * k + 200 < cLine
theorem Room.mono {j k : Nat} {A : Around} (r : Room k A) (h : j ≤ k) : Room j A := ⟨r.hd, by have := r.dp; omega, by have := r.un; omega⟩
theorem Room.deeper {k : Nat} {A : Around} (r : Room (k + 1) A) (env : Env) : Room k (A.deeper env) :=
  ⟨r.hd, by have := r.dp; show A.depth + 1 + 3 * k + 5 < _; omega, by have := r.un; show A.units + 3 + 16 * k + 200 < _; omega⟩
theorem make_depth {A : Around} {C : Addr} {us : List Value} {kw : List (Str × Value)} : (A.under (.builtin "type.__call__" ⟨.ref C :: us, kw⟩)).depth = A.depth + 1 := by
  first | rfl | simp [Around.under, Code.weight, Code.isCreation, Code.isGuard, Code.isCaller, Code.frames, Code.isFrame, guardIds]
theorem make_units {A : Around} {C : Addr} {us : List Value} {kw : List (Str × Value)} : (A.under (.builtin "type.__call__" ⟨.ref C :: us, kw⟩)).units = A.units + 1 := by
  first | rfl | simp [Around.under, Code.cUnits, Code.frames, Code.isFrame]
theorem Room.make {k : Nat} {A : Around} (r : Room (k + 1) A) (C : Addr) (us : List Value) (kw : List (Str × Value)) : Room k (A.under (.builtin "type.__call__" ⟨.ref C :: us, kw⟩)) :=
  ⟨r.hd, by have := r.dp; rw [make_depth]; omega, by have := r.un; rw [make_units]; omega⟩
theorem Room.depth {k : Nat} {A : Around} (r : Room k A) : A.depth < recursionLimit := by have := r.dp; omega
theorem Room.units {k : Nat} {A : Around} (r : Room k A) : A.units + 64 < cLine := by have := r.un; omega
noncomputable def tNil : TA := fun _ H Q => Q [] H
noncomputable def tCons (ta : TE) (tr : TA) : TA := fun σ H Q => ta σ H fun x H1 => tr σ H1 fun xs H2 => Q (x :: xs) H2
section
variable {X : Cx} {e : Expr} {es : List Expr} {te : TE} {t : TA} {pos : Pos}
theorem pa_nil : PA X [] tNil := fun _ _ _ _ H Q I h => Calls.spliced_nil ⟨[], H, I, .nil, h⟩
theorem pa_cons (ha : PE X e te) (hr : PA X es t) (hs : starEach (e :: es) X.env = (false, eval e X.env) :: starEach es X.env := by rfl) : PA X (e :: es) (tCons te t) := by
  intro pos pins s σ H Q I h
  rw [hs]
  show wpAny _ _ (spliced ((false, eval e X.env) :: backTo pos (starEach es X.env))) _ _ s
  refine Calls.spliced_cons (thn (ha pins s σ H _ I h) fun u s1 ⟨x, H1, I1, r1, q1⟩ => ?_)
  exact thn (hr pos pins s1 σ H1 _ I1 q1) fun us s2 ⟨xs, H2, I2, r2, q2⟩ => ⟨x :: xs, H2, I2, .cons r1 r2, q2⟩
noncomputable def tTup (t : TA) : TE := fun σ H Q => t σ H fun xs H1 => xs.length ≤ sizeLine ∧ ∀ p, H1 p = none → Q (.ref p) (upd H1 p (.tup xs))
noncomputable def tLst (t : TA) : TE := fun σ H Q => t σ H fun xs H1 => xs.length ≤ sizeLine ∧ ∀ p, H1 p = none → Q (.ref p) (upd H1 p (.lst xs))
theorem pe_tup {x1} (h : PA X es t) : PE X (.Tuple es x1 pos) (tTup t) := by
  intro pins s σ H Q I hq
  refine wpAny_Tuple_spliced (thn (h pos pins s σ H _ I hq) fun us s1 ⟨xs, H1, I1, r, z, q⟩ => ⟨by rw [← r.length]; exact z, ?_⟩)
  have hf : H1 s1.heap.objs.size = none := I1.hok.fresh (Nat.le_refl _)
  refine ⟨.ref s1.heap.objs.size, upd H1 s1.heap.objs.size (.tup xs), I1.laid (t' := s1.toks) (fun b u e => Heap.get?_push_of_some _ e) (Nat.le_refl _) ?_, rfl, q _ hf⟩
  exact ⟨z, us, r, ⟨_, Heap.get?_push_size _ rfl, rfl, _, rfl⟩⟩
theorem pe_lst (h : PA X es t) : PE X (.List es pos) (tLst t) := by
  intro pins s σ H Q I hq
  refine wpAny_List_spliced (thn (h pos pins s σ H _ I hq) fun us s1 ⟨xs, H1, I1, r, z, q⟩ => ⟨by rw [← r.length]; exact z, ?_⟩)
  have hf : H1 s1.heap.objs.size = none := I1.hok.fresh (Nat.le_refl _)
  refine ⟨.ref s1.heap.objs.size, upd H1 s1.heap.objs.size (.lst xs), I1.laid (t' := s1.toks) (fun b u e => Heap.get?_push_of_some _ e) (Nat.le_refl _) ?_, rfl, q _ hf⟩
  exact ⟨z, us, 0, r, Heap.get?_push_size _ rfl⟩
end
noncomputable abbrev Sp := List V → Hp → VK → XK → Prop
noncomputable abbrev CXT := List Env → Hp → Shared → XK → Value → Shared → Prop
structure Env0 (P : Program) (w : World) (K : PySem.W.Frag) (mg : Str → Option Value) (base : Heap) (A : Around) (outer : List Env) (s : Shared) (H : Hp) : Prop where
  frames : A.frames = some outer
  mod : Mod K mg base
  bs : ∀ b o, base.get? b = some o → s.heap.get? b = some o ∧ H b = none
  bsz : base.objs.size ≤ s.heap.objs.size
  funs : s.heap.FunFrames base outer
  frf : ∀ b ∈ frs outer, H b = none
  hok : HOk P w H s.heap
  bare : AllBare s.gens
noncomputable def CE (outer : List Env) (P : Program) (w : World) (H : Hp) (s : Shared) (Q : VK) (u : Value) (s' : Shared) : Prop :=
  ∃ v H', s'.os = s.os ∧ AllBare s'.gens ∧ Un (frs outer) [] H H' s.heap s'.heap ∧ HOk P w H' s'.heap ∧ RelV v u ∧ Q v H'
noncomputable def CR (CX : CXT) (outer : List Env) (P : Program) (w : World) (H : Hp) (s : Shared) (Q : VK) (E : XK) (r : Result) (s' : Shared) : Prop :=
  match r with
  | .ok (.ret u) => CE outer P w H s Q u s'
  | .ok _ => False
  | .error e => CX outer H s E e s'
structure FnOk (P : Program) (w : World) (K : PySem.W.Frag) (mg : Str → Option Value) (base : Heap) (CX : CXT) (k : Nat) (f : Addr) (fd : FuncData) (ps : List Str) (sp : Sp) : Prop where
  len : ∀ vs H Q E, sp vs H Q E → vs.length = ps.length
  run : ∀ (A : Around) (outer : List Env) (s : Shared) (H : Hp) (args : Args) (us : List Value) (vs : List V) (Q : VK) (E : XK), Room k A → Env0 P w K mg base A outer s H → BindsTo s fd args (ps.zip us) → Vals vs us → sp vs H Q E →
    codeAny (model P w) A (.call (.ref f) args) (CR CX outer P w H s Q E) s
theorem FnOk.mono {P : Program} {w : World} {K : PySem.W.Frag} {mg : Str → Option Value} {base : Heap} {CX : CXT} {j k : Nat} {f : Addr} {fd : FuncData} {ps : List Str} {sp : Sp} (F : FnOk P w K mg base CX j f fd ps sp) (h : j ≤ k) :
    FnOk P w K mg base CX k f fd ps sp := ⟨F.len, fun A outer s H args us vs Q E hr => F.run A outer s H args us vs Q E (hr.mono h)⟩
theorem Env0.make {P : Program} {w : World} {K : PySem.W.Frag} {mg : Str → Option Value} {base : Heap} {A : Around} {outer : List Env} {s : Shared} {H : Hp} (e : Env0 P w K mg base A outer s H) (C : Addr) (us : List Value) (kw : List (Str × Value)) :
    Env0 P w K mg base (A.under (.builtin "type.__call__" ⟨.ref C :: us, kw⟩)) outer s H := ⟨by first | exact e.frames | (simpa [Around.under, Code.envs, Code.isFrame, pushEnvs] using e.frames), e.mod, e.bs, e.bsz, e.funs, e.frf, e.hok, e.bare⟩
section
variable {X : Cx} {pins : List (Addr × Obj)} {σ : St} {H : Hp} {s s' : Shared}
theorem Inv.env0 (I : Inv X pins σ H s) : Env0 X.prog X.w X.K X.mg X.base X.A X.stack s H :=
  ⟨I.ok.frames, I.ok.mod, I.bs, Nat.le_trans I.ok.bsz I.sz, I.stack, I.stkFree, I.hok, I.bare⟩
theorem Inv.after {Q : VK} {u : Value} (I : Inv X pins σ H s) (h : CE X.stack X.prog X.w H s Q u s') : EP X pins σ Q u s' := by
  obtain ⟨v, H', os, bare, un, hok, r, q⟩ := h
  obtain ⟨hh, g, d, t, os'⟩ := s'
  obtain rfl : os' = s.os := os
  exact ⟨v, H', I.call (h' := hh) (g' := g) (d' := d) (t' := t) (ch := []) un hok bare (fun b z => absurd z (by simp)), r, q⟩
end
noncomputable def tCall (sp : Sp) (dvs : List V) (E : XK) (t : TA) : TE := fun σ H Q => t σ H fun vs H1 => sp (vs ++ dvs) H1 Q E
noncomputable def tMeth (C : Addr) (m : Str) (sp : Sp) (dvs : List V) (E : XK) (ta : TE) (t : TA) : TE := fun σ H Q => ta σ H fun x H1 => ∃ a dx fs, x = .ref a ∧ H1 a = some (.ins C dx fs) ∧ fs.lookup m = none ∧
  t σ H1 fun vs H2 => sp (x :: (vs ++ dvs)) H2 Q E
noncomputable def tMake (C : Addr) (sp : Sp) (dvs : List V) (E : XK) (t : TA) : TE := fun σ H Q => t σ H fun vs H1 => ∀ x dx, H1 x = none → H1 dx = none → dx ≠ x →
  sp (.ref x :: (vs ++ dvs)) (upd (upd H1 dx (.own x)) x (.ins C dx [])) (fun v H2 => v = .non ∧ Q (.ref x) H2) E
noncomputable def Binds (K : PySem.W.Frag) (fd : FuncData) (ps : List Str) (ds : List Value) : Prop :=
  ∀ (s : Shared) (us : List Value), K.In s.heap → (us ++ ds).length = ps.length → BindsTo s fd ⟨us, []⟩ (ps.zip (us ++ ds))
theorem Binds.all {K : PySem.W.Frag} {fd : FuncData} {ps : List Str} (h : ∀ us : List Value, us.length = ps.length → bindArgs fd ⟨us, []⟩ = pure (ps.zip us)) : Binds K fd ps [] := fun s us _ hl => by
  rw [List.append_nil] at hl ⊢
  exact .of_eq (h us hl)
noncomputable def Passes (CX : CXT) (X : Cx) (E : XK) : Prop := ∀ (pins : List (Addr × Obj)) (σ : St) (H : Hp) (s : Shared) (e : Value) (s' : Shared), Inv X pins σ H s → CX X.stack H s E e s' → X.xe e s'
section
variable {X : Cx} {CX : CXT} {k : Nat} {f C : Addr} {fd : FuncData} {ps : List Str} {sp : Sp} {dvs : List V} {ds : List Value} {E : XK} {x m : Str} {p pos apos : Pos} {e o : Expr} {es : List Expr} {ta : TE} {t : TA}
theorem run_fn {pins : List (Addr × Obj)} {σ : St} {H : Hp} {s : Shared} {Q : VK} {us : List Value} {vs : List V} (F : FnOk X.prog X.w X.K X.mg X.base CX k f fd ps sp) (hr : Room k X.A) (hb : Binds X.K fd ps ds) (hd : Vals dvs ds) (hx : Passes CX X E)
    (I : Inv X pins σ H s) (r : Vals vs us) (h : sp (vs ++ dvs) H Q E) : wpAny (model X.prog X.w) X.A (call (.ref f) us) (EP X pins σ Q) X.xe s := by
  have r2 : Vals (vs ++ dvs) (us ++ ds) := r.append hd
  have hl : (us ++ ds).length = ps.length := by rw [← r2.length]; exact F.len _ _ _ _ h
  refine wpAny_call (codeAny_mono (F.run X.A X.stack s H ⟨us, []⟩ (us ++ ds) (vs ++ dvs) Q E hr I.env0 (hb s us I.kIn hl) r2 h) fun r s' hq => ?_)
  cases r with
  | error e => exact hx pins σ H s e s' I hq
  | ok fl =>
    cases fl with
    | ret u => exact I.after hq
    | next => exact False.elim hq
    | brk => exact False.elim hq
    | cont => exact False.elim hq
theorem pe_call (F : FnOk X.prog X.w X.K X.mg X.base CX k f fd ps sp) (hr : Room k X.A) (hg : Gl X x) (hm : X.mg x = some (.ref f)) (hk : PySem.W.keepIn X.K (.ref f) = true) (hb : Binds X.K fd ps ds) (hd : Vals dvs ds) (hx : Passes CX X E)
    (ha : PA X (e :: es) t) (hdb : (x == ("__debug__" : Str)) = false := by decide) (he : starEach (e :: es) X.env = (false, eval e X.env) :: starEach es X.env := by rfl) (hpl : (backTo pos (starEach es X.env)).any (·.1) = false := by rfl) :
    PE X (.Call (.Name x p) (e :: es) [] pos) (tCall sp dvs E t) := by
  intro pins s σ H Q I h
  refine wpAny_Call_Name_kw (ld_glob I hg hm ?_ hdb)
  refine PySem.W.callWith_K (h₀ := X.base) I.ok.mod.kin hk (thn (ha pos pins s σ H _ I h) fun us s1 ⟨vs, H1, I1, r, q⟩ => ⟨I1.kIn, ?_⟩) he hpl
  exact run_fn F hr hb hd hx I1 r q
theorem pe_meth {pl : Sem Bool} (he : PE X o ta) (c : Cls X.K C) (hm : Meth X.K C m f) (F : FnOk X.prog X.w X.K X.mg X.base CX k f fd ps sp) (hr : Room k X.A) (hb : Binds X.K fd ps ds) (hd : Vals dvs ds) (hx : Passes CX X E) (ha : PA X (e :: es) t)
    (hst : starEach (e :: es) X.env = (false, eval e X.env) :: starEach es X.env := by rfl) (hpl : (backTo pos (starEach es X.env)).any (·.1) = false := by rfl)
    (ht : eval (.Call (.Attribute o m apos) (e :: es) [] pos) X.env = (do
      let ov ← eval o X.env
      standAt apos.atName
      let (f, first) ← holding [ov] (getMethod ov m pl)
      callWith pos f first (backTo pos (starEach (e :: es) X.env)) (backToKw pos (keywordEach [] X.env))) := by rfl) :
    PE X (.Call (.Attribute o m apos) (e :: es) [] pos) (tMeth C m sp dvs E ta t) := by
  intro pins s σ H Q I h
  refine PySem.W.methodCall_KW (pl := pl) (thn (he pins s σ H _ I h) fun u s1 ⟨x, H1, I1, rx, a, dx, fs, ex, ea, l, q⟩ => ?_) ht
  subst ex
  obtain rfl : u = Value.ref a := rx
  refine getmeth_ok I1 ea c hm l ?_
  refine PySem.W.callWith_K (first := [.ref a]) (h₀ := X.base) I.ok.mod.kin hm.kp (thn (ha pos pins s1 σ H1 _ I1 q) fun us s2 ⟨vs, H2, I2, r, q2⟩ => ⟨I2.kIn, ?_⟩) hst hpl
  exact run_fn (us := .ref a :: us) (vs := .ref a :: vs) F hr hb hd hx I2 (.cons rfl r) q2
theorem pe_meth0 {pl : Sem Bool} (he : PE X o ta) (c : Cls X.K C) (hm : Meth X.K C m f) (F : FnOk X.prog X.w X.K X.mg X.base CX k f fd ps sp) (hr : Room k X.A) (hb : Binds X.K fd ps ds) (hd : Vals dvs ds) (hx : Passes CX X E)
    (ht : eval (.Call (.Attribute o m apos) [] [] pos) X.env = (do
      let ov ← eval o X.env
      standAt apos.atName
      let (f, first) ← holding [ov] (getMethod ov m pl)
      callWith pos f first (backTo pos (starEach [] X.env)) (backToKw pos (keywordEach [] X.env))) := by rfl) :
    PE X (.Call (.Attribute o m apos) [] [] pos) (tMeth C m sp dvs E ta tNil) := by
  intro pins s σ H Q I h
  refine PySem.W.methodCall_KW (pl := pl) (thn (he pins s σ H _ I h) fun u s1 ⟨x, H1, I1, rx, a, dx, fs, ex, ea, l, q⟩ => ?_) ht
  subst ex
  obtain rfl : u = Value.ref a := rx
  refine getmeth_ok I1 ea c hm l ?_
  exact PySem.W.callWith_K0 (first := [.ref a]) I1.kIn hm.kp (run_fn (us := [.ref a]) (vs := [.ref a]) F hr hb hd hx I1 (.cons rfl .nil) q)
structure Mk (K : PySem.W.Frag) (C f : Addr) : Prop where
  makes : PySem.W.makesIn K C = true
  init : PySem.W.findIn K (.ref C) "__init__" = some (some (.ref f))
  fn : PySem.W.isFn K (.ref f) = true
  kp : PySem.W.keepIn K (.ref C) = true
theorem run_make {pins : List (Addr × Obj)} {σ : St} {H : Hp} {s : Shared} {Q : VK} {us : List Value} {vs : List V} (M : Mk X.K C f) (F : FnOk X.prog X.w X.K X.mg X.base CX k f fd ps sp) (hr : Room (k + 1) X.A) (hb : Binds X.K fd ps ds) (hd : Vals dvs ds)
    (hx : Passes CX X E) (I : Inv X pins σ H s) (r : Vals vs us)
    (h : ∀ x dx, H x = none → H dx = none → dx ≠ x → sp (.ref x :: (vs ++ dvs)) (upd (upd H dx (.own x)) x (.ins C dx [])) (fun v H2 => v = .non ∧ Q (.ref x) H2) E) :
    wpAny (model X.prog X.w) X.A (call (.ref C) us) (EP X pins σ Q) X.xe s := by
  have hq := h (s.heap.objs.size + 1) s.heap.objs.size (I.hok.fresh (Nat.le_succ _)) (I.hok.fresh (Nat.le_refl _)) (Nat.ne_of_lt (Nat.lt_succ_self _))
  have I2 := Inv.made (C := C) I
  have r2 : Vals (V.ref (s.heap.objs.size + 1) :: (vs ++ dvs)) (Value.ref (s.heap.objs.size + 1) :: (us ++ ds)) := .cons rfl (r.append hd)
  have hl : (Value.ref (s.heap.objs.size + 1) :: us ++ ds).length = ps.length := by
    have e := r2.length
    rw [F.len _ _ _ _ hq] at e
    exact e.symm
  refine wpAny_call (make_map (f := f) I.kIn M.makes M.init (beq_iff_eq.mp M.fn) (codeAny_mono (F.run _ X.stack _ _ ⟨Value.ref (s.heap.objs.size + 1) :: us, []⟩ (Value.ref (s.heap.objs.size + 1) :: (us ++ ds)) _ _ E (hr.make C us [])
    (I2.env0.make C us []) (hb _ (Value.ref (s.heap.objs.size + 1) :: us) I2.kIn hl) r2 hq) fun r s' hq' => ?_))
  cases r with
  | error e => exact hx pins σ _ _ e s' I2 hq'
  | ok fl =>
    cases fl with
    | ret u =>
      obtain ⟨v, H', I3, rv, ev, q3⟩ := I2.after hq'
      subst ev
      exact ⟨rv, ⟨V.ref (s.heap.objs.size + 1), H', I3, rfl, q3⟩⟩
    | next => exact False.elim hq'
    | brk => exact False.elim hq'
    | cont => exact False.elim hq'
theorem pe_make0 (M : Mk X.K C f) (F : FnOk X.prog X.w X.K X.mg X.base CX k f fd ps sp) (hr : Room (k + 1) X.A) (hg : Gl X x) (hm : X.mg x = some (.ref C)) (hb : Binds X.K fd ps ds) (hd : Vals dvs ds) (hx : Passes CX X E)
    (hdb : (x == ("__debug__" : Str)) = false := by decide) : PE X (.Call (.Name x p) [] [] pos) (tMake C sp dvs E tNil) := by
  intro pins s σ H Q I h
  refine wpAny_Call_Name_kw (ld_glob I hg hm ?_ hdb)
  exact PySem.W.callWith_K0 I.kIn M.kp (run_make (us := []) M F hr hb hd hx I .nil h)
end
section
variable {X : Cx} {CX : CXT} {k : Nat} {f C : Addr} {fd : FuncData} {ps ks : List Str} {sp : Sp} {E : XK} {x m : Str} {p pos apos kpos : Pos} {e o : Expr} {es : List Expr} {kws : List Keyword} {te ta : TE} {t tk : TA} {nm : Option Str}
structure KBinds (K : PySem.W.Frag) (fd : FuncData) (ps ks : List Str) (g : List Value → List Value → List Value) (gV : List V → List V → List V) : Prop where
  to : ∀ (s : Shared) (us ws : List Value), K.In s.heap → (g us ws).length = ps.length → BindsTo s fd ⟨us, ks.zip ws⟩ (ps.zip (g us ws))
  rel : ∀ {vs : List V} {us : List Value} {zs : List V} {ws : List Value}, Vals vs us → Vals zs ws → Vals (gV vs zs) (g us ws)
variable {g : List Value → List Value → List Value} {gV : List V → List V → List V}
end
structure FnScope (N P : List Str) (sc : Scope) : Prop where
  kind : sc.kind = .function
  co : sc.isCoroutine = false
  gen : sc.isGenerator = false
  nd : N.Nodup
  pre : N.take P.length = P
  par : ∀ x ∈ P, sc.names.lookup x = some .local ∨ sc.names.lookup x = some .cell
  nofree : ∀ y ∈ sc.names, y.2 ≠ .free
theorem bindL_out {kindOf : Str → Option NameKind} {x : Str} : ∀ {binds : List (Str × Value)} {m : Str → Option Value}, (∀ v, (x, v) ∉ binds) → bindL kindOf binds m x = m x
  | [], _, _ => rfl
  | (n, v) :: r, m, h => by
    unfold bindL
    rw [bindL_out fun w hw => h w (List.mem_cons_of_mem _ hw)]
    split
    · have : x ≠ n := by rintro rfl; exact h v List.mem_cons_self
      simp [this]
    · rfl
theorem bindC_out {kindOf : Str → Option NameKind} {x : Str} : ∀ {binds : List (Str × Value)} {m : Str → Option Value}, (∀ v, (x, v) ∉ binds) → bindC kindOf binds m x = m x
  | [], _, _ => rfl
  | (n, v) :: r, m, h => by
    unfold bindC
    rw [bindC_out fun w hw => h w (List.mem_cons_of_mem _ hw)]
    split
    · rfl
    · have : x ≠ n := by rintro rfl; exact h v List.mem_cons_self
      simp [this]
theorem bindL_get {kindOf : Str → Option NameKind} {x : Str} {v : Value} : ∀ {P : List Str} {vs : List Value} {i : Nat} {m : Str → Option Value}, P.Nodup → P[i]? = some x → vs[i]? = some v → kindOf x = some .local →
    bindL kindOf (P.zip vs) m x = some v
  | [], _, _, _, _, h, _, _ => by simp at h
  | _ :: _, [], _, _, _, _, h, _ => by simp at h
  | p :: P, w :: vs, 0, m, nd, h1, h2, hk => by
    simp at h1 h2; subst h1; subst h2
    show bindL kindOf ((p, w) :: P.zip vs) m p = _
    unfold bindL
    rw [bindL_out fun v hv => (List.nodup_cons.mp nd).1 (List.of_mem_zip hv).1, if_pos hk]
    simp
  | p :: P, w :: vs, i + 1, m, nd, h1, h2, hk => by
    show bindL kindOf ((p, w) :: P.zip vs) m x = _
    unfold bindL
    exact bindL_get (i := i) (List.nodup_cons.mp nd).2 (by simpa using h1) (by simpa using h2) hk
theorem bindC_get {kindOf : Str → Option NameKind} {x : Str} {v : Value} : ∀ {P : List Str} {vs : List Value} {i : Nat} {m : Str → Option Value}, P.Nodup → P[i]? = some x → vs[i]? = some v → kindOf x ≠ some .local →
    bindC kindOf (P.zip vs) m x = some v
  | [], _, _, _, _, h, _, _ => by simp at h
  | _ :: _, [], _, _, _, _, h, _ => by simp at h
  | p :: P, w :: vs, 0, m, nd, h1, h2, hk => by
    simp at h1 h2; subst h1; subst h2
    show bindC kindOf ((p, w) :: P.zip vs) m p = _
    unfold bindC
    rw [bindC_out fun v hv => (List.nodup_cons.mp nd).1 (List.of_mem_zip hv).1, if_neg hk]
    simp
  | p :: P, w :: vs, i + 1, m, nd, h1, h2, hk => by
    show bindC kindOf ((p, w) :: P.zip vs) m x = _
    unfold bindC
    exact bindC_get (i := i) (List.nodup_cons.mp nd).2 (by simpa using h1) (by simpa using h2) hk
noncomputable def start (N : List Str) (vs : List V) : St := vs.map some ++ List.replicate (N.length - vs.length) none
noncomputable def cxOf (CX : CXT) (P : Program) (w : World) (K : PySem.W.Frag) (mg : Str → Option Value) (base : Heap) (N : List Str) (qual : Str) (scope : Scope) (f : Addr) (cd : Value) (A : Around) (outer : List Env) (s : Shared) (H : Hp) (E : XK) : Cx where
  prog := P
  w := w
  K := K
  mg := mg
  base := base
  A := A.deeper (envOfC qual scope s.heap.objs.size f cd)
  N := N
  s_0 := s
  H_0 := H
  env := envOfC qual scope s.heap.objs.size f cd
  outer := outer
  stack := envOfC qual scope s.heap.objs.size f cd :: outer
  ex := []
  calm := true
  fn := fun _ => true
  pn := []
  xe := fun e s' => wpAny (model P w) (A.deeper (envOfC qual scope s.heap.objs.size f cd)) (leaving (envOfC qual scope s.heap.objs.size f cd) e) (fun _ s'' => CX outer H s E e s'') (fun e' s'' => CX outer H s E e' s'') s'
theorem cell_has {sc : Scope} {n : Nat} {x : Str} (h : sc.names.lookup x = some .cell) : ∃ c, (cellsFrom n sc.names []).lookup x = some c := by
  have q := PySem.W.cellsFrom_some sc.names n [] (.inl h)
  exact Option.isSome_iff_exists.mp q
theorem inv_start {CX : CXT} {P : Program} {w : World} {K : PySem.W.Frag} {mg : Str → Option Value} {base : Heap} {N ps : List Str} {qual : Str} {scope : Scope} {f : Addr} {cd : Value} {A : Around} {outer : List Env} {s s1 : Shared} {H : Hp} {E : XK} {us : List Value} {vs : List V}
    (S : FnScope N ps scope) (hd : A.handled = none) (e0 : Env0 P w K mg base A outer s H) (hl : vs.length = ps.length) (r : Vals vs us)
    (x : InCallC s s.heap.objs.size (bindL (envOfC qual scope s.heap.objs.size f cd).kindOf (ps.zip us) fun _ => none) (cellsFrom (s.heap.objs.size + 1) scope.names []) (bindC (envOfC qual scope s.heap.objs.size f cd).kindOf (ps.zip us) fun _ => none) s1) :
    Inv (cxOf CX P w K mg base N qual scope f cd A outer s H E) [] (start N vs) H s1 := by
  have hpl : ps.length ≤ N.length := by have := congrArg List.length S.pre; rw [List.length_take] at this; omega
  obtain ⟨h1, tk, rfl, hk⟩ := x.done
  have noA : ∀ b : Addr, b ∉ (cxOf CX P w K mg base N qual scope f cd A outer s H E).ex := fun b z => absurd (show b ∈ ([] : List Addr) from z) (by simp)
  refine ⟨⟨e0.mod, S.kind, rfl, rfl, Nat.le_refl _, fun y z c h1 h2 => ?_, fun y hy => ?_, fun y c _ h => ?_, fun _ => hd, Around.frames_deeper e0.frames, .inr ⟨rfl, rfl⟩, fun b z => absurd z (noA b), e0.bs, e0.bsz, fun b _ _ => noA b, fun b z => absurd z (noA b), e0.funs, e0.frf⟩,
    rfl, e0.bare, Un.kept hk, ⟨_, x.toInCall.ns, fun i y v h1 h2 h3 => ?_⟩, fun y c h => ⟨_, x.cell y c h⟩, e0.hok.fresh (Nat.le_refl _), fun y c h => ?_, fun p hp => absurd (show p ∈ ([] : List (Addr × Obj)) from hp) (by simp), e0.hok.kept hk, ?_⟩
  · exact name_of_addr x.apart (PySem.mem_of_lookup h1) (PySem.mem_of_lookup h2)
  · have hy : scope.names.lookup y = some .cell ∨ scope.names.lookup y = some .free := hy
    rcases hy with hy | hy
    · exact cell_has hy
    · exact absurd rfl (S.nofree _ (PySem.mem_of_lookup hy))
  · exact Nat.le_of_lt (x.above y c (PySem.mem_of_lookup h))
  · have hi : i < vs.length := by
      unfold start at h2
      by_cases hi : i < vs.length
      · exact hi
      · rw [List.getElem?_append_right (by simpa using hi)] at h2
        rw [List.getElem?_replicate] at h2
        split at h2 <;> cases h2
    have ha : vs[i]? = some v := by
      unfold start at h2
      rw [List.getElem?_append_left (by simpa using hi), List.getElem?_map] at h2
      cases e : vs[i]? with
      | none => rw [e] at h2; cases h2
      | some a => rw [e] at h2; cases h2; rfl
    obtain ⟨u, hu, rv⟩ := r.get ha
    have hp : ps[i]? = some y := by
      rw [← S.pre, List.getElem?_take_of_lt (by omega)]; exact h1
    have ndP : ps.Nodup := by rw [← S.pre]; exact S.nd.sublist (List.take_sublist _ _)
    refine ⟨u, rv, ?_⟩
    rcases S.par y (List.mem_of_getElem? hp) with k | k
    · exact .inl ⟨k, bindL_get ndP hp hu k⟩
    · obtain ⟨c, e⟩ := cell_has (n := s.heap.objs.size + 1) k
      refine .inr ⟨.inl k, c, e, ?_⟩
      have q := x.cell y c e
      rw [bindC_get ndP hp hu (by show scope.names.lookup y ≠ _; rw [k]; decide)] at q
      exact q
  · exact e0.hok.fresh (Nat.le_of_lt (x.above y c (PySem.mem_of_lookup h)))
  · unfold start
    show _ = N.length
    rw [List.length_append, List.length_map, List.length_replicate]
    omega
theorem fn_of {CX : CXT} {P : Program} {w : World} {K : PySem.W.Frag} {mg : Str → Option Value} {base : Heap} {k : Nat} {f : Addr} {name qual : Str} {params : Arguments} {body : List Stmt} {scope : Scope} {dV kV doc pm cdv ct oc : Value} {an od : Option Addr}
    {osl : Array (Option Value)} {N ps : List Str} {sp : Sp} (lk : K.lookup f = some ⟨oc, od, .func (PySem.W.fnOf name qual params body scope dV kV doc pm an cdv ct), osl⟩) (hcd : PySem.W.codeIn K cdv qual = true) (S : FnScope N ps scope)
    (len : ∀ vs H Q E, sp vs H Q E → vs.length = ps.length)
    (hbody : ∀ (A : Around) (outer : List Env) (s : Shared) (H : Hp) (vs : List V) (Q : VK) (E : XK), Room k (A.deeper (envOfC qual scope s.heap.objs.size f cdv)) → sp vs H Q E →
      ∃ t, PSs (cxOf CX P w K mg base N qual scope f cdv A outer s H E) body t ∧ t { nx := fun _ H' => Q .non H', rt := Q } (start N vs) H) :
    FnOk P w K mg base CX (k + 1) f (PySem.W.fnOf name qual params body scope dV kV doc pm an cdv ct) ps sp := by
  refine ⟨len, fun A outer s H args us vs Q E hr e0 hb r hsp => ?_⟩
  have hl := len _ _ _ _ hsp
  have KX : K.In s.heap := e0.mod.kin.keeps fun b o e => (e0.bs b o e).1
  have lim : s.heap.NoLimit := e0.mod.nolimit.keeps fun b o e => (e0.bs b o e).1
  have hkind : ∀ y ∈ ps.zip us, scope.names.lookup y.1 = some .local ∨ (scope.names.lookup y.1 = some .cell ∧ ((cellsFrom (s.heap.objs.size + 1) scope.names []).lookup y.1).isSome = true) := fun ⟨n, v⟩ hy => by
    rcases S.par n (List.of_mem_zip hy).1 with q | q
    · exact .inl q
    · exact .inr ⟨q, PySem.W.cellsFrom_some _ _ _ (.inl q)⟩
  refine codeAny_call_function hr.depth (KX _ _ lk) rfl S.co S.gen rfl (PySem.W.codeRec_of KX hcd) (hb _ _ _ _ ?_)
  refine wpAny_newFunctionEnv_cells S.kind hkind fun env he s1 x => ?_
  subst he
  refine ⟨lim.keeps x.toInCall.keep, codeAny_func ?_⟩
  obtain ⟨t, ht, hq⟩ := hbody A outer s H vs Q E (hr.deeper _) hsp
  have I : Inv (cxOf CX P w K mg base N qual scope f cdv A outer s H E) [] (start N vs) H s1 := inv_start S hr.hd e0 hl r x
  refine wpAny_mono (ht [] s1 (start N vs) H _ I hq) (fun fl s' hs => ?_) fun e s' hs => hs
  have fin : ∀ {σ' : St} {H' : Hp} {v : V} {u : Value}, Inv (cxOf CX P w K mg base N qual scope f cdv A outer s H E) [] σ' H' s' → RelV v u → Q v H' → CE outer P w H s Q u s' :=
    fun {σ' H' v u} J rv q => ⟨v, H', J.os, J.bare, J.base, J.hok, rv, q⟩
  cases fl with
  | ret u =>
    obtain ⟨v, σ', H', J, rv, q⟩ := hs
    exact fin J rv q
  | next =>
    obtain ⟨σ', H', J, q⟩ := hs
    exact fin (v := V.non) (u := Value.none) J rfl q
  | brk =>
    obtain ⟨_, _, _, q⟩ := hs
    exact False.elim q
  | cont =>
    obtain ⟨_, _, _, q⟩ := hs
    exact False.elim q
end L2
namespace L2
open PySem PySem.Spec PyProof.Rows
section
variable {X : Cx} {x : Str} {p pos : Pos} {e : Expr} {es : List Expr} {t : TA} {id T : String} {r : List V → Hp → VK → Prop}
noncomputable def tCB (r : List V → Hp → VK → Prop) (t : TA) : TE := fun σ H Q => t σ H fun vs H1 => r vs H1 Q
theorem pe_callB (hc : CallR X (.builtin id) r) (hg : Gl X x) (hm : X.mg x = none) (hv : bootBuiltins x = some (.builtin id)) (ha : PA X (e :: es) t) (hn : x ≠ "__name__" := by decide) (hdb : (x == ("__debug__" : Str)) = false := by decide)
    (he : starEach (e :: es) X.env = (false, eval e X.env) :: starEach es X.env := by rfl) (hpl : (backTo pos (starEach es X.env)).any (·.1) = false := by rfl) : PE X (.Call (.Name x p) (e :: es) [] pos) (tCB r t) := by
  intro pins s σ H Q I h
  refine wpAny_Call_Name_kw (ld_blt I hg hm hv ?_ hn hdb)
  exact PyProof.Rows.callWith_builtin1 (thn (ha pos pins s σ H _ I h) fun us s1 ⟨vs, H1, I1, r1, q1⟩ => hc pins s1 σ H1 vs us Q I1 r1 q1) he hpl
theorem pe_callTy (hc : CallR X (.type T) r) (hg : Gl X x) (hm : X.mg x = none) (hv : bootBuiltins x = some (.type T)) (ha : PA X (e :: es) t) (hn : x ≠ "__name__" := by decide) (hdb : (x == ("__debug__" : Str)) = false := by decide)
    (he : starEach (e :: es) X.env = (false, eval e X.env) :: starEach es X.env := by rfl) (hpl : (backTo pos (starEach es X.env)).any (·.1) = false := by rfl) : PE X (.Call (.Name x p) (e :: es) [] pos) (tCB r t) := by
  intro pins s σ H Q I h
  refine wpAny_Call_Name_kw (ld_blt I hg hm hv ?_ hn hdb)
  exact PyProof.Rows.callWith_type1 (thn (ha pos pins s σ H _ I h) fun us s1 ⟨vs, H1, I1, r1, q1⟩ => hc pins s1 σ H1 vs us Q I1 r1 q1) he hpl
end
end L2
namespace HT
open PySem PyProof.Rows
section
open PySem.SeqAt
open PySem.AutoSeq1 (wpAny_loadPart')
open PySem.MeetsSeq PySem.MeetsSeq2 PySem.MeetsSeq3
end
section
variable {prog : Program} {w : World} {A : Around} {E : Value → Shared → Prop} {s : Shared}
noncomputable def sIx (n d : Nat) : Option Int → Nat
  | none => d
  | some v => if v < 0 then (v + (n : Int)).toNat else min v.toNat n
theorem sIx_nat (n d k : Nat) : sIx n d (some (k : Int)) = min k n := by
  show (if (k : Int) < 0 then ((k : Int) + (n : Int)).toNat else min (k : Int).toNat n) = min k n
  rw [if_neg (by omega), Int.toNat_natCast]
theorem sIx_le (n d : Nat) (hd : d ≤ n) (o : Option Int) : sIx n d o ≤ n := by
  cases o with
  | none => exact hd
  | some v =>
    show (if v < 0 then (v + (n : Int)).toNat else min v.toNat n) ≤ n
    by_cases hv : v < 0
    · rw [if_pos hv]; omega
    · rw [if_neg hv]; exact Nat.min_le_right _ _
theorem clip_eq (v : Int) (n d : Nat) : (if v < 0 then max (v + (n : Int)) 0 else min v (n : Int)) = ((sIx n d (some v) : Nat) : Int) := by
  show (if v < 0 then max (v + (n : Int)) 0 else min v (n : Int)) = (((if v < 0 then (v + (n : Int)).toNat else min v.toNat n) : Nat) : Int)
  by_cases hv : v < 0
  · simp only [if_pos hv]; omega
  · simp only [if_neg hv]; omega
theorem adjust_gen (lo hi : Option Int) (n : Nat) : Builtin.Slice.sliceAdjust lo hi 1 (n : Int) = (((sIx n 0 lo : Nat) : Int), ((sIx n n hi : Nat) : Int)) := by
  have h1 : ¬ ((1 : Int) < 0) := by omega
  unfold Builtin.Slice.sliceAdjust
  simp only [h1, if_false]
  refine Prod.ext ?_ ?_
  · cases lo with
    | none => rfl
    | some v => exact clip_eq v n 0
  · cases hi with
    | none => rfl
    | some v => exact clip_eq v n n
theorem places_gen (i j : Nat) : Builtin.Slice.slicePlaces (i : Int) (j : Int) 1 = j - i := by
  unfold Builtin.Slice.slicePlaces
  have h1 : (1 : Int) > 0 := by omega
  simp only [h1, if_true, Int.ediv_one]
  split <;> omega
theorem slicePart_ {v : Value} {o : Option Int} {Q : Option Int → Shared → Prop} (p : IsPart v o) (h : Q o s) : wpAny (model prog w) A (Builtin.Slice.slicePartIndex v) Q E s := by
  cases p with
  | none => exact slicePart_none h
  | int i t => exact slicePart_int h
theorem sliceApplied_gen {sl : Addr} {vl vu : Value} {lo hi : Option Int} {n : Nat} {Q : Int × Int × Nat → Shared → Prop} (hs : s.heap.IsSliceOf sl vl vu .none) (pl : IsPart vl lo) (pu : IsPart vu hi)
    (h : Q (((sIx n 0 lo : Nat) : Int), 1, sIx n n hi - sIx n 0 lo) s) : wpAny (model prog w) A (Builtin.Slice.sliceApplied (.ref sl) (pure (n : Int))) Q E s := by
  obtain ⟨os, hos, hcs, hds⟩ := id hs
  unfold Builtin.Slice.sliceApplied Builtin.Slice.sliceFields
  refine wpAny_bind (wpAny_bind (wpAny_field hos hds (x := vl) rfl (wpAny_bind (wpAny_field hos hds (x := vu) rfl (wpAny_bind (wpAny_field hos hds (x := .none) rfl (wpAny_pure ?_)))))))
  refine wpAny_bind (slicePart_none ?_)
  show wpAny _ _ (if ((1 : Int) == 0) = true then _ else _) _ _ s
  rw [if_neg (by decide)]
  refine wpAny_bind (slicePart_ pl (wpAny_bind (slicePart_ pu (wpAny_bind (wpAny_pure ?_)))))
  show wpAny _ _ (match Builtin.Slice.sliceAdjust lo hi 1 (n : Int) with | (lo, hi) => pure (lo, (1 : Int), Builtin.Slice.slicePlaces lo hi 1)) _ _ s
  rw [adjust_gen lo hi n]
  show wpAny _ _ (pure (((sIx n 0 lo : Nat) : Int), (1 : Int), Builtin.Slice.slicePlaces ((sIx n 0 lo : Nat) : Int) ((sIx n n hi : Nat) : Int) 1)) _ _ s
  rw [places_gen]
  exact wpAny_pure h
theorem pick_gen (xs : Array Value) (i k : Nat) : ((List.range k).filterMap fun (m : Nat) => xs[((i : Int) + (m : Int) * 1).toNat]?).toArray = ((xs.toList.drop i).take k).toArray := by
  have e : (fun (m : Nat) => xs[((i : Int) + (m : Int) * 1).toNat]?) = fun m => xs[i + m]? := by
    funext m
    have : ((i : Int) + (m : Int) * 1).toNat = i + m := by omega
    rw [this]
  rw [e]
  have := pick_run xs i k
  rw [List.filterMap_map] at this
  have e2 : ((fun x => xs[x]?) ∘ fun x => i + x) = fun m => xs[i + m]? := rfl
  rw [e2] at this
  rw [this]
theorem getItem_tuple_cut {t sl : Addr} {items : Array Value} {vl vu : Value} {lo hi : Option Int} {Q : Value → Shared → Prop} (ht : IsTup s.heap t items) (hs : s.heap.IsSliceOf sl vl vu .none) (pl : IsPart vl lo) (pu : IsPart vu hi)
    (hw : ¬ (sIx items.size 0 lo = 0 ∧ sIx items.size items.size hi = items.size))
    (h : Q (.ref s.heap.objs.size) { s with heap := s.heap.push { cls := .type "tuple", data := .seq ((items.toList.drop (sIx items.size 0 lo)).take (sIx items.size items.size hi - sIx items.size 0 lo)).toArray } })
    (hsz : items.size ≤ sizeLine) : wpAny (model prog w) A (getItem (.ref t) (.ref sl)) Q E s := by
  have htake : sizeOk (.seq ((items.toList.drop (sIx items.size 0 lo)).take (sIx items.size items.size hi - sIx items.size 0 lo)).toArray) := by
    show ((items.toList.drop (sIx items.size 0 lo)).take (sIx items.size items.size hi - sIx items.size 0 lo)).toArray.size ≤ sizeLine
    rw [List.size_toArray, List.length_take, List.length_drop, Array.length_toList]
    omega
  have hj : sIx items.size items.size hi ≤ items.size := sIx_le _ _ (Nat.le_refl _) hi
  obtain ⟨os, hos, hcs, hds⟩ := id hs
  have hTs : s.TypeIs (.ref sl) "slice" := ⟨os, hos, hcs⟩
  unfold getItem
  try with_reducible refine wpAny_holding ?_
  first | refine wpAny_bind (wpAny_pure ?_) | skip
  refine wpAny_bind (wpAny_sequenceKey ht.typeIs (by decide) ?_)
  refine wpAny_bind (wpAny_callSpecial?_slot (name := Str.ofString "__getitem__") ht.typeIs PyProof.Rows.slot_tuple_getitem
    (wpAny_call_entry PyProof.Rows.slot_tuple_getitem ht.typeIs entry_tuple_getitem ?_ (args_tuple_getitem _ _)))
  show wpAny _ _ (Builtin.Tuple.tupleItemsOf (.ref t) >>= _) _ _ s
  refine wpAny_bind (tupleItemsOf_ ht ?_)
  refine wpAny_bind (wpAny_typeOf hTs ?_)
  rw [if_pos (by decide)]
  refine wpAny_bind (sliceApplied_gen hs pl pu ?_)
  have hno : ¬ ((((sIx items.size 0 lo : Nat) : Int) == 0 && (1 : Int) == 1 && (sIx items.size items.size hi - sIx items.size 0 lo) == items.size) = true) := by
    intro q
    rw [Bool.and_eq_true, Bool.and_eq_true] at q
    have q1 : ((sIx items.size 0 lo : Nat) : Int) = 0 := eq_of_beq q.1.1
    have q2 : sIx items.size items.size hi - sIx items.size 0 lo = items.size := eq_of_beq q.2
    exact hw ⟨by omega, by omega⟩
  show wpAny _ _ (if (((sIx items.size 0 lo : Nat) : Int) == 0 && (1 : Int) == 1 && (sIx items.size items.size hi - sIx items.size 0 lo) == items.size) = true then _ else _) _ _ s
  rw [if_neg hno, pick_gen]
  first
    | exact wpAny_bind (m := Builtin.Tuple.tupleExact _) (wpAny_newObj_type (wpAny_pure ⟨_, rfl, wpAny_pure h⟩) htake)
    | exact wpAny_bind (m := Builtin.Tuple.tupleExact _) (wpAny_newObj_type (wpAny_bind (wpAny_pure (wpAny_pure ⟨_, rfl, wpAny_pure h⟩))) htake)
    | exact wpAny_bind (wpAny_bind (m := Builtin.Tuple.tupleExact _) (wpAny_newObj_type (wpAny_pure (wpAny_pure ⟨_, rfl, wpAny_pure h⟩)) htake))
    | exact wpAny_bind (wpAny_bind (m := Builtin.Tuple.tupleExact _) (wpAny_newObj_type (wpAny_pure ⟨_, rfl, wpAny_pure h⟩) htake))
end
end HT
namespace L2
open PySem PySem.Spec PyProof.Rows
noncomputable abbrev TO := St → Hp → (Option Int → Hp → Prop) → Prop
noncomputable def PO (X : Cx) (e : Option Expr) (t : TO) : Prop :=
  ∀ (pins : List (Addr × Obj)) (s : Shared) (σ : St) (H : Hp) (Q : Option Int → Hp → Prop), Inv X pins σ H s → t σ H Q →
    wpAny (model X.prog X.w) X.A (evalPart e X.env) (fun u s' => ∃ o H', Inv X pins σ H' s' ∧ IsPart u o ∧ Q o H') X.xe s
noncomputable def tNoPart : TO := fun _ H Q => Q none H
noncomputable def tPart (t : TE) : TO := fun σ H Q => t σ H fun x H1 => ∃ i, x = .int i ∧ Q (some i) H1
section
variable {X : Cx} {e : Expr} {te : TE} {lo hi : Option Expr} {tl th : TO} {pos p2 : Pos}
theorem po_none : PO X none tNoPart := by
  intro pins s σ H Q I h
  rw [evalPart_none]
  exact wpAny_pure ⟨none, H, I, .none, h⟩
theorem po_some (h : PE X e te) : PO X (some e) (tPart te) := by
  intro pins s σ H Q I hw
  rw [evalPart_some]
  refine thn (h pins s σ H _ I hw) fun u s1 ⟨x, H1, I1, r1, q1⟩ => ?_
  obtain ⟨i, rfl, q⟩ := q1
  obtain ⟨t, rfl⟩ := r1
  exact ⟨some i, H1, I1, .int i t, q⟩
noncomputable def SlR (X : Cx) (r : V → Option Int → Option Int → Hp → VK → Prop) : Prop :=
  ∀ (pins : List (Addr × Obj)) (s : Shared) (σ : St) (H : Hp) (x : V) (v vl vu : Value) (lo hi : Option Int) (sl : Addr) (Q : VK), Inv X pins σ H s → RelV x v → s.heap.IsSliceOf sl vl vu .none → IsPart vl lo → IsPart vu hi → r x lo hi H Q →
    ∃ T id, typeLookup (.type T) "__getitem__" = pure (some (.builtin id)) ∧ s.TypeIs v T ∧ wpAny (model X.prog X.w) X.A (getItem v (.ref sl)) (EP X pins σ Q) X.xe s
noncomputable def tSl (r : V → Option Int → Option Int → Hp → VK → Prop) (te : TE) (tl th : TO) : TE := fun σ H Q => te σ H fun x H1 => tl σ H1 fun l H2 => th σ H2 fun u H3 => r x l u H3 Q
theorem pe_slice {r : V → Option Int → Option Int → Hp → VK → Prop} (hr : SlR X r) (he : PE X e te) (hl : PO X lo tl) (hu : PO X hi th) : PE X (.Subscript e (.Slice lo hi none p2) pos) (tSl r te tl th) := by
  intro pins s σ H Q I h
  refine Subscript_ (thn (he pins s σ H _ I h) fun v s1 ⟨x, H1, I1, r1, q1⟩ => ?_)
  refine wpAny_Slice (thn (hl pins s1 σ H1 _ I1 q1) fun vl s2 ⟨l, H2, I2, pl, q2⟩ => thn (hu pins s2 σ H2 _ I2 q2) fun vu s3 ⟨u, H3, I3, pu, q3⟩ => ?_)
  rw [evalPart_none]
  refine wpAny_pure ?_
  have I4 : Inv X pins σ H3 { s3 with heap := s3.heap.push { cls := .type "slice", data := .fields #[vl, vu, .none] } } := I3.kept (t' := s3.toks) fun b ob q => Heap.get?_push_of_some _ q
  obtain ⟨T, id, hT, ht, hg⟩ := hr pins { s3 with heap := s3.heap.push { cls := .type "slice", data := .fields #[vl, vu, .none] } } σ H3 x v vl vu l u s3.heap.objs.size Q I4 r1 (Heap.IsSliceOf.new ..) pl pu q3
  show wpAny (model X.prog X.w) X.A (subscriptTail e (.Slice lo hi none p2) v (.ref s3.heap.objs.size)) (EP X pins σ Q) X.xe { s3 with heap := s3.heap.push { cls := .type "slice", data := .fields #[vl, vu, .none] } }
  exact tail_any (ops := [.ref s3.heap.objs.size, v]) ht hT hg (by with_unfolding_all rfl)
noncomputable def cutV (xs : List V) (lo hi : Option Int) : List V := (xs.drop (HT.sIx xs.length 0 lo)).take (HT.sIx xs.length xs.length hi - HT.sIx xs.length 0 lo)
theorem cutV_length (xs : List V) (lo hi : Option Int) : (cutV xs lo hi).length ≤ xs.length := by
  unfold cutV
  rw [List.length_take, List.length_drop]
  omega
noncomputable def rSlT (K : PySem.W.Frag) : V → Option Int → Option Int → Hp → VK → Prop := fun x lo hi H Q => ∃ a xs, x = .ref a ∧ SqT K H a xs ∧
  ¬ (HT.sIx xs.length 0 lo = 0 ∧ HT.sIx xs.length xs.length hi = xs.length) ∧ ∀ p, H p = none → Q (.ref p) (upd H p (.tup (cutV xs lo hi)))
theorem sl_tup : SlR X (rSlT X.K) := by
  intro pins s σ H x v vl vu lo hi sl Q I rx hs pl pu h
  obtain ⟨a, xs, rfl, hx, hw, q⟩ := h
  cases rx
  obtain ⟨its, r, ht, hz⟩ := I.tuple hx
  have hlen : its.toArray.size = xs.length := by rw [List.size_toArray]; exact r.length.symm
  refine ⟨"tuple", _, PyProof.Rows.slot_tuple_getitem.lookup, ht.typeIs, ?_⟩
  refine HT.getItem_tuple_cut ht hs pl pu (by rw [hlen]; exact hw) ?_ (by rw [hlen]; exact hz)
  rw [hlen]
  refine ⟨.ref s.heap.objs.size, _, I.laid (t' := s.toks) (o := .tup (cutV xs lo hi)) (fun b ob q => Heap.get?_push_of_some _ q) (Nat.le_refl _) ?_, rfl, q _ (I.hok.fresh (Nat.le_refl _))⟩
  exact ⟨Nat.le_trans (cutV_length xs lo hi) hz, _, (r.drop (HT.sIx xs.length 0 lo)).take (HT.sIx xs.length xs.length hi - HT.sIx xs.length 0 lo), IsTup.new _ _⟩
end
end L2
namespace L2
open PySem PySem.Spec PyProof.Rows
noncomputable def ixN (n : Nat) (i : Int) : Option Nat := if 0 ≤ i then (if i < n then some i.toNat else none) else if -(n : Int) ≤ i then some (i + n).toNat else none
noncomputable def atI {α : Type} (xs : List α) (i : Int) : Option α := (ixN xs.length i).bind fun j => xs[j]?
theorem ixN_seq {n : Nat} {i : Int} {j : Nat} (h : ixN n i = some j) : seqIndex? i n = some j ∧ j < n ∧ -(n : Int) ≤ i ∧ i < n := by
  unfold ixN at h
  by_cases h0 : 0 ≤ i
  · rw [if_pos h0] at h
    by_cases h1 : i < n
    · rw [if_pos h1] at h
      have e : i.toNat = j := Option.some.inj h
      exact ⟨by rw [seqIndex_of h0 h1, e], by omega, by omega, h1⟩
    · rw [if_neg h1] at h; cases h
  · rw [if_neg h0] at h
    by_cases h1 : -(n : Int) ≤ i
    · rw [if_pos h1] at h
      have e : (i + n).toNat = j := Option.some.inj h
      exact ⟨by rw [seqIndex_neg (by omega) h1, e], by omega, h1, by omega⟩
    · rw [if_neg h1] at h; cases h
theorem atI_get {α : Type} {xs : List α} {i : Int} {v : α} (h : atI xs i = some v) : ∃ j, seqIndex? i xs.length = some j ∧ xs[j]? = some v ∧ j < xs.length ∧ -(xs.length : Int) ≤ i ∧ i < xs.length := by
  unfold atI at h
  cases e : ixN xs.length i with
  | none => rw [e] at h; cases h
  | some j =>
    rw [e] at h
    obtain ⟨h1, h2, h3, h4⟩ := ixN_seq e
    exact ⟨j, h1, h, h2, h3, h4⟩
theorem atI_nat {α : Type} {xs : List α} {j : Nat} {v : α} (h : xs[j]? = some v) : atI xs (j : Int) = some v := by
  have hj : j < xs.length := (List.getElem?_eq_some_iff.mp h).1
  have e : ixN xs.length (j : Int) = some j := by
    unfold ixN
    rw [if_pos (by omega), if_pos (by omega)]; simp
  unfold atI; rw [e]; exact h
noncomputable def PlainIx (b : Expr) : Prop := ∀ o i, subscripted b false o i = operate [o, i] (getItem o i)
noncomputable def IxR (X : Cx) (r : R2) : Prop :=
  ∀ (value slice : Expr) (pins : List (Addr × Obj)) (s : Shared) (σ : St) (H : Hp) (x y : V) (v u : Value) (Q : VK), Inv X pins σ H s → RelV x v → RelV y u → r x y H Q →
    subscripted slice false v u = operate [v, u] (getItem v u) → wpAny (model X.prog X.w) X.A (subscriptTail value slice v u) (EP X pins σ Q) X.xe s
noncomputable def MtR (X : Cx) (id : String) (r : V → List V → Hp → VK → Prop) : Prop :=
  ∀ (pins : List (Addr × Obj)) (s : Shared) (σ : St) (H : Hp) (x : V) (xs : List V) (v : Value) (us : List Value) (Q : VK), Inv X pins σ H s → RelV x v → Vals xs us → r x xs H Q →
    wpAny (model X.prog X.w) X.A (call (.builtin id) (v :: us)) (EP X pins σ Q) X.xe s
section
variable {X : Cx} {a b : Expr} {ta tb : TE} {pos : Pos}
theorem pe_ix {r : R2} (hr : IxR X r) (ha : PE X a ta) (hb : PE X b tb) (hs : PlainIx b) : PE X (.Subscript a b pos) (tOp r ta tb) := by
  intro pins s σ H Q I h
  exact Subscript_ (binT ha hb I h fun v u s2 x y H2 I2 rx ry q => hr a b pins s2 σ H2 x y v u Q I2 rx ry q (hs _ _))
noncomputable def rIxL (K : PySem.W.Frag) : R2 := fun x y H Q => ∃ p xs i v, x = .ref p ∧ y = .int i ∧ SqL K H p xs ∧ atI xs i = some v ∧ Q v H
noncomputable def rIxT (K : PySem.W.Frag) : R2 := fun x y H Q => ∃ p xs i v, x = .ref p ∧ y = .int i ∧ SqT K H p xs ∧ atI xs i = some v ∧ Q v H
theorem ix_list : IxR X (rIxL X.K) := by
  intro value slice pins s σ H x y v u Q I rx ry h hs
  obtain ⟨p, xs, i, z, rfl, rfl, hq, he, q⟩ := h
  cases rx
  obtain ⟨t, rfl⟩ := ry
  obtain ⟨its, r, pl, hz⟩ := I.list hq
  obtain ⟨j, h1, h2, h3, h4, h5⟩ := atI_get he
  obtain ⟨w, ew, rw'⟩ := r.get h2
  have hl := r.length
  have hn := line63
  have fin : EP X pins σ Q w s := ⟨z, H, I, rw', q⟩
  by_cases h0 : 0 ≤ i
  · have hj : i.toNat = j := by
      rw [seqIndex_of h0 h5] at h1
      exact Option.some.inj h1
    exact item_listR pl.isList h0 (by omega) (by rw [hj]; simpa using ew) fin hs
  · have hj : (i + (its.toArray.size : Int)).toNat = j := by
      rw [seqIndex_neg (by omega) h4] at h1
      rw [List.size_toArray, ← hl]
      exact Option.some.inj h1
    exact subscriptTail_builtinR (x := w) pl.isList.typeIs slot_list_getitem.lookup
      (wpAny_getItem_list_neg (Q := fun r s' => r = w ∧ EP X pins σ Q r s') pl.isList (by omega) (by rw [List.size_toArray] <;> omega) (by omega) (by rw [hj]; simpa using ew) ⟨rfl, fin⟩) hs
theorem ix_tup : IxR X (rIxT X.K) := by
  intro value slice pins s σ H x y v u Q I rx ry h hs
  obtain ⟨p, xs, i, z, rfl, rfl, hq, he, q⟩ := h
  cases rx
  obtain ⟨t, rfl⟩ := ry
  obtain ⟨its, r, pl, hz⟩ := I.tuple hq
  obtain ⟨j, h1, h2, h3, h4, h5⟩ := atI_get he
  obtain ⟨w, ew, rw'⟩ := r.get h2
  have hl := r.length
  have hn := line63
  have fin : EP X pins σ Q w s := ⟨z, H, I, rw', q⟩
  exact subscriptTail_builtinR (x := w) pl.typeIs slot_tuple_getitem.lookup
    (getItem_tuple (j := j) (Q := fun r s' => r = w ∧ EP X pins σ Q r s') pl (by omega) (by omega) (by rw [List.size_toArray, ← hl]; exact h1) (by simpa using ew) ⟨rfl, fin⟩) hs
theorem mapSeq_set (its : List Value) (n j : Nat) (u : Value) : Obj.mapSeq (·.setIfInBounds j u) { cls := .type "list", data := .seq its.toArray n } = { cls := .type "list", data := .seq (its.set j u).toArray n } := by
  simp [Obj.mapSeq]
theorem Inv.lst {pins : List (Addr × Obj)} {σ : St} {H : Hp} {s : Shared} {p : Addr} {xs : List V} (I : Inv X pins σ H s) (h : H p = some (.lst xs)) :
    ∃ (its : List Value) (n : Nat), Vals xs its ∧ s.heap.get? p = some { cls := .type "list", data := .seq its.toArray n } ∧ xs.length ≤ sizeLine := by
  obtain ⟨z, its, n, r, e⟩ := I.hok p _ h
  exact ⟨its, n, r, e, z⟩
theorem Inv.lstUpd {pins : List (Addr × Obj)} {σ : St} {H : Hp} {s : Shared} {p : Addr} {xs ys : List V} {its its' : List Value} {n n' : Nat} {f : Obj → Obj} (I : Inv X pins σ H s) (h : H p = some (.lst xs))
    (ho : s.heap.get? p = some { cls := .type "list", data := .seq its.toArray n }) (hf : f { cls := .type "list", data := .seq its.toArray n } = { cls := .type "list", data := .seq its'.toArray n' }) (r : Vals ys its') (hz : ys.length ≤ sizeLine) (t : Nat) :
    Inv X pins σ (upd H p (.lst ys)) { s with heap := s.heap.update p f, toks := t } := by
  have e : (s.heap.update p f).get? p = some { cls := .type "list", data := .seq its'.toArray n' } := by
    rw [Heap.get?_update_self f ho (by rw [hf] <;> rfl), hf]
  refine I.write (x := p) (e := p) (by rw [h]; trivial) (.inl rfl) (fun b u hb q => (Heap.get?_update_other _ _ (Ne.symm hb)).trans q) ⟨_, e⟩ ?_
  exact ⟨hz, its', n', r, e⟩
noncomputable def rSetL : V → V → V → Hp → (Hp → Prop) → Prop := fun o i v H Q => ∃ p xs k j, o = .ref p ∧ i = .int k ∧ H p = some (.lst xs) ∧ ixN xs.length k = some j ∧ Q (upd H p (.lst (xs.set j v)))
theorem set_list : PSet X rSetL := by
  intro pins s σ H o i v ov iv u Q I ro ri rv h
  obtain ⟨p, xs, k, j, rfl, rfl, hp, hj, q⟩ := h
  cases ro
  obtain ⟨t, rfl⟩ := ri
  obtain ⟨its, n, r, ho, hz⟩ := I.lst hp
  obtain ⟨h1, h2, h3, h4⟩ := ixN_seq hj
  have hl := r.length
  have hn := line63
  have I' : Inv X pins σ (upd H p (.lst (xs.set j v))) { s with heap := s.heap.update p (Obj.mapSeq (·.setIfInBounds j u)) } :=
    I.lstUpd hp ho (mapSeq_set its n j u) (r.set rv j) (by rw [List.length_set]; exact hz) s.toks
  by_cases h0 : 0 ≤ k
  · have hk : k.toNat = j := by
      rw [seqIndex_of h0 h4] at h1
      exact Option.some.inj h1
    exact PySem.W.ki_setAt ho h0 (by omega) (by rw [List.size_toArray, ← hl]; exact h4) (by rw [hk]; exact ⟨_, I', q⟩)
  · have hk : (k + (its.toArray.size : Int)).toNat = j := by
      rw [seqIndex_neg (by omega) h3] at h1
      rw [List.size_toArray, ← hl]
      exact Option.some.inj h1
    exact PySem.W.ki_setBack ho (by omega) (by rw [List.size_toArray, ← hl]; exact h3) (by omega) (by rw [hk]; exact ⟨_, I', q⟩)
theorem slice_bounds (lo hi : Option Int) (n : Nat) : (sliceBounds lo hi none n).1 = ((HT.sIx n 0 lo : Nat) : Int) ∧ (sliceBounds lo hi none n).2.1 = ((HT.sIx n n hi : Nat) : Int) ∧ (sliceBounds lo hi none n).2.2 = 1 := by
  refine ⟨?_, ?_, rfl⟩
  · cases lo with
    | none => simp [sliceBounds, HT.sIx]
    | some i =>
      simp only [sliceBounds, HT.sIx, Option.getD_none, show (1 : Int) > 0 by decide, if_true]
      by_cases h : i < 0
      · simp only [h, if_true] <;> omega
      · simp only [h, if_false] <;> omega
  · cases hi with
    | none => simp [sliceBounds, HT.sIx]
    | some i =>
      simp only [sliceBounds, HT.sIx, Option.getD_none, show (1 : Int) > 0 by decide, if_true]
      by_cases h : i < 0
      · simp only [h, if_true] <;> omega
      · simp only [h, if_false] <;> omega
theorem slicePick_cut (its : List Value) (lo hi : Option Int) : slicePick its.toArray lo hi none = ((its.drop (HT.sIx its.length 0 lo)).take (HT.sIx its.length its.length hi - HT.sIx its.length 0 lo)).toArray := by
  obtain ⟨h1, h2, h3⟩ := slice_bounds lo hi its.toArray.size
  unfold slicePick
  rw [h1, h2, h3]
  simp only [sliceRange_one, pick_run, List.size_toArray] <;> rfl
noncomputable def rSlL (K : PySem.W.Frag) : V → Option Int → Option Int → Hp → VK → Prop := fun x lo hi H Q => ∃ a xs, x = .ref a ∧ SqL K H a xs ∧ ∀ p, H p = none → Q (.ref p) (upd H p (.lst (cutV xs lo hi)))
theorem sl_list : SlR X (rSlL X.K) := by
  intro pins s σ H x v vl vu lo hi sl Q I rx hs pl pu h
  obtain ⟨a, xs, rfl, hx, q⟩ := h
  cases rx
  obtain ⟨its, r, ht, hz⟩ := I.list hx
  have hlen := r.length
  refine ⟨"list", _, slot_list_getitem.lookup, ht.isList.typeIs, ?_⟩
  refine wpAny_getItem_list_slice ht.isList hs pl pu .none (by simp) ?_ (by rw [List.size_toArray] <;> omega)
  rw [slicePick_cut, ← hlen]
  refine ⟨.ref s.heap.objs.size, _, I.laid (t' := s.toks) (o := .lst (cutV xs lo hi)) (fun b ob q => Heap.get?_push_of_some _ q) (Nat.le_refl _) ?_, rfl, q _ (I.hok.fresh (Nat.le_refl _))⟩
  exact ⟨Nat.le_trans (cutV_length xs lo hi) hz, _, 0, (r.drop (HT.sIx xs.length 0 lo)).take (HT.sIx xs.length xs.length hi - HT.sIx xs.length 0 lo), Heap.get?_push_size _ rfl⟩
noncomputable def flatV : V → Bool
  | .non => true
  | .bl _ => true
  | .int _ => true
  | .str _ => true
  | _ => false
noncomputable def eqV : V → V → Bool
  | .non, .non => true
  | .bl a, .bl b => a == b
  | .bl a, .int b => (if a then 1 else 0) == b
  | .int a, .bl b => a == (if b then 1 else 0)
  | .int a, .int b => a == b
  | .str a, .str b => a == b
  | _, _ => false
theorem eqAt_V {A : Around} {s : Shared} {y x : V} {u v : Value} (ry : RelV y u) (rx : RelV x v) (fy : flatV y = true) (fx : flatV x = true) : SeqAt.EqAt A s u v (eqV y x) := by
  cases y with
  | non =>
    cases ry
    cases x with
    | non => cases rx; exact SeqAt.EqAt.same _
    | bl b => cases rx; exact SeqAt.EqAt.none_bool b
    | int b => obtain ⟨t, rfl⟩ := rx; exact SeqAt.EqAt.none_int b t
    | str b => obtain ⟨t, rfl⟩ := rx; exact SeqAt.EqAt.none_str b t
    | _ => exact absurd (show false = true from fx) Bool.false_ne_true
  | bl a =>
    cases ry
    cases x with
    | non => cases rx; exact SeqAt.EqAt.bool_none a
    | bl b => cases rx; exact SeqAt.EqAt.bool_bool a b
    | int b => obtain ⟨t, rfl⟩ := rx; exact SeqAt.EqAt.bool_int a b t
    | str b => obtain ⟨t, rfl⟩ := rx; exact SeqAt.EqAt.bool_str a b t
    | _ => exact absurd (show false = true from fx) Bool.false_ne_true
  | int a =>
    obtain ⟨t', rfl⟩ := ry
    cases x with
    | non => cases rx; exact SeqAt.EqAt.int_none a t'
    | bl b => cases rx; exact SeqAt.EqAt.int_bool a t' b
    | int b => obtain ⟨t, rfl⟩ := rx; exact SeqAt.EqAt.int_int a t' b t
    | str b => obtain ⟨t, rfl⟩ := rx; exact SeqAt.EqAt.int_str a t' b t
    | _ => exact absurd (show false = true from fx) Bool.false_ne_true
  | str a =>
    obtain ⟨t', rfl⟩ := ry
    cases x with
    | non => cases rx; exact SeqAt.EqAt.str_none a t'
    | bl b => cases rx; exact SeqAt.EqAt.str_bool a t' b
    | int b => obtain ⟨t, rfl⟩ := rx; exact SeqAt.EqAt.str_int a t' b t
    | str b => obtain ⟨t, rfl⟩ := rx; exact SeqAt.EqAt.str_str a t' b t
    | _ => exact absurd (show false = true from fx) Bool.false_ne_true
  | _ => exact absurd (show false = true from fy) Bool.false_ne_true
noncomputable def eqU (x : V) (u : Value) : Bool := match u with
  | .none => eqV .non x
  | .bool b => eqV (.bl b) x
  | .int i _ => eqV (.int i) x
  | .str z _ => eqV (.str z) x
  | _ => false
theorem eqU_of {x y : V} {u : Value} (r : RelV y u) (f : flatV y = true) : eqU x u = eqV y x := by
  cases y with
  | non => cases r; rfl
  | bl b => cases r; rfl
  | int i => obtain ⟨t, rfl⟩ := r; rfl
  | str z => obtain ⟨t, rfl⟩ := r; rfl
  | _ => exact absurd (show false = true from f) Bool.false_ne_true
theorem any_eqU {x : V} : ∀ {xs : List V} {us : List Value}, Vals xs us → xs.all flatV = true → us.any (eqU x) = xs.any fun y => eqV y x
  | _, _, .nil, _ => rfl
  | y :: xs, u :: us, .cons r t, f => by
    rw [List.all_cons, Bool.and_eq_true] at f
    rw [List.any_cons, List.any_cons, eqU_of r f.1, any_eqU t f.2]
theorem mem_eqAt {A : Around} {s : Shared} {x : V} {v : Value} (rx : RelV x v) (fx : flatV x = true) : ∀ {xs : List V} {us : List Value}, Vals xs us → xs.all flatV = true → ∀ u ∈ us, SeqAt.EqAt A s u v (eqU x u)
  | _, _, .nil, _ => fun u hu => by cases hu
  | y :: xs, u :: us, .cons r t, f => fun u' hu => by
    rw [List.all_cons, Bool.and_eq_true] at f
    rcases List.mem_cons.mp hu with rfl | hu
    · rw [eqU_of r f.1]; exact eqAt_V r rx f.1 fx
    · exact mem_eqAt rx fx t f.2 u' hu
noncomputable def inV (x : V) (xs : List V) : Bool := xs.any fun y => eqV y x
noncomputable def rIn (K : PySem.W.Frag) (neg : Bool) : R2 := fun x y H Q => ∃ p xs, y = .ref p ∧ (SqL K H p xs ∨ SqT K H p xs) ∧ flatV x = true ∧ xs.all flatV = true ∧ Q (.bl (if neg then !inV x xs else inV x xs)) H
theorem op_notIn_seq : OpR X (compareOp .NotIn) (rIn X.K true) := by
  intro pins s σ H x y v u Q I rx ry h
  obtain ⟨p, xs, rfl, hq, fx, fs, q⟩ := h
  cases ry
  rcases hq with hq | hq
  · obtain ⟨its, r, pl, hz⟩ := I.list hq
    refine SeqAt.notIn_listAt (eqU x) pl.isList (fun w hw => mem_eqAt rx fx r fs w (by simpa using hw)) ⟨.bl _, H, I, rfl, ?_⟩
    rw [show its.toArray.any (eqU x) = its.any (eqU x) by simp, any_eqU r fs]
    exact q
  · obtain ⟨its, r, pl, hz⟩ := I.tuple hq
    refine SeqAt.notIn_tupleAt (eqU x) pl (fun w hw => mem_eqAt rx fx r fs w (by simpa using hw)) ⟨.bl _, H, I, rfl, ?_⟩
    rw [show its.toArray.any (eqU x) = its.any (eqU x) by simp, any_eqU r fs]
    exact q
theorem call_len_seq : CallR X (.builtin "len") (fun xs H Q => ∃ p ys, xs = [.ref p] ∧ (SqL X.K H p ys ∨ SqT X.K H p ys) ∧ Q (.int ys.length) H) := by
  intro pins s σ H xs us Q I r h
  obtain ⟨p, ys, rfl, hq, q⟩ := h
  obtain ⟨u, rfl, rx⟩ := vals1 r
  cases rx
  have hn := line63
  rcases hq with hq | hq
  · obtain ⟨its, r', pl, hz⟩ := I.list hq
    have hlen := r'.length
    exact Calls.call_len_list pl.isList (by simp only [List.size_toArray] <;> omega) ⟨.int ys.length, H, I.tok _, ⟨s.toks + 1, by rw [List.size_toArray, hlen]⟩, q⟩
  · obtain ⟨its, r', pl, hz⟩ := I.tuple hq
    have hlen := r'.length
    exact len_tuple pl (by simp only [List.size_toArray] <;> omega) ⟨.int ys.length, H, I.tok _, ⟨s.toks + 1, by rw [List.size_toArray, hlen]⟩, q⟩
theorem call_tuple_of : CallR X (.type "tuple") (fun xs H Q => ∃ p ys, xs = [.ref p] ∧ ((SqL X.K H p ys ∧ ∀ l, H l = none → Q (.ref l) (upd H l (.tup ys))) ∨ (SqT X.K H p ys ∧ Q (.ref p) H))) := by
  intro pins s σ H xs us Q I r h
  obtain ⟨p, ys, rfl, h⟩ := h
  obtain ⟨u, rfl, rx⟩ := vals1 r
  cases rx
  rcases h with ⟨hq, q⟩ | ⟨hq, q⟩
  · obtain ⟨its, r', pl, hz⟩ := I.list hq
    have hlen := r'.length
    refine call_tuple_list pl.isList (fun h' kp => ?_) (by simp only [List.size_toArray] <;> omega)
    have I1 : Inv X pins σ H { s with heap := h' } := I.kept (t' := s.toks) kp
    have I2 : Inv X pins σ (upd H h'.objs.size (.tup ys)) { s with heap := h'.push { cls := .type "tuple", data := .seq its.toArray } } :=
      I1.laid (t' := s.toks) (fun b o e => Heap.get?_push_of_some _ e) (Nat.le_refl _) (show ObjOk X.prog X.w _ _ _ (.tup ys) from ⟨hz, its, r', IsTup.new _ _⟩)
    exact ⟨.ref h'.objs.size, _, I2, rfl, q _ (I1.hok.fresh (Nat.le_refl _))⟩
  · obtain ⟨its, r', pl, hz⟩ := I.tuple hq
    exact call_tuple_same pl ⟨.ref p, H, I, rfl, q⟩
noncomputable def tyV (K : PySem.W.Frag) (T : String) (x : V) (H : Hp) : Prop := match x with
  | .str _ => T = "str"
  | .int _ => T = "int"
  | .ref p => (T = "list" ∧ ∃ xs, SqL K H p xs) ∨ (T = "tuple" ∧ ∃ o, K.lookup p = some o ∧ o.cls = .type "tuple" ∧ o.dict = none) ∨
      (T = "dict" ∧ ((∃ kvs, H p = some (.dK kvs)) ∨ ∃ kvs, H p = some (.dT kvs))) ∨ (T = "set" ∧ ∃ S n, H p = some (.set S n))
  | _ => False
theorem tyV_is {pins : List (Addr × Obj)} {σ : St} {H : Hp} {s : Shared} {T : String} {x : V} {v : Value} (I : Inv X pins σ H s) (r : RelV x v) (ty : tyV X.K T x H) :
    s.TypeIs v T ∧ ∀ a, v = .ref a → ∃ ob, s.heap.get? a = some ob ∧ ob.dict = none := by
  cases x with
  | str z =>
    obtain ⟨t, rfl⟩ := r
    cases (show T = "str" from ty)
    exact ⟨typeIs_str s z t, fun _ e => nomatch e⟩
  | int i =>
    obtain ⟨t, rfl⟩ := r
    cases (show T = "int" from ty)
    exact ⟨typeIs_int s i t, fun _ e => nomatch e⟩
  | ref p =>
    cases r
    rcases ty with ⟨rfl, xs, hq⟩ | ⟨rfl, o, hk, hc, hd⟩ | ⟨rfl, hk⟩ | ⟨rfl, S, n, hk⟩
    · obtain ⟨its, _, pl, _⟩ := I.list hq
      refine ⟨pl.isList.typeIs, fun a e => ?_⟩
      cases e
      obtain ⟨o, n, e, c, hd, _⟩ := pl
      exact ⟨o, e, hd⟩
    · refine ⟨⟨o, I.kIn p o hk, hc⟩, fun a e => ?_⟩
      cases e
      exact ⟨o, I.kIn _ o hk, hd⟩
    · have z : ∃ o, s.heap.get? p = some o ∧ o.ExactDict := by
        rcases hk with ⟨kvs, hk⟩ | ⟨kvs, hk⟩
        · obtain ⟨_, _, _, _, o, _, _, e, ex, _⟩ := I.hok p _ hk
          exact ⟨o, e, ex⟩
        · obtain ⟨_, _, _, _, o, _, _, e, ex, _⟩ := I.hok p _ hk
          exact ⟨o, e, ex⟩
      obtain ⟨o, e, ex⟩ := z
      refine ⟨⟨o, e, ex.1⟩, fun a e2 => ?_⟩
      cases e2
      exact ⟨o, e, ex.2.1⟩
    · obtain ⟨o, _, _, _, e, ex, _⟩ := I.hok p _ hk
      refine ⟨⟨o, e, ex.1⟩, fun a e2 => ?_⟩
      cases e2
      exact ⟨o, e, ex.2.1⟩
  | _ => exact False.elim ty
noncomputable def tBM0 (K : PySem.W.Frag) (T : String) (r : V → List V → Hp → VK → Prop) (to : TE) : TE := fun σ H Q => to σ H fun x H1 => tyV K T x H1 ∧ r x [] H1 Q
noncomputable def tBM (K : PySem.W.Frag) (T : String) (r : V → List V → Hp → VK → Prop) (to : TE) (t : TA) : TE := fun σ H Q => to σ H fun x H1 => tyV K T x H1 ∧ t σ H1 fun xs H2 => r x xs H2 Q
variable {o e : Expr} {es : List Expr} {to : TE} {t : TA} {name : Str} {apos cpos : Pos} {T id : String} {r : V → List V → Hp → VK → Prop}
theorem pe_bm0 (pa : PlainAttrs T) (slot : Slot T name id) (hty : typeOf (.builtin id) = pure (.type "method_descriptor")) (hm : MtR X id r) (ho : PE X o to)
    (hbase : attributeBase o name X.env (eval o X.env) = eval o X.env := by rfl) (hline : (apos.endLine == cpos.line) = true := by rfl) : PE X (.Call (.Attribute o name apos) [] [] cpos) (tBM0 X.K T r to) := by
  intro pins s σ H Q I h
  refine wpAny_Call_method0_late hbase hline (thn (ho pins s σ H _ I h) fun v s1 ⟨x, H1, I1, r1, ty, q1⟩ => ?_)
  obtain ⟨h1, h2⟩ := tyV_is I1 r1 ty
  exact ⟨T, id, pa, slot, hty, h1, h2, Calls.callWith_builtin rfl (PySem.evalArgs_none (hm pins s1 σ H1 x [] v [] Q I1 r1 .nil q1))⟩
theorem pe_bm (pa : PlainAttrs T) (slot : Slot T name id) (hty : typeOf (.builtin id) = pure (.type "method_descriptor")) (hm : MtR X id r) (ho : PE X o to) (ha : PA X (e :: es) t)
    (hbase : attributeBase o name X.env (eval o X.env) = eval o X.env := by rfl)
    (hfew : ((backTo cpos (starEach (e :: es) X.env)).all (fun x => !x.1) && (backToKw cpos (keywordEach [] X.env)).all (fun x => x.1.isSome)
      && decide ((e :: es).length + ([] : List Keyword).length + (if ([] : List Keyword).isEmpty then 0 else 1) < 30)) = true := by rfl)
    (hline : (apos.endLine == cpos.line) = true := by rfl) (hs : starEach (e :: es) X.env = (false, eval e X.env) :: starEach es X.env := by rfl) (hplain : (backTo cpos (starEach es X.env)).any (·.1) = false := by rfl) :
    PE X (.Call (.Attribute o name apos) (e :: es) [] cpos) (tBM X.K T r to t) := by
  intro pins s σ H Q I h
  refine wpAny_Call_method_late hbase hfew hline rfl (thn (ho pins s σ H _ I h) fun v s1 ⟨x, H1, I1, r1, ty, q1⟩ => ?_)
  obtain ⟨h1, h2⟩ := tyV_is I1 r1 ty
  refine ⟨T, id, pa, slot, hty, h1, h2, ?_⟩
  have hA := ha cpos pins s1 σ H1 _ I1 q1
  rw [hs] at hA ⊢
  refine Calls.callWith_builtin (by show (false || (backTo cpos (starEach es X.env)).any (·.1)) = false; rw [hplain] <;> rfl) (Calls.evalArgs_plain ?_)
  exact thn hA fun us s2 ⟨vs, H2, I2, r2, q2⟩ => hm pins s2 σ H2 x vs v us Q I2 r1 r2 q2
end
end L2
namespace L2
open PySem PySem.Spec PyProof.Rows
noncomputable def MtM (X : Cx) (id : String) (r : V → List V → Hp → VK → Prop) : Prop :=
  ∀ (pins : List (Addr × Obj)) (s : Shared) (σ : St) (H : Hp) (x : V) (xs : List V) (v : Value) (us : List Value) (Q : VK), Inv X pins σ H s → RelV x v → Vals xs us → r x xs H Q →
    wpAny (model X.prog X.w) X.A (call (.builtin id) (v :: us)) (EP X pins σ Q) X.xe s
theorem Vals.one : ∀ {x : V} {us : List Value}, Vals [x] us → ∃ u, us = [u] ∧ RelV x u
  | _, _, .cons r .nil => ⟨_, rfl, r⟩
theorem Vals.rep {xs : List V} {us : List Value} (h : Vals xs us) : ∀ k : Nat, Vals (List.replicate k xs).flatten (List.replicate k us).flatten
  | 0 => .nil
  | k + 1 => by
    rw [List.replicate_succ, List.replicate_succ, List.flatten_cons, List.flatten_cons]
    exact Vals.append h (Vals.rep h k)
theorem foldl_rep (its : List Value) : ∀ (k : Nat) (acc : List Value),
    List.foldl (fun x1 x2 => x1 ++ x2) acc.toArray (List.replicate k its.toArray) = (acc ++ (List.replicate k its).flatten).toArray
  | 0, acc => by simp
  | k + 1, acc => by
    have e : acc.toArray ++ its.toArray = (acc ++ its).toArray := by simp
    have e2 : (acc ++ its) ++ (List.replicate k its).flatten = acc ++ (List.replicate (k + 1) its).flatten := by
      rw [List.replicate_succ, List.flatten_cons, List.append_assoc]
    rw [← e2, ← foldl_rep its k (acc ++ its), ← e, List.replicate_succ, List.foldl_cons]
section
variable {X : Cx} {pins : List (Addr × Obj)} {σ : St} {H : Hp} {s : Shared} {l b : Addr} {xs ys zs : List V}
theorem Inv.lset {its its' : List Value} {n : Nat} {f : Array Value → Array Value} {t' : Nat} (I : Inv X pins σ H s) (hH : H l = some (.lst xs))
    (e : s.heap.get? l = some { cls := .type "list", data := .seq its.toArray n }) (hf : f its.toArray = its'.toArray) (hv : Vals ys its') (hz : ys.length ≤ sizeLine) :
    Inv X pins σ (upd H l (.lst ys)) { s with heap := s.heap.update l (Obj.mapSeq f), toks := t' } := by
  have q := PySem.IsL.update e f
  rw [hf] at q
  refine I.write (x := l) (e := l) (by rw [hH]; exact trivial) (.inl rfl) (fun b' u hb hu => (Heap.get?_update_other s.heap (Obj.mapSeq f) (Ne.symm hb)).trans hu) ⟨_, q⟩ ?_
  exact ⟨hz, its', _, hv, q⟩
theorem Inv.lnew {its : List Value} {t' : Nat} (I : Inv X pins σ H s) (hv : Vals ys its) (hz : ys.length ≤ sizeLine) :
    Inv X pins σ (upd H s.heap.objs.size (.lst ys)) { s with heap := s.heap.push { cls := .type "list", data := .seq its.toArray }, toks := t' } :=
  I.laid (fun _ _ q => Heap.get?_push_of_some _ q) (Nat.le_refl _) ⟨hz, its, 0, hv, Heap.get?_push_size _ rfl⟩
theorem Inv.fresh (I : Inv X pins σ H s) : H s.heap.objs.size = none := I.hok.fresh (Nat.le_refl _)
theorem Inv.lstM (I : Inv X pins σ H s) (hH : H l = some (.lst xs)) : xs.length ≤ sizeLine ∧ ∃ (its : List Value) (n : Nat), Vals xs its ∧ xs.length = its.length ∧ s.heap.get? l = some { cls := .type "list", data := .seq its.toArray n } := by
  obtain ⟨z, its, n, r, e⟩ := I.hok l _ hH
  exact ⟨z, its, n, r, r.length, e⟩
theorem notLongL {n : Nat} (h : n ≤ sizeLine) : Builtin.List.listTooLong n = false := by
  unfold Builtin.List.listTooLong
  exact decide_eq_false (by omega)
end
section
variable {X : Cx}
noncomputable def rAppend : V → List V → Hp → VK → Prop := fun x vs H Q => ∃ l xs y, x = .ref l ∧ vs = [y] ∧ H l = some (.lst xs) ∧ xs.length < sizeLine ∧ Q .non (upd H l (.lst (xs ++ [y])))
theorem mt_append : MtM X "list.append" rAppend := by
  intro pins s σ H x vs v us Q I rx rv h
  obtain ⟨l, xs, y, rfl, rfl, hH, hz, q⟩ := h
  cases rx
  obtain ⟨u, rfl, ru⟩ := rv.one
  obtain ⟨z, its, n, r, hl, e⟩ := I.lstM hH
  refine call_meets F.slot_list_append ⟨_, e, rfl⟩ F.entry_list_append (F.args_list_append_2 _ _) (PySem.list_append l its.toArray n u (by rw [List.size_toArray]; omega)) ⟨e, ?_⟩
  refine ⟨.non, _, I.lset (its' := its ++ [u]) hH e (by simp) (r.append (.cons ru .nil)) ?_, rfl, q⟩
  rw [List.length_append, List.length_singleton]
  omega
noncomputable def rExtend : V → List V → Hp → VK → Prop := fun x vs H Q => ∃ l b xs zs, x = .ref l ∧ vs = [.ref b] ∧ H l = some (.lst xs) ∧ H b = some (.lst zs) ∧ xs.length + zs.length ≤ sizeLine ∧ Q .non (upd H l (.lst (xs ++ zs)))
theorem mt_extend : MtM X "list.extend" rExtend := by
  intro pins s σ H x vs v us Q I rx rv h
  obtain ⟨l, b, xs, zs, rfl, rfl, hH, hB, hz, q⟩ := h
  cases rx
  obtain ⟨u, rfl, ru⟩ := rv.one
  cases ru
  obtain ⟨z, its, n, r, hl, e⟩ := I.lstM hH
  obtain ⟨z2, its2, n2, r2, hl2, e2⟩ := I.lstM hB
  have hsz : its.toArray.size + its2.toArray.size ≤ sizeLine := by rw [List.size_toArray, List.size_toArray]; omega
  have hlong : ¬ (!its.toArray.isEmpty && Builtin.List.listTooLong (its.toArray.size + its2.toArray.size)) = true := by
    rw [notLongL hsz, Bool.and_false]
    exact Bool.false_ne_true
  refine call_meets F.slot_list_extend ⟨_, e, rfl⟩ F.entry_list_extend (F.args_list_extend_2 _ _)
    (AutoSeq1.list_extend_list_list_0 l its.toArray n b its2.toArray n2 hlong (by rw [List.size_toArray]; omega) (by omega)) ⟨e, e2, ?_⟩
  refine ⟨.non, _, I.lset (its' := its ++ its2) hH e (by simp) (r.append r2) ?_, rfl, q⟩
  rw [List.length_append]
  omega
noncomputable def rRep : R2 := fun x y H Q => ∃ l k xs, x = .ref l ∧ y = .int k ∧ H l = some (.lst xs) ∧ -(2 ^ 63) ≤ k ∧ k < 2 ^ 63 ∧ xs.length * k.toNat ≤ sizeLine ∧
  ∀ p, H p = none → Q (.ref p) (upd H p (.lst (List.replicate k.toNat xs).flatten))
theorem len_rep {α : Type} (xs : List α) (k : Nat) : (List.replicate k xs).flatten.length = k * xs.length := by
  induction k with
  | zero => simp
  | succ k ih => rw [List.replicate_succ, List.flatten_cons, List.length_append, ih, Nat.succ_mul, Nat.add_comm]
theorem op_rep : OpR X (binaryOp .Mult) rRep := by
  intro pins s σ H x y v u Q I rx ry h
  obtain ⟨l, k, xs, rfl, rfl, hH, h1, h2, hz, q⟩ := h
  cases rx
  obtain ⟨t, rfl⟩ := ry
  obtain ⟨z, its, n, r, hl, e⟩ := I.lstM hH
  have hlen : its.toArray.size * k.toNat ≤ sizeLine := by rw [List.size_toArray, ← hl]; exact hz
  have hcap : ¬ its.toArray.size * k.toNat > (2 ^ 63 - 1) / 8 := by
    have : (sizeLine : Nat) ≤ (2 ^ 63 - 1) / 8 := by decide
    omega
  have hfit : ¬ (!Builtin.List.listFitsIndex k) = true := by
    rw [fitsIndex_both h1 h2]
    exact Bool.false_ne_true
  have hlong : ¬ Builtin.List.listTooLong (its.toArray.size * k.toNat) = true := by
    rw [notLongL hlen]
    exact Bool.false_ne_true
  have hnew : List.foldl (fun x1 x2 => x1 ++ x2) #[] (List.replicate (if its.toArray.isEmpty = true then 0 else k.toNat) its.toArray) = (List.replicate k.toNat its).flatten.toArray := by
    have f0 : ∀ m : Nat, List.foldl (fun x1 x2 => x1 ++ x2) #[] (List.replicate m its.toArray) = (List.replicate m its).flatten.toArray := fun m => by
      have := foldl_rep its m []
      rw [List.nil_append] at this
      exact this
    rw [f0]
    cases its with
    | nil => simp
    | cons a r' => rw [if_neg (by simp)]
  refine wpAny_binaryOp_repeat_ref (T := "list") (U := "int") (by decide) ⟨_, e, rfl⟩ (fun s' => typeIs_int s' k t) noFill_list_mul F.fills_int_mul F.slot_int_rmul repeat_list F.slot_int_index.lookup
    (call_meets F.slot_int_rmul (typeIs_int s k t) F.entry_int_rmul (F.args_int_rmul_2 _ _) (int___rmul___int_list k t l its.toArray n)
      ⟨e, rfl, ⟨_, e, rfl⟩, call_meets F.slot_list_mul ⟨_, e, rfl⟩ F.entry_list_mul (F.args_list_mul_2 _ _) (AutoListH.list___mul___list_int_3 l its.toArray n k t hfit hcap hlong) ⟨e, ?_⟩⟩)
  rw [hnew]
  exact ⟨.ref _, _, I.lnew (t' := s.toks) (r.rep k.toNat) (by rw [len_rep, Nat.mul_comm]; exact hz), rfl, q _ I.fresh⟩
end
section
variable {prog : Program} {w : World} {A : Around} {E : Value → Shared → Prop} {s : Shared}
end
section
variable {X : Cx}
end
end L2
namespace L2
open PySem PySem.Spec PyProof.Rows
theorem Vals.ints : ∀ {ns : List Int} {us : List Value}, Vals (ns.map V.int) us → IntsAre us ns
  | [], us, h => by
    rw [List.map_nil] at h
    cases h
    exact IntsAre.nil
  | n :: ns, us, h => by
    rw [List.map_cons] at h
    cases h with
    | cons r t =>
      obtain ⟨k, rfl⟩ := r
      exact IntsAre.cons n k (Vals.ints t)
section
variable {prog : Program} {w : World} {A : Around} {E : Value → Shared → Prop} {s : Shared} {l : Addr} {its : List Value} {ns : List Int} {Q : Value → Shared → Prop}
end
section
variable {X : Cx}
end
section
variable {X : Cx}
end
section
variable {X : Cx}
end
section
variable {X : Cx}
end
mutual
inductive Dp (K : PySem.W.Frag) (H : Hp) : V → PyData → Prop
  | non : Dp K H .non .none
  | bl (b : Bool) : Dp K H (.bl b) (.bool b)
  | int (i : Int) : Dp K H (.int i) (.int i)
  | str (x : Str) : Dp K H (.str x) (.str x)
  | lst {a : Addr} {xs : List V} {ds : List PyData} : SqL K H a xs → DpAll K H xs ds → Dp K H (.ref a) (.list ds)
  | tup {a : Addr} {xs : List V} {ds : List PyData} : SqT K H a xs → DpAll K H xs ds → Dp K H (.ref a) (.tuple ds)
inductive DpAll (K : PySem.W.Frag) (H : Hp) : List V → List PyData → Prop
  | nil : DpAll K H [] []
  | cons {v : V} {vs : List V} {d : PyData} {ds : List PyData} : Dp K H v d → DpAll K H vs ds → DpAll K H (v :: vs) (d :: ds)
end
section
variable {X : Cx} {pins : List (Addr × Obj)} {σ : St} {H : Hp} {s : Shared}
mutual
theorem Dp.reads (I : Inv X pins σ H s) : ∀ (d : PyData) (v : V) (u : Value), Dp X.K H v d → RelV v u → ∃ as, Reads s.heap u d as
  | .none, _, _, h, r => by
    cases h
    cases r
    exact ⟨_, Reads.none⟩
  | .bool b, _, _, h, r => by
    cases h
    cases r
    exact ⟨_, Reads.bool b⟩
  | .int i, _, _, h, r => by
    cases h
    obtain ⟨t, rfl⟩ := r
    exact ⟨_, Reads.int i t⟩
  | .str x, _, _, h, r => by
    cases h
    obtain ⟨t, rfl⟩ := r
    exact ⟨_, Reads.str x t⟩
  | .list ds, _, _, h, r => by
    cases h with
    | lst hs ha =>
      cases r
      obtain ⟨its, rv, ⟨o, n, ho, hc, _, hd⟩, _⟩ := I.list hs
      obtain ⟨as, hr⟩ := Dp.readsAll I ds _ its ha rv
      exact ⟨_, Reads.list ho hc hd hr⟩
  | .tuple ds, _, _, h, r => by
    cases h with
    | tup hs ha =>
      cases r
      obtain ⟨its, rv, ⟨o, ho, hc, n, hd⟩, _⟩ := I.tuple hs
      obtain ⟨as, hr⟩ := Dp.readsAll I ds _ its ha rv
      exact ⟨_, Reads.tuple ho hc hd hr⟩
  | .dict _, _, _, h, _ => by cases h
theorem Dp.readsAll (I : Inv X pins σ H s) : ∀ (ds : List PyData) (vs : List V) (us : List Value), DpAll X.K H vs ds → Vals vs us → ∃ as, ReadsAll s.heap us ds as
  | [], _, _, h, r => by
    cases h
    cases r
    exact ⟨_, ReadsAll.nil⟩
  | d :: ds, _, _, h, r => by
    cases h with
    | cons h1 h2 =>
      cases r with
      | cons r1 r2 =>
        obtain ⟨as, q1⟩ := Dp.reads I d _ _ h1 r1
        obtain ⟨bs, q2⟩ := Dp.readsAll I ds _ _ h2 r2
        exact ⟨_, ReadsAll.cons q1 q2⟩
end
end
section
variable {X : Cx}
noncomputable def rEqD (K : PySem.W.Frag) : R2 := fun x y H Q => ∃ d e, Dp K H x d ∧ Dp K H y e ∧ SeqAt.shaped d = true ∧ SeqAt.shaped e = true ∧ Q (.bl (PyData.eqv d e)) H
theorem op_eqD (hu : X.A.units + 64 < cLine) : OpR X (compareOp .Eq) (rEqD X.K) := by
  intro pins s σ H x y v u Q I rx ry h
  obtain ⟨d, e, hd, he, sd, se, q⟩ := h
  obtain ⟨as, r1⟩ := Dp.reads I d x v hd rx
  obtain ⟨bs, r2⟩ := Dp.reads I e y u he ry
  exact SeqAt.compareEq_shaped r1 r2 sd se hu ⟨.bl _, H, I, rfl, q⟩
end
end L2
namespace L2
open PySem PySem.Spec PyProof.Rows
noncomputable abbrev CellAt (h : Heap) (c : Addr) (v : Option Value) : Prop := h.IsCell c v
noncomputable def relS (scope sc : Scope) : Scope :=
  { scope with names := scope.names.map fun (n, k) => if (k == .free && sc.kind == .function && sc.names.lookup n == some .cell) then (n, .cell) else (n, k) }
noncomputable def cloFrom (cells : List (Str × Addr)) : List (Str × NameKind) → List (Str × Addr) → List (Str × Addr)
  | [], acc => acc
  | (n, k) :: r, acc => if k == .free then cloFrom cells r ((n, (cells.lookup n).getD 0) :: acc) else cloFrom cells r acc
theorem closure_loop (env : Env) (f : Str × NameKind → List (Str × Addr) → Sem (ForInStep (List (Str × Addr))))
    (hf : ∀ n k c, f (n, k) c = if k == .free then (do let a ← cellOf env n; pure (.yield ((n, a) :: c))) else pure (.yield c)) :
    ∀ (names : List (Str × NameKind)) (acc : List (Str × Addr)), (∀ y ∈ names, y.2 = .free → ∃ c, env.cells.lookup y.1 = some c) → forIn names acc f = pure (cloFrom env.cells names acc)
  | [], acc, _ => by rw [List.forIn_nil]; rfl
  | (n, k) :: r, acc, h => by
    rw [List.forIn_cons, hf]
    have ih := fun acc => closure_loop env f hf r acc fun y hy => h y (List.mem_cons_of_mem _ hy)
    unfold cloFrom
    by_cases hk : (k == NameKind.free) = true
    · rw [if_pos hk, if_pos hk]
      obtain ⟨c, hc⟩ := h (n, k) List.mem_cons_self (by simpa using hk)
      have e : cellOf env n = pure c := by unfold cellOf; rw [hc]
      rw [e]
      have e2 : (env.cells.lookup n).getD 0 = c := by rw [hc]; rfl
      rw [e2]
      exact ih _
    · rw [if_neg hk, if_neg hk]
      exact ih _
theorem closure_ok {scope : Scope} {env : Env} (h : ∀ y ∈ scope.names, y.2 = .free → ∃ c, env.cells.lookup y.1 = some c) : closureFor scope env = pure (cloFrom env.cells scope.names []) := by
  simp only [closureFor]
  rw [closure_loop env _ (fun n k c => rfl) scope.names [] h]
  rfl
theorem mem_lookup {α : Type} : ∀ {l : List (Str × α)} {n : Str} {c : α}, (n, c) ∈ l → ∃ c', l.lookup n = some c'
  | (k, v) :: r, n, c, h => by
    rw [List.lookup_cons]
    cases hb : n == k with
    | true => exact ⟨_, rfl⟩
    | false =>
      rcases List.mem_cons.mp h with e | h
      · cases e; simp at hb
      · exact mem_lookup h
theorem cloFrom_mem {cells : List (Str × Addr)} : ∀ {names : List (Str × NameKind)} {acc : List (Str × Addr)} {n : Str} {c : Addr}, (n, c) ∈ cloFrom cells names acc → (n, c) ∈ acc ∨ ((n, .free) ∈ names ∧ c = (cells.lookup n).getD 0)
  | [], _, _, _, h => .inl h
  | (m, k) :: r, acc, n, c, h => by
    unfold cloFrom at h
    split at h
    · rename_i hk
      have hk : k = .free := by simpa using hk
      rcases cloFrom_mem h with h | ⟨h1, h2⟩
      · rcases List.mem_cons.mp h with e | h
        · cases e; exact .inr ⟨hk ▸ List.mem_cons_self, rfl⟩
        · exact .inl h
      · exact .inr ⟨List.mem_cons_of_mem _ h1, h2⟩
    · rcases cloFrom_mem h with h | ⟨h1, h2⟩
      · exact .inl h
      · exact .inr ⟨List.mem_cons_of_mem _ h1, h2⟩
theorem cloFrom_acc {cells : List (Str × Addr)} : ∀ {names : List (Str × NameKind)} {acc : List (Str × Addr)} {p : Str × Addr}, p ∈ acc → p ∈ cloFrom cells names acc
  | [], _, _, h => h
  | (m, k) :: r, acc, p, h => by
    unfold cloFrom
    split
    · exact cloFrom_acc (List.mem_cons_of_mem _ h)
    · exact cloFrom_acc h
theorem cloFrom_has {cells : List (Str × Addr)} : ∀ {names : List (Str × NameKind)} {acc : List (Str × Addr)} {n : Str}, (n, .free) ∈ names → (n, (cells.lookup n).getD 0) ∈ cloFrom cells names acc
  | (m, k) :: r, acc, n, h => by
    unfold cloFrom
    rcases List.mem_cons.mp h with e | h
    · cases e
      exact cloFrom_acc List.mem_cons_self
    · split
      · exact cloFrom_has h
      · exact cloFrom_has h
theorem cells_mem : ∀ {names : List (Str × NameKind)} {h : Heap} {acc : List (Str × Addr)} {x : Str} {c : Addr}, (x, c) ∈ cellsFrom h.objs.size names acc →
    (x, c) ∈ acc ∨ ((x, .cell) ∈ names ∧ h.objs.size ≤ c ∧ CellAt (pushCells h names) c none)
  | [], _, _, _, _, h => .inl h
  | (n, k) :: r, h, acc, x, c, hm => by
    unfold cellsFrom at hm
    unfold pushCells
    split at hm
    · rename_i hk
      rw [if_pos hk]
      have hk : k = .cell := by simpa using hk
      rw [← Heap.size_push h { cls := .type "cell", data := .cell none }] at hm
      rcases cells_mem hm with hm | ⟨h1, h2, h3⟩
      · rcases List.mem_cons.mp hm with e | hm
        · cases e
          exact .inr ⟨hk ▸ List.mem_cons_self, Nat.le_refl _, _, pushCells_keeps r _ _ _ (Heap.get?_push_size _ rfl), rfl⟩
        · exact .inl hm
      · rw [Heap.size_push] at h2
        exact .inr ⟨List.mem_cons_of_mem _ h1, Nat.le_of_succ_le h2, h3⟩
    · rename_i hk
      rw [if_neg hk]
      rcases cells_mem hm with hm | ⟨h1, h2, h3⟩
      · exact .inl hm
      · exact .inr ⟨List.mem_cons_of_mem _ h1, h2, h3⟩
theorem cells_acc : ∀ {names : List (Str × NameKind)} {n : Nat} {acc : List (Str × Addr)} {p : Str × Addr}, p ∈ acc → p ∈ cellsFrom n names acc
  | [], _, _, _, h => h
  | (m, k) :: r, n, acc, p, h => by
    unfold cellsFrom
    split
    · exact cells_acc (List.mem_cons_of_mem _ h)
    · exact cells_acc h
theorem cells_has : ∀ {names : List (Str × NameKind)} {n : Nat} {acc : List (Str × Addr)} {x : Str}, (x, .cell) ∈ names → ∃ c, (x, c) ∈ cellsFrom n names acc
  | (m, k) :: r, n, acc, x, h => by
    unfold cellsFrom
    rcases List.mem_cons.mp h with e | h
    · cases e
      exact ⟨n, cells_acc List.mem_cons_self⟩
    · split
      · exact cells_has h
      · exact cells_has h
theorem cells_inj : ∀ {names : List (Str × NameKind)} {h : Heap} {acc : List (Str × Addr)} {x y : Str} {c : Addr}, (∀ p ∈ acc, p.2 < h.objs.size) → (∀ x y c, (x, c) ∈ acc → (y, c) ∈ acc → x = y) →
    (x, c) ∈ cellsFrom h.objs.size names acc → (y, c) ∈ cellsFrom h.objs.size names acc → x = y
  | [], _, _, _, _, _, _, hi, h1, h2 => hi _ _ _ h1 h2
  | (n, k) :: r, h, acc, x, y, c, hl, hi, h1, h2 => by
    unfold cellsFrom at h1 h2
    split at h1
    · rename_i hk
      rw [if_pos hk] at h2
      rw [← Heap.size_push h { cls := .type "cell", data := .cell none }] at h1 h2
      refine cells_inj (h := h.push _) (fun p hp => ?_) (fun x y c a b => ?_) h1 h2
      · rw [Heap.size_push]
        rcases List.mem_cons.mp hp with rfl | hp
        · exact Nat.lt_succ_self _
        · exact Nat.lt_succ_of_lt (hl p hp)
      · rcases List.mem_cons.mp a with e | a <;> rcases List.mem_cons.mp b with e' | b
        · cases e; cases e'; rfl
        · cases e; exact absurd (hl _ b) (Nat.lt_irrefl _)
        · cases e'; exact absurd (hl _ a) (Nat.lt_irrefl _)
        · exact hi _ _ _ a b
    · rename_i hk
      rw [if_neg hk] at h2
      exact cells_inj hl hi h1 h2
theorem newEnv_comp {M : Model} {A : Around} {E : Value → Shared → Prop} {s : Shared} {scope : Scope} {globals : Addr} {closure : List (Str × Addr)} {qual : Str} {func : Option Addr} {code : Value} {around : Env} {builtins : Addr} {Q : Env → Shared → Prop}
    (h : Q (newEnv scope s.heap.objs.size globals (cellsFrom (s.heap.objs.size + 1) scope.names closure) qual func code (some around) builtins)
      { s with heap := pushCells (s.heap.push { cls := .type "dict", data := .dict #[] }) scope.names }) :
    wpAny M A (newFunctionEnv scope globals closure [] qual func code (some around) builtins) Q E s := by
  simp only [newFunctionEnv, Option.isSome_some, if_true]
  refine wpAny_bind (wpAny_alloc ?_)
  refine wpAny_bind (wpAny_layCells _ (fun n k c => rfl) scope.names closure _ _ ?_)
  rw [show ({ s with heap := s.heap.push { cls := .type "dict", data := .dict #[] } } : Shared).heap.objs.size = s.heap.objs.size + 1 from Heap.size_push ..]
  rw [List.forIn_nil]
  exact wpAny_bind (wpAny_pure (wpAny_pure h))
theorem lookup_relS {sc : Scope} : ∀ {names : List (Str × NameKind)} {x : Str} {k : NameKind},
    (names.map fun (n, k) => if (k == NameKind.free && sc.kind == .function && sc.names.lookup n == some .cell) then (n, NameKind.cell) else (n, k)).lookup x = some k →
    ∃ k', names.lookup x = some k' ∧ (k = k' ∨ (k' = .free ∧ k = .cell))
  | [], _, _, h => by simp at h
  | (n, k₀) :: r, x, k, h => by
    have ih := @lookup_relS sc r x k
    have h' : List.lookup x ((if (k₀ == NameKind.free && sc.kind == .function && sc.names.lookup n == some .cell) = true then (n, NameKind.cell) else (n, k₀)) :: (r.map _)) = some k := h
    cases hx : x == n with
    | true =>
      simp only [List.lookup_cons, hx]
      by_cases hc : (k₀ == NameKind.free && sc.kind == .function && sc.names.lookup n == some .cell) = true
      · rw [if_pos hc] at h'
        simp only [List.lookup_cons, hx] at h'
        cases h'
        simp only [Bool.and_eq_true, beq_iff_eq] at hc
        exact ⟨k₀, rfl, .inr ⟨hc.1.1, rfl⟩⟩
      · rw [if_neg hc] at h'
        simp only [List.lookup_cons, hx] at h'
        cases h'
        exact ⟨_, rfl, .inl rfl⟩
    | false =>
      simp only [List.lookup_cons, hx]
      by_cases hc : (k₀ == NameKind.free && sc.kind == .function && sc.names.lookup n == some .cell) = true
      · rw [if_pos hc] at h'
        simp only [List.lookup_cons, hx] at h'
        exact ih h'
      · rw [if_neg hc] at h'
        simp only [List.lookup_cons, hx] at h'
        exact ih h'
structure BlkOk (N : List Str) (sc scope : Scope) (own : List (Str × Nat)) : Prop where
  kind : scope.kind = .function
  uniq : ∀ y ∈ scope.names, scope.names.lookup y.1 = some y.2
  ix : ∀ p ∈ own, N[p.2]? = some p.1
  free : ∀ y ∈ scope.names, y.2 = .free → sc.names.lookup y.1 = some .cell ∨ sc.names.lookup y.1 = some .free
  own : ∀ y ∈ scope.names, y.2 = .local ∨ y.2 = .cell → y.1 ∈ own.map (·.1) ∨ y.1 ∉ N
noncomputable def wipe (σ : St) : List Nat → St
  | [] => σ
  | v :: vs => (wipe σ vs).set v none
theorem wipe_length (σ : St) : ∀ vs : List Nat, (wipe σ vs).length = σ.length
  | [] => rfl
  | v :: vs => by unfold wipe; rw [List.length_set, wipe_length σ vs]
theorem wipe_some {σ : St} {i : Nat} {x : V} : ∀ {vs : List Nat}, (wipe σ vs)[i]? = some (some x) → σ[i]? = some (some x) ∧ i ∉ vs
  | [], h => ⟨h, by simp⟩
  | v :: vs, h => by
    unfold wipe at h
    by_cases hi : v = i
    · subst hi
      by_cases hv : v < (wipe σ vs).length
      · rw [List.getElem?_set_self hv] at h; cases h
      · rw [List.getElem?_eq_none (by simpa using hv)] at h; cases h
    · rw [List.getElem?_set_ne hi] at h
      obtain ⟨h1, h2⟩ := wipe_some h
      exact ⟨h1, by simp only [List.mem_cons, not_or]; exact ⟨fun e => hi e.symm, h2⟩⟩
noncomputable abbrev Cx.blk (X : Cx) (s : Shared) (H : Hp) (scope : Scope) (cenv : Env) (fp : List Addr) : Cx := { X with s_0 := s, H_0 := H, env := cenv, outer := X.stack, ex := fp, fn := fun x => scope.names.lookup x == some .cell, pn := [], xe := fun _ _ => False }
section
variable {X : Cx} {pins : List (Addr × Obj)} {σ : St} {H : Hp} {s : Shared}
theorem block_start {scope : Scope} {own : List (Str × Nat)} {fp : List Addr} (I : Inv X pins σ H s) (ok : BlkOk X.N X.env.scope scope own) (hN : X.N.Nodup) (hfp : ∀ b ∈ fp, FpOk X pins H b ∧ b < s.heap.objs.size) :
    Inv (X.blk s H scope (compEnvC scope (cellsFrom (s.heap.objs.size + 1) scope.names (cloFrom X.env.cells scope.names [])) s.heap.objs.size X.env) fp) [] (wipe σ (own.map (·.2))) H { s with heap := pushCells (s.heap.push { cls := .type "dict", data := .dict #[] }) scope.names } := by
  have hfree : ∀ y ∈ scope.names, y.2 = .free → ∃ c, X.env.cells.lookup y.1 = some c := fun y hy e => by
    rcases ok.free y hy e with k | k
    · exact I.ok.has _ (.inl k)
    · exact I.ok.has _ (.inr k)
  generalize hcenv : compEnvC scope (cellsFrom (s.heap.objs.size + 1) scope.names (cloFrom X.env.cells scope.names [])) s.heap.objs.size X.env = cenv
  have kp : ∀ b o, s.heap.get? b = some o → (pushCells (s.heap.push { cls := .type "dict", data := .dict #[] }) scope.names).get? b = some o := fun b o e => pushCells_keeps _ _ _ _ (Heap.get?_push_of_some _ e)
  have hL : cenv.locals = s.heap.objs.size := by rw [← hcenv]; rfl
  have hcl : cenv.cells = cellsFrom (s.heap.objs.size + 1) scope.names (cloFrom X.env.cells scope.names []) := by rw [← hcenv]; rfl
  have hsc : cenv.scope = relS scope X.env.scope := by rw [← hcenv]; rfl
  rw [← Heap.size_push s.heap { cls := .type "dict", data := .dict #[] }] at hcl
  have cm : ∀ {y c}, (y, c) ∈ cloFrom X.env.cells scope.names [] → X.env.cells.lookup y = some c ∧ c < s.heap.objs.size := fun {y c} hm => by
    rcases cloFrom_mem hm with hm | ⟨h1, rfl⟩
    · cases hm
    · obtain ⟨c, hc⟩ := hfree _ h1 rfl
      rw [hc]
      obtain ⟨w, z⟩ := I.cell _ _ hc
      exact ⟨rfl, z.lt⟩
  have mem : ∀ {y c}, cenv.cells.lookup y = some c → (X.env.cells.lookup y = some c ∧ c < s.heap.objs.size) ∨ (s.heap.objs.size + 1 ≤ c ∧ CellAt (pushCells (s.heap.push { cls := .type "dict", data := .dict #[] }) scope.names) c none) := fun {y c} e => by
    rw [hcl] at e
    rcases cells_mem (PySem.mem_of_lookup e) with hm | ⟨_, h2, h3⟩
    · exact .inl (cm hm)
    · rw [Heap.size_push] at h2; exact .inr ⟨h2, h3⟩
  have look : ∀ {y}, scope.names.lookup y = some .free → ∃ c, cenv.cells.lookup y = some c ∧ X.env.cells.lookup y = some c := fun {y} hl => by
    have hy : (y, NameKind.free) ∈ scope.names := PySem.mem_of_lookup hl
    obtain ⟨c', e'⟩ := mem_lookup (cells_acc (names := scope.names) (n := (s.heap.push { cls := .type "dict", data := .dict #[] }).objs.size) (cloFrom_has (cells := X.env.cells) (acc := []) hy))
    rw [← hcl] at e'
    refine ⟨c', e', ?_⟩
    rw [hcl] at e'
    rcases cells_mem (PySem.mem_of_lookup e') with hm | ⟨h1, _, _⟩
    · exact (cm hm).1
    · have := ok.uniq _ h1
      rw [hl] at this; cases this
  have okB : (X.blk s H scope cenv fp).Ok := by
    refine ⟨I.ok.mod, by show cenv.scope.kind = _; rw [hsc]; exact ok.kind, by show cenv.globals = _; rw [← hcenv]; exact I.ok.glob, by show cenv.builtins = _; rw [← hcenv]; exact I.ok.blt, by show s.heap.objs.size ≤ cenv.locals; rw [hL]; exact Nat.le_refl _,
      fun y z c e1 e2 => ?_, fun y hy => ?_, fun y c z e => ?_, I.ok.hd, I.ok.frames, .inl rfl, fun b hb => ⟨?_, fun y c e z => ?_⟩, I.bs, Nat.le_trans I.ok.bsz I.sz, fun b o e hb => ?_, fun b hb z => ?_, I.stack, I.stkFree⟩
    · have e1 : cenv.cells.lookup y = some c := e1
      have e2 : cenv.cells.lookup z = some c := e2
      rw [hcl] at e1 e2
      refine cells_inj (fun p hp => ?_) (fun y z c a b => I.ok.inj y z c (cm a).1 (cm b).1) (PySem.mem_of_lookup e1) (PySem.mem_of_lookup e2)
      rw [Heap.size_push]
      exact Nat.lt_succ_of_lt (cm (y := p.1) (c := p.2) hp).2
    · show ∃ c, cenv.cells.lookup y = some c
      have key : ∀ k, cenv.kindOf y = some k → (k = .cell ∨ k = .free) → ∃ c, cenv.cells.lookup y = some c := fun k hk hk' => by
        unfold Env.kindOf at hk
        rw [hsc] at hk
        obtain ⟨k', e, r⟩ := lookup_relS hk
        have : k' = .cell ∨ k' = .free := by
          rcases r with rfl | ⟨rfl, _⟩
          · exact hk'
          · exact .inr rfl
        rcases this with rfl | rfl
        · obtain ⟨c, hm⟩ := cells_has (n := (s.heap.push { cls := .type "dict", data := .dict #[] }).objs.size) (acc := cloFrom X.env.cells scope.names []) (PySem.mem_of_lookup e)
          obtain ⟨c', e'⟩ := mem_lookup hm
          exact ⟨c', by rw [hcl]; exact e'⟩
        · obtain ⟨c, h1, _⟩ := look e
          exact ⟨c, h1⟩
      rcases hy with hy | hy
      · exact key _ hy (.inl rfl)
      · exact key _ hy (.inr rfl)
    · have z : (scope.names.lookup y == some NameKind.cell) = true := z
      have z : scope.names.lookup y = some .cell := by simpa using z
      have e : cenv.cells.lookup y = some c := e
      rw [hcl] at e
      rcases cells_mem (PySem.mem_of_lookup e) with hm | ⟨_, h2, _⟩
      · rcases cloFrom_mem hm with hm | ⟨h1, _⟩
        · cases hm
        · have q := ok.uniq _ h1
          rw [z] at q; cases q
      · rw [Heap.size_push] at h2
        exact Nat.le_of_succ_le h2
    · show b ≠ cenv.locals
      rw [hL]; exact Nat.ne_of_lt (hfp b hb).2
    · have e : cenv.cells.lookup y = some c := e
      rcases mem e with ⟨h1, _⟩ | ⟨h1, _⟩
      · exact (hfp b hb).1.2.2.2.2.1 y c h1 z
      · have h2 : s.heap.objs.size + 1 ≤ b := by rw [← z]; exact h1
        exact absurd (Nat.lt_of_lt_of_le (hfp b hb).2 (Nat.le_of_succ_le h2)) (Nat.lt_irrefl _)
    · rcases (hfp b hb).1.2.2.2.1 with z | z
      · exact I.ok.noex b o e z
      · exact absurd (Nat.lt_of_lt_of_le (Heap.lt_size e) (Nat.le_trans I.ok.bsz z)) (Nat.lt_irrefl _)
    · rcases List.mem_cons.mp (I.stkSub b z) with z | z
      · exact (hfp b hb).1.2.1 z
      · exact (hfp b hb).1.2.2.1 z
  refine ⟨okB, rfl, I.bare, Un.kept kp, ⟨fun _ => none, ?_, fun i y av e1 e2 e3 => ?_⟩, fun y c e => ?_, ?_, fun y c e => ?_, fun p hp => ?_, I.hok.kept kp, by rw [wipe_length]; exact I.len⟩
  · show Heap.Ns _ cenv.locals _
    rw [hL]
    exact Heap.Ns.keeps (Heap.Ns.new ..) fun b o e => pushCells_keeps _ _ _ _ e
  · obtain ⟨e2, hne⟩ := wipe_some e2
    have hfr : scope.names.lookup y = some .free ∧ (cenv.kindOf y = some .cell ∨ cenv.kindOf y = some .free) := by
      have key : ∀ k, cenv.scope.names.lookup y = some k → k = .local ∨ k = .cell ∨ k = .free → scope.names.lookup y = some .free ∧ (cenv.kindOf y = some .cell ∨ cenv.kindOf y = some .free) := fun k hk hk' => by
        have hk0 := hk
        rw [hsc] at hk
        obtain ⟨k', e, r⟩ := lookup_relS hk
        have no : ¬ (k' = .local ∨ k' = .cell) := fun hh => by
          rcases ok.own _ (PySem.mem_of_lookup e) hh with e' | e'
          · obtain ⟨p, hp, hpy⟩ := List.mem_map.mp e'
            have e3 := ok.ix p hp
            have : p.1 = y := hpy
            rw [this] at e3
            exact hne (List.mem_map.mpr ⟨p, hp, nodup_ix hN e3 e1⟩)
          · exact e' (List.mem_of_getElem? e1)
        rcases r with rfl | ⟨rfl, rfl⟩
        · rcases hk' with rfl | rfl | rfl
          · exact absurd (.inl rfl) no
          · exact absurd (.inr rfl) no
          · exact ⟨e, .inr hk0⟩
        · exact ⟨e, .inl hk0⟩
      have e3 : Vis cenv.scope y := e3
      rcases e3 with e3 | e3 | e3
      · exact key _ e3 (.inl rfl)
      · exact key _ e3 (.inr (.inl rfl))
      · exact key _ e3 (.inr (.inr rfl))
    obtain ⟨m, hn, hl⟩ := I.loc
    have hvis : Vis X.env.scope y := (ok.free _ (PySem.mem_of_lookup hfr.1) rfl).elim (fun k => .inr (.inl k)) (fun k => .inr (.inr k))
    obtain ⟨w, r, q⟩ := hl i y av e1 e2 hvis
    refine ⟨w, r, .inr ⟨hfr.2, ?_⟩⟩
    obtain ⟨c, h1, h2⟩ := look hfr.1
    rcases q with ⟨k, _⟩ | ⟨_, c', e', z⟩
    · have k : X.env.scope.names.lookup y = some .local := k
      rcases ok.free _ (PySem.mem_of_lookup hfr.1) rfl with k' | k' <;> rw [show X.env.scope.names.lookup y = _ from k'] at k <;> cases k
    · rw [h2] at e'; cases e'
      exact ⟨c, h1, z.keeps kp⟩
  · have e : cenv.cells.lookup y = some c := e
    rcases mem e with ⟨h1, _⟩ | ⟨_, z⟩
    · obtain ⟨w, z⟩ := I.cell y c h1
      exact ⟨w, z.keeps kp⟩
    · exact ⟨_, z⟩
  · show H cenv.locals = none
    rw [hL]; exact I.hok.fresh (Nat.le_refl _)
  · have e : cenv.cells.lookup y = some c := e
    rcases mem e with ⟨h1, _⟩ | ⟨h1, _⟩
    · exact I.freeC y c h1
    · exact I.hok.fresh (Nat.le_of_succ_le h1)
  · exact absurd (show p ∈ ([] : List (Addr × Obj)) ++ [] from hp) (by simp)
theorem app_ok {E : Value → Shared → Prop} {D : Addr} {xs : List V} {y : V} {v : Value} {Q : Value → Shared → Prop} (I : Inv X pins σ H s) (hD : H D = some (.lst xs)) (hz : xs.length < sizeLine) (r : RelV y v)
    (h : ∀ s', Inv X pins σ (upd H D (.lst (xs ++ [y]))) s' → Q .none s') : wpAny (model X.prog X.w) X.A (call (.builtin "list.append") [.ref D, v]) Q E s := by
  obtain ⟨hz', its, n, ri, e⟩ := I.hok D _ hD
  have hl := ri.length
  refine append_at (hsz := by rw [List.size_toArray]; omega) e fun h' sb ho' => ?_
  refine h { s with heap := h' } (I.write (t' := s.toks) (by rw [hD]; trivial) (.inl rfl) (fun b u hb q => (sb.2 b hb).trans q) ⟨_, ho'⟩ ⟨by rw [List.length_append]; exact hz, its ++ [v], n + 1, ri.append (.cons r .nil), ?_⟩)
  rw [ho']
  simp
noncomputable def PTs (X : Cx) (ifs : List Expr) (t : TT) : Prop :=
  ∀ (pins : List (Addr × Obj)) (s : Shared) (σ : St) (H : Hp) (Q : Bool → Hp → Prop), Inv X pins σ H s → t σ H Q →
    wpAny (model X.prog X.w) X.A (forIn ifs true fun c r => if r = true then do let ok ← isTrue c X.env (eval c X.env); pure (ForInStep.yield ok) else pure (ForInStep.yield r)) (TP X pins σ Q) X.xe s
noncomputable def tYes : TT := fun _ H Q => Q true H
theorem pts_nil : PTs X [] tYes := fun _ _ _ H _ I h => wpAny_tests_nil ⟨H, I, h⟩
end
theorem thnF {α : Type} {t : Sem α} {Q Q' : α → Shared → Prop} {M : Model} {A : Around} {E : Value → Shared → Prop} {s : Shared} (h : wpAny M A t Q (fun _ _ => False) s) (hQ : ∀ a s, Q a s → Q' a s) : wpAny M A t Q' E s := wpAny_mono h hQ fun _ _ z => False.elim z
theorem compLoop_any {prog : Program} {w : World} {A : Around} {R : Result → Shared → Prop} {s : Shared} {elt target iter : Expr} {ifs : List Expr} {scope : Scope} {pos : Pos} {it acc : Value} {env : Env} (I : Nat → Shared → Prop)
    (turn : ∀ n s, I n s → wpAny (model prog w) A (pyNext it) (fun r s₁ => match r with
      | none => R (.ok .next) s₁
      | some v => wpAny (model prog w) A (letOwnedTupleGo target it v) (fun _ s₁' => wpAny (model prog w) A (assign target env v) (fun _ s₂ =>
          wpAny (model prog w) A (forIn ifs true fun c r => if r = true then do let ok ← isTrue c env (eval c env); pure (ForInStep.yield ok) else pure (ForInStep.yield r)) (fun ok s₃ =>
            if ok = true then wpAny (model prog w) A (eval elt env) (fun x s₄ =>
              wpAny (model prog w) A (call (.builtin "list.append") [acc, x]) (fun _ s₅ => ∃ m, m < n ∧ I m s₅) (notedBy (model prog w) A env fun e s' => R (.error e) s') s₄) (notedBy (model prog w) A env fun e s' => R (.error e) s') s₃
            else ∃ m, m < n ∧ I m s₃) (notedBy (model prog w) A env fun e s' => R (.error e) s') s₂) (notedBy (model prog w) A env fun e s' => R (.error e) s') s₁') (notedBy (model prog w) A env fun e s' => R (.error e) s') s₁) (notedBy (model prog w) A env fun e s' => R (.error e) s') s)
    (n : Nat) (h : I n s) :
    codeAny (model prog w) A (.compLoop (.ListComp elt [⟨target, iter, ifs, 0⟩] scope pos) 0 it acc env) R s := by
  refine codeAny_loop rfl I (fun n s hI => ?_) n h
  show wpAny _ A ((compTurn (.ListComp elt [⟨target, iter, ifs, 0⟩] scope pos) 0 it acc env).onRaise (fun x => do noteFrame x env; theTreesLotGoes x)) _ _ s
  refine wpAny_noted ?_
  rw [compTurn_list]
  refine wpAny_bind (wpAny_standAt (wpAny_bind (wpAny_mono (turn n s hI) (fun r s₁ h₁ => ?_) fun _ _ h' => h')))
  cases r with
  | none => exact wpAny_pure h₁
  | some v =>
    refine wpAny_bind (wpAny_mono h₁ (fun _ s₁' h₁' => ?_) fun _ _ h' => h')
    refine wpAny_bind (wpAny_mono h₁' (fun _ s₂ h₂ => wpAny_bind (wpAny_mono h₂ (fun ok s₃ h₃ => ?_) fun _ _ h' => h')) fun _ _ h' => h')
    cases ok with
    | false => exact wpAny_pure ⟨rfl, h₃⟩
    | true =>
      exact wpAny_bind (wpAny_bind (wpAny_mono h₃ (fun x s₄ h₄ => wpAny_bind (wpAny_mono h₄ (fun _ s₅ h₅ => wpAny_pure (wpAny_pure ⟨rfl, h₅⟩)) fun _ _ h' => h')) fun _ _ h' => h'))
section
variable {X : Cx}
noncomputable def tLc (wi : TI) (g : TG) (tt : TT) (te : TE) (vs : List Nat) : TE := fun σ H Q => wi σ H fun J H1 => ∀ D, H1 D = none → ∃ W : Nat → Nat → Hp → Prop, (∃ m, W 0 m (upd H1 D (.lst []))) ∧ ∀ i m H, W i m H →
  (J.stop i H ∧ Q (.ref D) H) ∨ (J.go i H ∧ ∃ Nx : Hp → Prop, (∀ H', Nx H' → ∃ m', m' < m ∧ W (i + 1) m' H') ∧ ∀ x H', J.yld i H x H' → g x (wipe σ vs) H' fun σ2 H2 => wipe σ2 vs = wipe σ vs ∧ tt σ2 H2 fun b H3 =>
    if b = true then te σ2 H3 fun y H4 => ∃ acc, H4 D = some (.lst acc) ∧ acc.length < sizeLine ∧ Nx (upd H4 D (.lst (acc ++ [y]))) else Nx H3)
end
theorem lc_range {lo : Int} {n : Nat} {g : TG} {tt : TT} {te : TE} {vs : List Nat} {σ : St} {H1 : Hp} {D : Addr} {Qd : Hp → Prop} (Pv : Nat → Hp → Prop) (h0 : Pv 0 (upd H1 D (.lst [])))
    (hs : ∀ i H, i < n → Pv i H → g (.int (lo + i)) (wipe σ vs) H fun σ2 H2 => wipe σ2 vs = wipe σ vs ∧ tt σ2 H2 fun b H3 =>
      if b = true then te σ2 H3 fun y H4 => ∃ acc, H4 D = some (.lst acc) ∧ acc.length < sizeLine ∧ Pv (i + 1) (upd H4 D (.lst (acc ++ [y]))) else Pv (i + 1) H3) (hd : ∀ H, Pv n H → Qd H) :
    ∃ W : Nat → Nat → Hp → Prop, (∃ m, W 0 m (upd H1 D (.lst []))) ∧ ∀ i m H, W i m H →
      ((Itr lo n).stop i H ∧ Qd H) ∨ ((Itr lo n).go i H ∧ ∃ Nx : Hp → Prop, (∀ H', Nx H' → ∃ m', m' < m ∧ W (i + 1) m' H') ∧ ∀ x H', (Itr lo n).yld i H x H' → g x (wipe σ vs) H' fun σ2 H2 => wipe σ2 vs = wipe σ vs ∧ tt σ2 H2 fun b H3 =>
        if b = true then te σ2 H3 fun y H4 => ∃ acc, H4 D = some (.lst acc) ∧ acc.length < sizeLine ∧ Nx (upd H4 D (.lst (acc ++ [y]))) else Nx H3) := by
  refine ⟨fun i m H => m = n - i ∧ i ≤ n ∧ Pv i H, ⟨n, by simp, Nat.zero_le _, h0⟩, ?_⟩
  rintro i m H ⟨rfl, hi, p⟩
  by_cases hlt : i < n
  · refine .inr ⟨hlt, Pv (i + 1), fun H' p' => ⟨n - (i + 1), by omega, rfl, hlt, p'⟩, fun x H' y => ?_⟩
    obtain ⟨e, y⟩ := y
    subst e y
    exact hs i _ hlt p
  · have e : i = n := by omega
    subst e
    exact .inl ⟨Nat.le_refl _, hd H p⟩
theorem lc_list {K : PySem.W.Frag} {a : Addr} {xs : List V} {g : TG} {tt : TT} {te : TE} {vs : List Nat} {σ : St} {H1 : Hp} {D : Addr} {Qd : Hp → Prop} (Pv : Nat → Hp → Prop) (h0 : Pv 0 (upd H1 D (.lst []))) (hl : ∀ i H, i ≤ xs.length → Pv i H → SqL K H a xs)
    (hs : ∀ i x H, xs[i]? = some x → Pv i H → g x (wipe σ vs) H fun σ2 H2 => wipe σ2 vs = wipe σ vs ∧ tt σ2 H2 fun b H3 =>
      if b = true then te σ2 H3 fun y H4 => ∃ acc, H4 D = some (.lst acc) ∧ acc.length < sizeLine ∧ Pv (i + 1) (upd H4 D (.lst (acc ++ [y]))) else Pv (i + 1) H3) (hd : ∀ H, Pv xs.length H → Qd H) :
    ∃ W : Nat → Nat → Hp → Prop, (∃ m, W 0 m (upd H1 D (.lst []))) ∧ ∀ i m H, W i m H →
      ((Itl K a).stop i H ∧ Qd H) ∨ ((Itl K a).go i H ∧ ∃ Nx : Hp → Prop, (∀ H', Nx H' → ∃ m', m' < m ∧ W (i + 1) m' H') ∧ ∀ x H', (Itl K a).yld i H x H' → g x (wipe σ vs) H' fun σ2 H2 => wipe σ2 vs = wipe σ vs ∧ tt σ2 H2 fun b H3 =>
        if b = true then te σ2 H3 fun y H4 => ∃ acc, H4 D = some (.lst acc) ∧ acc.length < sizeLine ∧ Nx (upd H4 D (.lst (acc ++ [y]))) else Nx H3) := by
  refine ⟨fun i m H => m = xs.length - i ∧ i ≤ xs.length ∧ Pv i H, ⟨xs.length, by simp, Nat.zero_le _, h0⟩, ?_⟩
  rintro i m H ⟨rfl, hi, p⟩
  have q := hl i H hi p
  by_cases hlt : i < xs.length
  · refine .inr ⟨⟨xs, xs[i], q, by simp [hlt]⟩, Pv (i + 1), fun H' p' => ⟨xs.length - (i + 1), by omega, rfl, hlt, p'⟩, fun x H' y => ?_⟩
    obtain ⟨e, y⟩ := y
    subst e
    exact hs i x _ (y xs q) p
  · have e : i = xs.length := by omega
    subst e
    exact .inl ⟨⟨xs, q, Nat.le_refl _⟩, hd H p⟩
noncomputable def blkC (N : List Str) (sc scope : Scope) (own : List (Str × Nat)) : Bool :=
  (match scope.kind with | .function => true | _ => false) && (scope.names.all fun y => decide (scope.names.lookup y.1 = some y.2)) && (own.all fun p => decide (N[p.2]? = some p.1)) &&
    (scope.names.all fun y => match y.2 with
      | .free => (match sc.names.lookup y.1 with | some .cell => true | some .free => true | _ => false)
      | .local => decide (y.1 ∈ own.map (·.1)) || decide (y.1 ∉ N)
      | .cell => decide (y.1 ∈ own.map (·.1)) || decide (y.1 ∉ N)
      | _ => true)
theorem blkOk_by {N : List Str} {sc scope : Scope} {own : List (Str × Nat)} (h : blkC N sc scope own = true) : BlkOk N sc scope own := by
  unfold blkC at h
  simp only [Bool.and_eq_true, List.all_eq_true, decide_eq_true_eq] at h
  obtain ⟨⟨⟨h1, h2⟩, h3⟩, h4⟩ := h
  refine ⟨?_, h2, h3, fun y hy e => ?_, fun y hy e => ?_⟩
  · split at h1
    · assumption
    · cases h1
  · have q := h4 y hy
    simp only [e] at q
    split at q <;> first | exact .inl (by assumption) | exact .inr (by assumption) | cases q
  · have q := h4 y hy
    rcases e with e | e <;> (simp only [e, Bool.or_eq_true, decide_eq_true_eq] at q; exact q)
end L2
namespace L2
open PySem PySem.Spec PyProof.Rows
section
variable {prog : Program} {w : World} {A : Around} {R : Result → Shared → Prop} {s : Shared} {elt t0 i0 t1 i1 : Expr} {ifs0 ifs1 : List Expr} {scope : Scope} {pos : Pos} {it acc : Value} {env : Env}
end
section
variable {X : Cx}
end
end L2
namespace L2
open PySem PySem.Spec PyProof.Rows
section
variable {κ : Type} [DecidableEq κ]
noncomputable def valV (kvs : List (κ × V)) (k : κ) : Option V := (kvs.find? fun kv => decide (kv.1 = k)).map (·.2)
noncomputable def putK (kvs : List (κ × V)) (k : κ) (v : V) : List (κ × V) :=
  if (kvs.any fun kv => decide (kv.1 = k)) = true then kvs.map (fun kv => if kv.1 = k then (kv.1, v) else kv) else kvs ++ [(k, v)]
theorem valV_pos {p : κ × V} {r : List (κ × V)} {k : κ} (e : p.1 = k) : valV (p :: r) k = some p.2 := by simp [valV, List.find?_cons, e]
theorem valV_neg {p : κ × V} {r : List (κ × V)} {k : κ} (e : ¬ p.1 = k) : valV (p :: r) k = valV r k := by simp [valV, List.find?_cons, e]
theorem valV_any (k : κ) : ∀ kvs : List (κ × V), (kvs.any fun kv => decide (kv.1 = k)) = (valV kvs k).isSome
  | [] => rfl
  | p :: r => by
    rw [List.any_cons]
    by_cases e : p.1 = k
    · simp only [valV_pos e, decide_eq_true e, Bool.true_or, Option.isSome_some]
    · rw [valV_neg e, decide_eq_false e, Bool.false_or]; exact valV_any k r
theorem valV_map (k j : κ) (y : V) : ∀ kvs : List (κ × V), valV (kvs.map fun kv => if kv.1 = k then (kv.1, y) else kv) j = (valV kvs j).map fun x => if j = k then y else x
  | [] => rfl
  | p :: r => by
    have ih := valV_map k j y r
    rw [List.map_cons]
    by_cases h : p.1 = k
    · rw [if_pos h]
      by_cases e : p.1 = j
      · rw [valV_pos (p := (p.1, y)) e, valV_pos e, Option.map_some, if_pos (e.symm.trans h)]
      · rw [valV_neg (p := (p.1, y)) e, valV_neg e, ih]
    · rw [if_neg h]
      by_cases e : p.1 = j
      · rw [valV_pos (p := p) e, valV_pos e, Option.map_some, if_neg (fun z => h (e.trans z))]
      · rw [valV_neg (p := p) e, valV_neg e, ih]
theorem valV_snoc (k j : κ) (y : V) : ∀ kvs : List (κ × V), valV kvs k = none → valV (kvs ++ [(k, y)]) j = if j = k then some y else valV kvs j
  | [], _ => by
    by_cases e : k = j
    · rw [if_pos e.symm]; exact valV_pos (p := (k, y)) e
    · rw [if_neg (fun z => e z.symm)]; exact valV_neg (p := (k, y)) e
  | p :: r, hn => by
    rw [List.cons_append]
    have hk : ¬ p.1 = k := fun z => by rw [valV_pos z] at hn; cases hn
    rw [valV_neg hk] at hn
    have ih := valV_snoc k j y r hn
    by_cases e : p.1 = j
    · rw [valV_pos e, valV_pos e, if_neg (fun z => hk (e.trans z))]
    · rw [valV_neg e, valV_neg e, ih]
theorem valV_put (kvs : List (κ × V)) (k j : κ) (y : V) : valV (putK kvs k y) j = if j = k then some y else valV kvs j := by
  unfold putK
  by_cases a : (kvs.any fun kv => decide (kv.1 = k)) = true
  · rw [if_pos a, valV_map]
    rw [valV_any] at a
    by_cases e : j = k
    · obtain ⟨x, hx⟩ := Option.isSome_iff_exists.mp a
      rw [if_pos e, e, hx, Option.map_some, if_pos rfl]
    · rw [if_neg e]
      cases valV kvs j with
      | none => rfl
      | some x => rw [Option.map_some, if_neg e]
  · rw [if_neg a]
    refine valV_snoc k j y kvs ?_
    rw [valV_any] at a
    cases q : valV kvs k with
    | none => rfl
    | some x => rw [q] at a; exact (a rfl).elim
theorem length_putK (kvs : List (κ × V)) (k : κ) (v : V) : (putK kvs k v).length ≤ kvs.length + 1 := by
  unfold putK
  split
  · rw [List.length_map]; omega
  · rw [List.length_append, List.length_cons, List.length_nil]; omega
theorem RelO.isSome_eq {o : Option V} {u : Option Value} (r : RelO o u) : o.isSome = u.isSome := by
  cases o with
  | none => cases u with
    | none => rfl
    | some _ => exact (show False from r).elim
  | some _ => cases u with
    | none => exact (show False from r).elim
    | some _ => rfl
theorem KV.val {kvs : List (κ × V)} {vs : List (κ × Value)} (r : KV kvs vs) (k : κ) : RelO (valV kvs k) (valueAt vs k) := by
  unfold KV at r
  induction r with
  | nil => exact True.intro
  | @cons p q ps qs h t ih =>
    obtain ⟨h1, h2⟩ := h
    by_cases e : p.1 = k
    · have e' : q.1 = k := h1.symm.trans e
      have b : valueAt (q :: qs) k = some q.2 := by simp [valueAt, List.find?_cons, e']
      rw [valV_pos e, b]; exact h2
    · have e' : ¬ q.1 = k := fun z => e (h1.trans z)
      have b : valueAt (q :: qs) k = valueAt qs k := by simp [valueAt, List.find?_cons, e']
      rw [valV_neg e, b]; exact ih
theorem KV.any {kvs : List (κ × V)} {vs : List (κ × Value)} (r : KV kvs vs) (k : κ) : (kvs.any fun kv => decide (kv.1 = k)) = vs.any fun kv => decide (kv.1 = k) := by
  unfold KV at r
  induction r with
  | nil => rfl
  | cons h t ih => rw [List.any_cons, List.any_cons, ih, h.1]
theorem KV.repl {kvs : List (κ × V)} {vs : List (κ × Value)} (r : KV kvs vs) (k : κ) {y : V} {u : Value} (ry : RelV y u) :
    KV (kvs.map fun kv => if kv.1 = k then (kv.1, y) else kv) (vs.map fun kv => if kv.1 = k then (kv.1, u) else kv) := by
  unfold KV at r ⊢
  induction r with
  | nil => exact .nil
  | @cons p q ps qs h t ih =>
    rw [List.map_cons, List.map_cons]
    refine .cons ?_ ih
    obtain ⟨h1, h2⟩ := h
    by_cases e : p.1 = k
    · rw [if_pos e, if_pos (h1.symm.trans e)]; exact ⟨h1, ry⟩
    · rw [if_neg e, if_neg (fun z => e (h1.trans z))]; exact ⟨h1, h2⟩
theorem KV.put {kvs : List (κ × V)} {vs : List (κ × Value)} (r : KV kvs vs) (k : κ) {y : V} {u : Value} (ry : RelV y u) : KV (putK kvs k y) (stored vs k u) := by
  unfold putK stored
  rw [r.any k]
  by_cases e : (vs.any fun kv => decide (kv.1 = k)) = true
  · rw [if_pos e, if_pos e]; exact r.repl k ry
  · rw [if_neg e, if_neg e]; exact Paired.snoc r ⟨rfl, ry⟩
theorem KV.length {kvs : List (κ × V)} {vs : List (κ × Value)} (r : KV kvs vs) : kvs.length = vs.length := Paired.length r
end
theorem kV_is {P : Program} {w : World} {k : Key} {u : Value} (r : RelV (kV k) u) : (mixKind P w).is k u = true := by
  cases k with
  | inl i => obtain ⟨t, e⟩ := (show ∃ t, u = Value.int i t from r); subst e; exact mixKind_int P w i t
  | inr x => obtain ⟨t, e⟩ := (show ∃ t, u = Value.str x t from r); subst e; exact mixKind_str P w x t
theorem items_are {P : Program} {w : World} : ∀ {ks : List Key} {us : List Value}, Vals (ks.map kV) us → ItemsAre (mixKind P w) ks us
  | [], _, r => by rw [List.map_nil] at r; cases r; exact .nil
  | k :: ks, _, r => by
    rw [List.map_cons] at r
    cases r with
    | cons h t => exact .cons (kV_is h) (items_are t)
noncomputable abbrev KT (H : Hp) : List (List Key × V) → List (List Key × Addr × Value) → Prop := Paired fun p q => p.1 = q.1 ∧ H q.2.1 = some (.tup (p.1.map kV)) ∧ RelV p.2 q.2.2
theorem KT.val {H : Hp} {kvs : List (List Key × V)} {xs : List (List Key × Addr × Value)} (r : KT H kvs xs) (k : List Key) : RelO (valV kvs k) ((atKey xs k).map (·.2)) := by
  induction r with
  | nil => exact True.intro
  | @cons p q ps qs h t ih =>
    obtain ⟨h1, _, h2⟩ := h
    by_cases e : p.1 = k
    · have e' : q.1 = k := h1.symm.trans e
      have b : atKey (q :: qs) k = some q.2 := by simp [atKey, List.find?_cons, e']
      rw [valV_pos e, b]; exact h2
    · have e' : ¬ q.1 = k := fun z => e (h1.trans z)
      have b : atKey (q :: qs) k = atKey qs k := by simp [atKey, List.find?_cons, e']
      rw [valV_neg e, b]; exact ih
theorem KT.repl {H : Hp} {kvs : List (List Key × V)} {xs : List (List Key × Addr × Value)} (r : KT H kvs xs) (k : List Key) {y : V} {u : Value} (ry : RelV y u) :
    KT H (kvs.map fun kv => if kv.1 = k then (kv.1, y) else kv) (xs.map (putAt k u)) := by
  induction r with
  | nil => exact .nil
  | @cons p q ps qs h t ih =>
    rw [List.map_cons, List.map_cons]
    refine .cons ?_ ih
    obtain ⟨h1, h2, h3⟩ := h
    unfold putAt
    by_cases e : p.1 = k
    · rw [if_pos e, if_pos (h1.symm.trans e)]; exact ⟨h1, h2, ry⟩
    · rw [if_neg e, if_neg (fun z => e (h1.trans z))]; exact ⟨h1, h2, h3⟩
theorem KT.put {H : Hp} {kvs : List (List Key × V)} {xs : List (List Key × Addr × Value)} (r : KT H kvs xs) (k : List Key) {b : Addr} {y : V} {u : Value} (hb : H b = some (.tup (k.map kV))) (ry : RelV y u) :
    KT H (putK kvs k y) (storedH xs k b u) := by
  have e : (kvs.any fun kv => decide (kv.1 = k)) = (atKey xs k).isSome := by
    rw [valV_any, (r.val k).isSome_eq, Option.isSome_map]
  unfold putK storedH
  rw [e]
  by_cases q : (atKey xs k).isSome = true
  · rw [if_pos q, if_pos q]; exact r.repl k ry
  · rw [if_neg q, if_neg q]; exact Paired.snoc r ⟨rfl, hb, ry⟩
theorem KT.keeps {H H' : Hp} {kvs : List (List Key × V)} {xs : List (List Key × Addr × Value)} (r : KT H kvs xs) (ht : ∀ b ys, H b = some (.tup ys) → H' b = some (.tup ys)) : KT H' kvs xs :=
  Paired.mapP r fun _ _ z => ⟨z.1, ht _ _ z.2.1, z.2.2⟩
section
variable {P : Program} {w : World} {H : Hp} {h : Heap} {a : Addr}
theorem rd_of {u : HO} (ok : HOk P w H h) (e : Rd H a u) : ObjOk P w H h a u := e.ok ok
theorem dk_rd {kvs : List (Key × V)} (ok : HOk P w H h) (e : Rd H a (.dK kvs)) : kvs.length ≤ sizeLine ∧ (a == sysModules) = false ∧ ∃ vs, KV kvs vs ∧ h.DictOf (mixKind P w) a vs :=
  show ObjOk P w H h a (.dK kvs) from rd_of ok e
theorem dk_of {kvs : List (Key × V)} (ok : HOk P w H h) (e : H a = some (.dK kvs)) : kvs.length ≤ sizeLine ∧ (a == sysModules) = false ∧ ∃ vs, KV kvs vs ∧ h.DictOf (mixKind P w) a vs := dk_rd ok (.inl e)
theorem key_of {ks : List Key} (ok : HOk P w H h) (e : H a = some (.tup (ks.map kV))) : (tupleKind (mixKind P w)).is h ks a := by
  obtain ⟨_, its, r, o, h1, h2, n, h3⟩ := (show ObjOk P w H h a (.tup (ks.map kV)) from ok a _ e)
  exact ⟨o, its.toArray, n, h1, h2, h3, by simpa using items_are r⟩
theorem dt_rd {kvs : List (List Key × V)} (ok : HOk P w H h) (e : Rd H a (.dT kvs)) : kvs.length ≤ sizeLine ∧ (a == sysModules) = false ∧
    ∃ xs, KT H kvs xs ∧ h.DictOfH (tupleKind (mixKind P w)) a xs := by
  obtain ⟨z, y, xs, r, o, es, ep, h1, h2, h3, h4, h5⟩ := (show ObjOk P w H h a (.dT kvs) from rd_of ok e)
  refine ⟨z, y, xs, r, o, es, ep, h1, h2, h3, h4, fun x hx => ?_, h5⟩
  have all : ∀ {l : List (List Key × V)} {m : List (List Key × Addr × Value)}, KT H l m → ∀ x ∈ m, (tupleKind (mixKind P w)).is h x.1 x.2.1 := by
    intro l m q
    induction q with
    | nil => intro x hx; exact nomatch hx
    | @cons p q ps qs hq t ih =>
      intro x hx
      rcases List.mem_cons.mp hx with e | hx
      · subst e
        exact key_of ok (by rw [← hq.1]; exact hq.2.1)
      · exact ih x hx
  exact all r x hx
theorem dt_of {kvs : List (List Key × V)} (ok : HOk P w H h) (e : H a = some (.dT kvs)) : kvs.length ≤ sizeLine ∧ (a == sysModules) = false ∧
    ∃ xs, KT H kvs xs ∧ h.DictOfH (tupleKind (mixKind P w)) a xs := dt_rd ok (.inl e)
end
noncomputable def DGet (H : Hp) (a : Addr) (y : V) (r : Option V) : Prop :=
  (∃ kvs k, Rd H a (.dK kvs) ∧ y = kV k ∧ r = valV kvs k) ∨ ∃ kvs k b, Rd H a (.dT kvs) ∧ y = .ref b ∧ H b = some (.tup (k.map kV)) ∧ r = valV kvs k
noncomputable def DPut (H : Hp) (a : Addr) (y v : V) (H' : Hp) : Prop :=
  (∃ kvs k, H a = some (.dK kvs) ∧ y = kV k ∧ kvs.length < sizeLine ∧ H' = upd H a (.dK (putK kvs k v))) ∨
  ∃ kvs k b, H a = some (.dT kvs) ∧ y = .ref b ∧ H b = some (.tup (k.map kV)) ∧ kvs.length < sizeLine ∧ H' = upd H a (.dT (putK kvs k v))
theorem DGet.t {H : Hp} {a b : Addr} {kvs : List (List Key × V)} {k : List Key} (e : H a = some (.dT kvs)) (eb : H b = some (.tup (k.map kV))) : DGet H a (.ref b) (valV kvs k) := .inr ⟨kvs, k, b, .inl e, rfl, eb, rfl⟩
theorem DPut.t {H : Hp} {a b : Addr} {kvs : List (List Key × V)} {k : List Key} {v : V} (e : H a = some (.dT kvs)) (eb : H b = some (.tup (k.map kV))) (hl : kvs.length < sizeLine) :
    DPut H a (.ref b) v (upd H a (.dT (putK kvs k v))) := .inr ⟨kvs, k, b, e, rfl, eb, hl, rfl⟩
section
variable {X : Cx} {pins : List (Addr × Obj)} {σ : St} {H : Hp} {s : Shared} {a : Addr} {y v : V} {u r : Value} {o : Option V} {A : Around} {E : Value → Shared → Prop}
theorem Inv.big (I : Inv X pins σ H s) : sysModules < s.heap.objs.size := by
  have h : mainGlobals < s.heap.objs.size := (I.mod.glob.keeps I.bk).lt
  exact Nat.lt_trans (by decide) h
theorem d_getItem {Q : Value → Shared → Prop} (hu : A.units + 1 < cLine) (I : Inv X pins σ H s) (g : DGet H a y (some v)) (ry : RelV y u) (h : ∀ w' s', Inv X pins σ H s' → RelV v w' → Q w' s') :
    wpAny (model X.prog X.w) A (getItem (.ref a) u) Q E s := by
  rcases g with ⟨kvs, k, e, ey, l⟩ | ⟨kvs, k, b, e, ey, eb, l⟩
  · subst ey
    obtain ⟨z, hd, vs, rel, dd⟩ := dk_rd I.hok e
    obtain ⟨w', hw, rw'⟩ := RelO.some_of (v := v) (o := valueAt vs k) (by rw [l]; exact rel.val k)
    exact wpAny_getItem_of (kV_is ry) dd.mapOf hw (h w' _ (I.tok _) rw')
  · subst ey
    cases (show u = Value.ref b from ry)
    obtain ⟨z, hd, xs, rel, dd⟩ := dt_rd I.hok e
    obtain ⟨w', hw, rw'⟩ := RelO.some_of (v := v) (o := (atKey xs k).map (·.2)) (by rw [l]; exact rel.val k)
    obtain ⟨p, hp, hp2⟩ := Option.map_eq_some_iff.mp hw
    refine wpAny_getItem_heap (tupleKind_room_in1 hu) (key_of I.hok eb) dd hp ?_
    rw [hp2]
    exact h w' _ (I.tok _) rw'
theorem d_notIn {Q : Value → Shared → Prop} (hu : A.units + 1 < cLine) (I : Inv X pins σ H s) (g : DGet H a y o) (ry : RelV y u) (h : ∀ s', Inv X pins σ H s' → Q (.bool (!o.isSome)) s') :
    wpAny (model X.prog X.w) A (compareOp .NotIn u (.ref a)) Q E s := by
  rcases g with ⟨kvs, k, e, ey, l⟩ | ⟨kvs, k, b, e, ey, eb, l⟩
  · subst ey
    obtain ⟨z, hd, vs, rel, dd⟩ := dk_rd I.hok e
    refine wpAny_notIn_of (kV_is ry) hd dd.mapOf ?_
    rw [← (rel.val k).isSome_eq, ← l]
    exact h _ (I.tok _)
  · subst ey
    cases (show u = Value.ref b from ry)
    obtain ⟨z, hd, xs, rel, dd⟩ := dt_rd I.hok e
    refine wpAny_notIn_heap (tupleKind_room_in1 hu) (key_of I.hok eb) hd dd ?_
    have q := (rel.val k).isSome_eq
    rw [Option.isSome_map] at q
    rw [← q, ← l]
    exact h _ (I.tok _)
theorem d_write {h' : Heap} {t' : Nat} {ob : HO} (I : Inv X pins σ H s) (mu : Mut (H a)) (hs : Heap.SameBut a s.heap h') (he : ∃ q, h'.get? a = some q) (new : ObjOk X.prog X.w (upd H a ob) h' a ob) :
    Inv X pins σ (upd H a ob) { s with heap := h', toks := t' } :=
  I.write (x := a) (e := a) mu (.inl rfl) (fun b q hb z => (hs.2 b hb).trans z) he new
theorem dk_new {P : Program} {w : World} {H' : Hp} {h' : Heap} {kvs : List (Key × V)} {vs : List (Key × Value)} (z : kvs.length ≤ sizeLine) (hd : (a == sysModules) = false) (rel : KV kvs vs) (dd : h'.DictOf (mixKind P w) a vs) :
    ObjOk P w H' h' a (.dK kvs) := ⟨z, hd, vs, rel, dd⟩
theorem d_setItem {H' : Hp} {Q : Unit → Shared → Prop} (hu : A.units + 1 < cLine) (I : Inv X pins σ H s) (g : DPut H a y v H') (ry : RelV y u) (rv : RelV v r) (h : ∀ s', Inv X pins σ H' s' → Q () s') :
    wpAny (model X.prog X.w) A (setItem (.ref a) u r) Q E s := by
  rcases g with ⟨kvs, k, e, ey, l, eH⟩ | ⟨kvs, k, b, e, ey, eb, l, eH⟩
  · subst ey eH
    obtain ⟨z, hd, vs, rel, dd⟩ := dk_of I.hok e
    have hz : vs.length ≤ sizeLine := by rw [← rel.length]; exact z
    have hl : (putK kvs k v).length ≤ sizeLine := by have := length_putK kvs k v; omega
    refine wpAny_setItem_pairs (hsz := hz) (kV_is ry) dd fun h' dd' hs => h _ ?_
    have he : ∃ q, h'.get? a = some q := let ⟨q, _, _, hq, _⟩ := dd'; ⟨q, hq⟩
    exact d_write I (by rw [e]; exact True.intro) hs he (dk_new hl hd (rel.put k rv) dd')
  · subst ey eH
    cases (show u = Value.ref b from ry)
    obtain ⟨z, hd, xs, rel, dd⟩ := dt_of I.hok e
    have hz : xs.length ≤ sizeLine := by rw [← Paired.length rel]; exact z
    have hl : (putK kvs k v).length ≤ sizeLine := by have := length_putK kvs k v; omega
    refine wpAny_setItem_heap (hsz := hz) (tupleKind_room_in1 hu) (key_of I.hok eb) dd fun h' dd' hs => h _ ?_
    obtain ⟨q, es, ep, hq, h2, h3, h4, _, h5⟩ := dd'
    refine d_write I (by rw [e]; exact True.intro) hs ⟨q, hq⟩ ⟨hl, hd, _, (rel.put k eb rv).keeps fun c ys ec => ?_, q, es, ep, hq, h2, h3, h4, h5⟩
    rw [upd_ne (ne_of ec e (fun z => nomatch z))]
    exact ec
end
section
variable {X : Cx} {pins : List (Addr × Obj)} {σ : St} {H : Hp} {s : Shared} {a : Addr} {kvs : List (Key × V)} {k : Key} {u : Value} {A : Around} {E : Value → Shared → Prop}
end
noncomputable def NoSl (i : Expr) : Prop := ∀ ov iv, subscripted i false ov iv = operate [ov, iv] (getItem ov iv)
theorem subD_of {prog : Program} {w : World} {A : Around} {E : Value → Shared → Prop} {s : Shared} {env : Env} {value slice : Expr} {pos : Pos} {T id : String} {Q : Value → Shared → Prop}
    (hl : typeLookup (.type T) "__getitem__" = pure (some (.builtin id))) (hs : NoSl slice)
    (h : wpAny (model prog w) A (eval value env) (fun o s₁ => wpAny (model prog w) A (eval slice env) (fun i s₂ => s₂.TypeIs o T ∧ wpAny (model prog w) A (getItem o i) Q E s₂) E s₁) E s) :
    wpAny (model prog w) A (eval (.Subscript value slice pos) env) Q E s := by
  refine Subscript_ (wpAny_mono h (fun o s₁ h₁ => wpAny_mono h₁ (fun i s₂ h₂ => ?_) fun _ _ x => x) fun _ _ x => x)
  obtain ⟨hT, h₂⟩ := h₂
  unfold subscriptTail
  refine wpAny_bind ?_
  rw [getitemInPython_of_ne hT.not_modules]
  refine wpAny_bind (wpAny_specialOf hT hl ?_)
  have fin : wpAny (model prog w) A (subscripted slice false o i) (fun r s₃ => wpAny (model prog w) A (letTemporaryGo value o r >>= fun _ => pure r) Q E s₃) E s₂ := by
    rw [hs o i]
    exact wpAny_operating (wpAny_mono h₂ (fun r s₃ h₃ => wpAny_bind (wpAny_letTemporaryGo (wpAny_pure h₃))) fun _ _ x => x)
  first
    | exact wpAny_pure (wpAny_bind fin)
    | exact wpAny_bind (wpAny_pure (wpAny_bind fin))
    | exact wpAny_bind fin
theorem dict_typeIs {X : Cx} {pins : List (Addr × Obj)} {σ : St} {H : Hp} {s : Shared} {a : Addr} {y : V} {o : Option V} (I : Inv X pins σ H s) (g : DGet H a y o) : s.TypeIs (.ref a) "dict" := by
  rcases g with ⟨kvs, k, e, _, _⟩ | ⟨kvs, k, b, e, _, _, _⟩
  · obtain ⟨_, _, vs, _, dd⟩ := dk_rd I.hok e
    exact dd.typeIs
  · obtain ⟨_, _, xs, _, dd⟩ := dt_rd I.hok e
    exact dd.typeIs
noncomputable def tDGet (td ty : TE) : TE := fun σ H Q => td σ H fun x H1 => ty σ H1 fun y H2 => ∃ a v, x = .ref a ∧ DGet H2 a y (some v) ∧ Q v H2
noncomputable def tDNotIn (ty td : TE) : TE := fun σ H Q => ty σ H fun y H1 => td σ H1 fun x H2 => ∃ a o, x = .ref a ∧ DGet H2 a y o ∧ Q (.bl (!o.isSome)) H2
noncomputable def sDPut (td ty tv : TE) : TS := fun D σ H => tv σ H fun v H1 => td σ H1 fun x H2 => ty σ H2 fun y H3 => ∃ a H4, x = .ref a ∧ DPut H3 a y v H4 ∧ D.nx σ H4
section
variable {X : Cx} {o i e value : Expr} {pos pos' tpos : Pos} {td ty tv : TE}
theorem pe_dget (hu : X.A.units + 1 < cLine) (ho : PE X o td) (hi : PE X i ty) (hs : NoSl i) : PE X (.Subscript o i pos) (tDGet td ty) := by
  intro pins s σ H Q I h
  refine subD_of PySem.F.slot_dict_getitem.lookup hs (thn (ho pins s σ H _ I h) fun u s1 ⟨x, H1, I1, rx, q1⟩ => thn (hi pins s1 σ H1 _ I1 q1) fun iv s2 ⟨y, H2, I2, ry, a, v, ex, g, q2⟩ => ?_)
  subst ex
  obtain rfl : u = Value.ref a := rx
  exact ⟨dict_typeIs I2 g, d_getItem hu I2 g ry fun w' s3 I3 rw' => ⟨v, H2, I3, rw', q2⟩⟩
theorem pc_dnotin (hu : X.A.units + 1 < cLine) (hi : PE X i ty) (ho : PE X o td) : PC X .NotIn i o (tDNotIn ty td) := by
  intro pins s σ H Q I h
  refine thn (hi pins s σ H _ I h) fun iv s1 ⟨y, H1, I1, ry, q1⟩ => thn (ho pins s1 σ H1 _ I1 q1) fun u s2 ⟨x, H2, I2, rx, a, ov, ex, g, q2⟩ => ?_
  subst ex
  obtain rfl : u = Value.ref a := rx
  exact d_notIn hu I2 g ry fun s3 I3 => ⟨.bl (!ov.isSome), H2, I3, rfl, q2⟩
theorem ps_dput (hu : X.A.units + 1 < cLine) (ho : PE X o td) (hi : PE X i ty) (hv : PE X value tv) (hs : swapsWith value (some (.Subscript o i pos')) pos.line X.env = pure false) :
    PS X (.Assign [.Subscript o i pos'] value pos) (sDPut td ty tv) := by
  intro pins s σ H D I h
  refine wpAny_Assign_Subscript (thn (hv pins s σ H _ I h) fun r s1 ⟨v, H1, I1, rv, q1⟩ => thn (ho pins s1 σ H1 _ I1 q1) fun u s2 ⟨x, H2, I2, rx, q2⟩ => thn (hi pins s2 σ H2 _ I2 q2) fun iv s3 ⟨y, H3, I3, ry, a, H4, ex, g, q3⟩ => ?_) hs
  subst ex
  obtain rfl : u = Value.ref a := rx
  exact d_setItem hu I3 g ry rv fun s4 I4 => ⟨σ, H4, I4, q3⟩
end
theorem dt_empty {P : Program} {w : World} {H : Hp} (h : Heap) (hb : sysModules < h.objs.size) : ObjOk P w H (h.push { cls := .type "dict", data := .dict #[] }) h.objs.size (.dT []) :=
  ⟨Nat.zero_le _, beq_eq_false_iff_ne.mpr (Ne.symm (Nat.ne_of_lt hb)), [], .nil, _, #[], 0, Heap.get?_push_size _ rfl, ⟨rfl, rfl, rfl⟩, rfl, rfl, List.nodup_nil⟩
noncomputable def tDNewT : TE := fun _ H Q => ∀ p, H p = none → Q (.ref p) (upd H p (.dT []))
section
variable {X : Cx} {pos : Pos}
theorem pe_dnewT : PE X (.Dict [] [] pos) tDNewT := fun pins s σ H Q I h =>
  wpAny_Dict_empty ⟨.ref s.heap.objs.size, _, I.laid (a := s.heap.objs.size) (o := .dT []) (t' := s.toks) (fun _ _ q => Heap.get?_push_of_some _ q) (Nat.le_refl _) (dt_empty s.heap I.big), rfl, h _ (I.hok.fresh (Nat.le_refl _))⟩
end
structure M1 (X : Cx) (o : Expr) (m : Str) (apos : Pos) (e : Expr) (cpos : Pos) : Prop where
  base : attributeBase o m X.env (eval o X.env) = eval o X.env
  few : ((backTo cpos (starEach [e] X.env)).all (fun x => !x.1) && (backToKw cpos (keywordEach [] X.env)).all (fun x => x.1.isSome)
    && decide (([e] : List Expr).length + ([] : List Keyword).length + (if ([] : List Keyword).isEmpty then 0 else 1) < 30)) = true
  line : (apos.endLine == cpos.line) = true
  trees : backTo cpos (starEach [e] X.env) = [(false, eval e X.env)]
structure M2 (X : Cx) (o : Expr) (m : Str) (apos : Pos) (e f : Expr) (cpos : Pos) : Prop where
  base : attributeBase o m X.env (eval o X.env) = eval o X.env
  few : ((backTo cpos (starEach [e, f] X.env)).all (fun x => !x.1) && (backToKw cpos (keywordEach [] X.env)).all (fun x => x.1.isSome)
    && decide (([e, f] : List Expr).length + ([] : List Keyword).length + (if ([] : List Keyword).isEmpty then 0 else 1) < 30)) = true
  line : (apos.endLine == cpos.line) = true
  trees : backTo cpos (starEach [e, f] X.env) = [(false, eval e X.env), (false, eval f X.env)]
section
variable {X : Cx} {pins : List (Addr × Obj)} {σ : St} {H : Hp} {s : Shared} {a : Addr} {y d : V} {u r : Value} {o : Option V} {A : Around} {E : Value → Shared → Prop}
end
section
variable {X : Cx} {o e f : Expr} {apos cpos : Pos} {td ty tx : TE}
end
section
variable {X : Cx} {pins : List (Addr × Obj)} {σ : St} {H : Hp} {s : Shared} {a : Addr} {kvs : List (Key × V)} {A : Around} {E : Value → Shared → Prop}
end
section
variable {X : Cx} {pins : List (Addr × Obj)} {σ : St} {H : Hp} {s : Shared} {a : Addr} {y : V} {u : Value} {A : Around} {E : Value → Shared → Prop}
end
end L2
namespace L2
open PySem PySem.Spec PyProof.Rows
section
variable {prog : Program} {w : World} {A : Around} {E : Value → Shared → Prop}
end
section
variable {X : Cx}
end
end L2
namespace L2
open PySem PySem.Spec PyProof.Rows
section
variable {X : Cx} {pins : List (Addr × Obj)} {σ : St} {H : Hp} {s : Shared} {h' : Heap}
theorem Inv.turnedL {t' : Nat} {ch : List Addr} (I : Inv X pins σ H s) (k : ∀ b o, b ∉ ch → s.heap.get? b = some o → h'.get? b = some o) (hf : ∀ b ∈ ch, FpOk X pins H b) : Inv X pins σ H { s with heap := h', toks := t' } := by
  have nit : ∀ b u, H b = some u → b ∉ ch := fun b u e z => by
    have q := (hf b z).1
    rw [q] at e; cases e
  refine I.step (g' := s.gens) (d' := s.drawn) (ch := ch) (fun b hb => ⟨(hf b hb).2.2.2.1, (hf b hb).2.1, (hf b hb).2.2.2.2.1, (hf b hb).2.2.2.2.2⟩) (fun b o _ _ hc e _ => k b o hc e) (fun b o _ _ hc e _ => ⟨o.slots, k b o hc e⟩)
    (fun _ _ _ _ n => n) (fun b o hc e => ⟨o, k b o hc e⟩) (fun _ _ e => e) (fun _ _ _ e => e) (fun b ps e => ⟨#[], by rw [e]; simp⟩) (fun m hm => ?_) (fun b u e => ?_) I.bare
  · obtain ⟨o, es, ep, ho, r⟩ := hm
    exact ⟨o, es, ep, k _ o (fun z => (hf _ z).2.1 rfl) ho, r⟩
  · refine (I.hok b u e).stay (fun c v hc q => k c v ?_ q) (fun _ q => q) fun _ _ q => q
    rcases hc with z | z
    · rw [z]; exact nit b u e
    · exact nit c _ z
theorem Inv.turnedNew {t' : Nat} {ch : List Addr} {T : Addr} {ob : HO} (I : Inv X pins σ H s) (k : ∀ b o, b ∉ ch → s.heap.get? b = some o → h'.get? b = some o) (hf : ∀ b ∈ ch, FpOk X pins H b) (hT : s.heap.objs.size ≤ T)
    (new : ObjOk X.prog X.w (upd H T ob) h' T ob) : Inv X pins σ (upd H T ob) { s with heap := h', toks := t' } := by
  have hn : H T = none := I.hok.fresh hT
  have nit : ∀ b u, H b = some u → b ∉ ch := fun b u e z => by
    have q := (hf b z).1
    rw [q] at e; cases e
  refine I.step (g' := s.gens) (d' := s.drawn) (ch := ch) (fun b hb => ⟨(hf b hb).2.2.2.1, (hf b hb).2.1, (hf b hb).2.2.2.2.1, (hf b hb).2.2.2.2.2⟩) (fun b o _ _ hc e _ => k b o hc e) (fun b o _ _ hc e _ => ⟨o.slots, k b o hc e⟩)
    (fun b o _ e n => ?_) (fun b o hc e => ⟨o, k b o hc e⟩) (fun b xs e => ?_) (fun b o u e => ?_) (fun b ps e => ⟨#[], ?_⟩) (fun m hm => ?_) (fun b u e => ?_) I.bare
  · rw [upd_ne (Nat.ne_of_lt (Nat.lt_of_lt_of_le (Heap.lt_size e) hT))]; exact n
  · rw [upd_ne (ne_of_none e hn)]; exact e
  · rw [upd_ne (ne_of_none e hn)]; exact e
  · rw [upd_ne (ne_of_none e hn), e]; simp
  · obtain ⟨o, es, ep, ho, r⟩ := hm
    exact ⟨o, es, ep, k _ o (fun z => (hf _ z).2.1 rfl) ho, r⟩
  · by_cases hb : b = T
    · subst hb
      rw [upd_same] at e
      cases e
      exact new
    · rw [upd_ne hb] at e
      refine (I.hok b u e).stay (fun c v hc q => k c v ?_ q) (fun c q => by rw [upd_ne (ne_of_none q hn)]; exact q) fun c xs q => by rw [upd_ne (ne_of_none q hn)]; exact q
      rcases hc with z | z
      · rw [z]; exact nit b u e
      · exact nit c _ z
end
section
variable {X : Cx}
end
section
variable {X : Cx} {tg : Expr}
end
section
variable {X : Cx} {tg : Expr}
end
section
variable {prog : Program} {w : World} {A : Around} {E : Value → Shared → Prop} {s : Shared}
end
section
variable {X : Cx} {pins : List (Addr × Obj)} {σ : St} {H : Hp} {s : Shared} {d : Addr} {o : Obj}
end
section
variable {P : Program} {w : World} {K : PySem.W.Frag} {tg : Expr} {d : Addr} {o : Obj} {es : Array DictEntry} {ep : Nat}
end
section
variable {X : Cx} {tg e : Expr} {td : TE} {apos cpos : Pos}
end
theorem boot_zip5 : bootBuiltins "zip" = some (.type "zip") := by decide +kernel
noncomputable def Itz (K : PySem.W.Frag) (a b : Addr) : It :=
  ⟨fun i H => ∃ (xs ys : List V) (x y : V), SqL K H a xs ∧ SqL K H b ys ∧ xs[i]? = some x ∧ ys[i]? = some y,
    fun i H v H' => ∃ T x y, v = .ref T ∧ H T = none ∧ H' = upd H T (.tup [x, y]) ∧ (∀ xs, SqL K H a xs → xs[i]? = some x) ∧ ∀ ys, SqL K H b ys → ys[i]? = some y,
    fun i H => ∃ xs ys : List V, SqL K H a xs ∧ SqL K H b ys ∧ (xs.length ≤ i ∨ ys.length ≤ i)⟩
theorem turn_zip {P : Program} {w : World} {K : PySem.W.Frag} {elts : List Expr} {kk : Nat} {tpos : Pos} {a b z TI TO i1 i2 : Addr} (D : ZipApart z TI TO i1 i2 a b) :
    Turn P w K (.Tuple elts kk tpos) (Itz K a b) [z, TI, TO, i1, i2] z (fun i h => IsZip h z TI TO .none ∧ IsPair h TI (.ref i1) (.ref i2) ∧ (∃ x y, IsPair h TO x y) ∧ h.IsListIter i1 a i ∧ h.IsListIter i2 b i) where
  mem := by simp
  obj := fun i h st c hc => by
    obtain ⟨hz, hTI, ⟨x, y, hTO⟩, ⟨o1, e1, _, d1⟩, ⟨o2, e2, _, d2⟩⟩ := st
    have e' : c = z ∨ c = TI ∨ c = TO ∨ c = i1 ∨ c = i2 := by simpa using hc
    rcases e' with q | q | q | q | q
    · rw [q]; exact ⟨_, hz, fun v q => nomatch q⟩
    · rw [q]; exact ⟨_, hTI, fun v q => nomatch q⟩
    · rw [q]; exact ⟨_, hTO, fun v q => nomatch q⟩
    · rw [q]; exact ⟨o1, e1, fun v q => by rw [d1] at q; cases q⟩
    · rw [q]; exact ⟨o2, e2, fun v q => by rw [d2] at q; cases q⟩
  keep := fun i h h' st k => by
    obtain ⟨hz, hTI, ⟨x, y, hTO⟩, h1, h2⟩ := st
    exact ⟨k z (by simp) _ hz, k TI (by simp) _ hTI, ⟨x, y, k TO (by simp) _ hTO⟩, h1.at fun o q => k i1 (by simp) o q, h2.at fun o q => k i2 (by simp) o q⟩
  item := by
    intro X hP hw hK hc i pins s σ H E I hf st hg
    subst hP hw hK
    obtain ⟨hz, hTI, ⟨x0, y0, hTO⟩, h1, h2⟩ := st
    obtain ⟨xs, ys, x, y, hqx, hqy, hx, hy⟩ := hg
    obtain ⟨its, rv, p, _⟩ := I.list hqx
    obtain ⟨its2, rv2, p2, _⟩ := I.list hqy
    obtain ⟨u, hu, ru⟩ := rv.get hx
    obtain ⟨u2, hu2, ru2⟩ := rv2.get hy
    have hzl : z < s.heap.objs.size := Heap.lt_size hz
    refine wpAny_pyNext_zip_item D hz hTI hTO h1 h2 p.isList p2.isList (x := u) (y := u2) (by simpa using hu) (by simpa using hu2) fun h' z' TO' h1' h2' hT hsz hk => ?_
    refine ⟨_, rfl, wpAny_letOwnedTupleGo_zip (s := { s with heap := h' }) z' fun h'' z'' sb => ?_⟩
    have hT2 : h''.get? s.heap.objs.size = some { cls := .type "tuple", data := .seq #[u, u2] } := (sb.2 _ (Nat.ne_of_gt hzl)).trans hT
    have new : ObjOk X.prog X.w (upd H s.heap.objs.size (.tup [x, y])) h'' s.heap.objs.size (.tup [x, y]) :=
      ⟨by show 2 ≤ sizeLine; decide, [u, u2], .cons ru (.cons ru2 .nil), ⟨_, hT2, rfl, _, rfl⟩⟩
    have I1 : Inv X pins σ (upd H s.heap.objs.size (.tup [x, y])) { s with heap := h'' } :=
      I.turnedNew (t' := s.toks) (ch := [z, TI, TO, i1, i2]) (fun c o hb q => (sb.2 c (fun q' => hb (by simp [q']))).trans (hk c o (fun q' => hb (by simp [q'])) (fun q' => hb (by simp [q'])) (fun q' => hb (by simp [q'])) (fun q' => hb (by simp [q'])) q)) hf (Nat.le_refl _) new
    refine ⟨.ref s.heap.objs.size, _, I1, rfl, ⟨_, x, y, rfl, I.hok.fresh (Nat.le_refl _), rfl, fun l hl => by rw [I.list_inj hl hqx]; exact hx, fun l hl => by rw [I.list_inj hl hqy]; exact hy⟩, ⟨z'', ?_, ⟨u, u2, ?_⟩, ?_, ?_⟩, fun c hcm => ?_⟩
    · exact (sb.2 _ D.TIz).trans (hk _ _ D.TIz D.TITO D.TIi1 D.TIi2 hTI)
    · exact (sb.2 _ D.TOz).trans TO'
    · exact h1'.at fun o q => (sb.2 _ D.i1z).trans q
    · exact h2'.at fun o q => (sb.2 _ D.i2z).trans q
    · have hlt : c < s.heap.objs.size := by
        have e' : c = z ∨ c = TI ∨ c = TO ∨ c = i1 ∨ c = i2 := by simpa using hcm
        rcases e' with q | q | q | q | q
        · rw [q]; exact hzl
        · rw [q]; exact Heap.lt_size hTI
        · rw [q]; exact Heap.lt_size hTO
        · rw [q]; obtain ⟨_, e1, _⟩ := h1; exact Heap.lt_size e1
        · rw [q]; obtain ⟨_, e2, _⟩ := h2; exact Heap.lt_size e2
      rw [upd_ne (Nat.ne_of_lt hlt)]
      exact (hf c hcm).1
  done := by
    intro X hP hw hK hc i pins s σ H E I hf st hg
    subst hP hw hK
    obtain ⟨hz, hTI, ⟨x0, y0, hTO⟩, h1, h2⟩ := st
    obtain ⟨xs, ys, hqx, hqy, hend⟩ := hg
    obtain ⟨its, rv, p, _⟩ := I.list hqx
    obtain ⟨its2, rv2, p2, _⟩ := I.list hqy
    have l1 := rv.length
    have l2 := rv2.length
    have he : its.toArray[i]? = none ∨ its2.toArray[i]? = none := by
      rcases hend with q | q
      · exact .inl (by simp; omega)
      · exact .inr (by simp; omega)
    exact wpAny_pyNext_zip_end (I.ok.hd hc) D hz hTI hTO h1 h2 p.isList p2.isList he fun h' hk => ⟨rfl, I.turnedL (t' := s.toks) (ch := [z, TI, TO, i1, i2]) (fun c o hb q =>
      hk c o (fun q' => hb (by simp [q'])) (fun q' => hb (by simp [q'])) (fun q' => hb (by simp [q'])) (fun q' => hb (by simp [q'])) q) hf⟩
  self := fun A i s Q E st h => wpAny_pyIter_zip st.1 h
noncomputable def iZip (K : PySem.W.Frag) (ta : TA) : TI := fun σ H R => ta σ H fun vs H1 => ∃ a b xs ys, vs = [.ref a, .ref b] ∧ SqL K H1 a xs ∧ SqL K H1 b ys ∧ R (Itz K a b) H1
theorem pi_zip {X : Cx} {e e2 : Expr} {ta : TA} {p pos tpos : Pos} {elts : List Expr} {kk : Nat} (hg : Gl X "zip") (hm : X.mg "zip" = none) (ha : PA X [e, e2] ta)
    (hs : starEach [e, e2] X.env = (false, eval e X.env) :: starEach [e2] X.env := by rfl) (hpl : (backTo pos (starEach [e2] X.env)).any (·.1) = false := by rfl) :
    PI X (.Tuple elts kk tpos) (.Call (.Name "zip" p) [e, e2] [] pos) (iZip X.K ta) := by
  intro pins s σ H R I h
  refine Call_ (ld_blt I hg hm boot_zip5 (PyProof.Rows.callWith_type1 (thn (ha pos pins s σ H _ I h) fun us s1 ⟨vs, H1, I1, r1, q1⟩ => ?_) hs hpl))
  obtain ⟨a, b, xs, ys, ex, hqx, hqy, q⟩ := q1
  subst ex
  cases r1 with
  | cons r rr =>
    cases rr with
    | cons r' rr =>
      cases rr
      cases r
      cases r'
      obtain ⟨its, rv, p1, _⟩ := I1.list hqx
      obtain ⟨its2, rv2, p2, _⟩ := I1.list hqy
      have la : a < s1.heap.objs.size := p1.lt
      have lb : b < s1.heap.objs.size := p2.lt
      refine call_zip_2 p1.isList p2.isList fun h' hz hTI hTO h1 h2 hsz hk => wpAny_pyIter_zip hz ?_
      have I2 : Inv X pins σ H1 { s1 with heap := h' } := I1.kept (t' := s1.toks) hk
      refine ⟨s1.heap.objs.size + 4, [s1.heap.objs.size + 4, s1.heap.objs.size + 2, s1.heap.objs.size + 3, s1.heap.objs.size, s1.heap.objs.size + 1], _, _, H1, rfl, I2, turn_zip (PySem.W.ktu_apart s1.heap.objs.size a b la lb), ⟨hz, hTI, ⟨_, _, hTO⟩, h1, h2⟩, fun c hcm => ?_, q⟩
      have e' : c = s1.heap.objs.size + 4 ∨ c = s1.heap.objs.size + 2 ∨ c = s1.heap.objs.size + 3 ∨ c = s1.heap.objs.size ∨ c = s1.heap.objs.size + 1 := by simpa using hcm
      have hle : s1.heap.objs.size ≤ c := by
        rcases e' with z | z | z | z | z
        · rw [z]; exact Nat.le_add_right _ _
        · rw [z]; exact Nat.le_add_right _ _
        · rw [z]; exact Nat.le_add_right _ _
        · rw [z]; exact Nat.le_refl _
        · rw [z]; exact Nat.le_add_right _ _
      exact I1.fpOk hle (I1.hok.fresh hle)
end L2
section 
namespace Bits
open PySem PyProof.Rows
theorem nat_and_mul_pow (k : Nat) : ∀ a b : Nat, a < 2 ^ k → a &&& (b * 2 ^ k) = 0 := by
  induction k with
  | zero =>
    intro a b h
    have h0 : a = 0 := by
      rw [Nat.pow_zero] at h
      omega
    subst h0
    simp
  | succ k ih =>
    intro a b h
    have hm : (b * 2 ^ (k + 1)) = (b * 2 ^ k) * 2 := by rw [Nat.pow_succ, Nat.mul_assoc]
    have hlt : a / 2 < 2 ^ k := by
      rw [Nat.pow_succ] at h
      generalize 2 ^ k = m at h ⊢
      omega
    have i := ih (a / 2) b hlt
    rw [hm]
    generalize b * 2 ^ k = B at i ⊢
    have e : (a &&& (B * 2)) / 2 = a / 2 &&& (B * 2) / 2 := Nat.and_div_two
    have e2 : (B * 2) / 2 = B := by omega
    have o := @Nat.and_mod_two_eq_one a (B * 2)
    rw [e2, i] at e
    omega
theorem natCast_mul_pow (m k : Nat) : (m : Int) * 2 ^ k = ((m * 2 ^ k : Nat) : Int) := by
  rw [two_pow_cast]
  first
    | exact (Int.natCast_mul _ _).symm
    | simp
theorem bitOr_join {a b : Int} {k : Nat} (h0 : 0 ≤ a) (h1 : a < 2 ^ k) (hb : 0 ≤ b) : Builtin.bitOr a (b * 2 ^ k) = a + b * 2 ^ k := by
  obtain ⟨n, rfl⟩ := Int.eq_ofNat_of_zero_le h0
  obtain ⟨m, rfl⟩ := Int.eq_ofNat_of_zero_le hb
  have hn : n < 2 ^ k := by
    rw [two_pow_cast] at h1
    omega
  have e : Builtin.bitAnd (n : Int) ((m * 2 ^ k : Nat) : Int) = 0 := by
    rw [bitAnd_pp (by omega) (by omega), Int.toNat_natCast, Int.toNat_natCast, nat_and_mul_pow k n m hn] <;> rfl
  rw [natCast_mul_pow, bitOr_and, e]
  omega
theorem bitOr_join' {a b : Int} {k : Nat} (h0 : 0 ≤ a) (h1 : a < 2 ^ k) (hb : 0 ≤ b) : Builtin.bitOr (b * 2 ^ k) a = a + b * 2 ^ k := by
  rw [bitOr_comm]
  exact bitOr_join h0 h1 hb
theorem nxa_ar (m n x a : Nat) (h : x / 2 + 2 * (a / 2) = m / 2 + n / 2) (hx : x % 2 + 2 * (a % 2) = m % 2 + n % 2) : x + 2 * a = m + n := by
  have e1 := Nat.div_add_mod m 2
  have e2 := Nat.div_add_mod n 2
  have e3 := Nat.div_add_mod x 2
  have e4 := Nat.div_add_mod a 2
  generalize x / 2 = x1 at *
  generalize x % 2 = x2 at *
  generalize a / 2 = a1 at *
  generalize a % 2 = a2 at *
  generalize m / 2 = m1 at *
  generalize m % 2 = m2 at *
  generalize n / 2 = n1 at *
  generalize n % 2 = n2 at *
  subst e1 e2 e3 e4
  omega
theorem nxa_bit (m n : Nat) : (m ^^^ n) % 2 + 2 * ((m &&& n) % 2) = m % 2 + n % 2 := by
  have hx := Nat.xor_mod_two_pow (a := m) (b := n) (n := 1)
  have ha := Nat.and_mod_two_pow (a := m) (b := n) (n := 1)
  rw [Nat.pow_one] at hx ha
  rw [hx, ha]
  rcases Nat.mod_two_eq_zero_or_one m with h | h <;> rcases Nat.mod_two_eq_zero_or_one n with h' | h' <;> rw [h, h'] <;> rfl
theorem nat_xor_add_and (m : Nat) : ∀ n : Nat, (m ^^^ n) + 2 * (m &&& n) = m + n := by
  induction m using Nat.strongRecOn with
  | _ m ih =>
    intro n
    by_cases h0 : m = 0
    · subst h0
      simp
    · have ih' := ih (m / 2) (Nat.div_lt_self (Nat.pos_of_ne_zero h0) (by decide)) (n / 2)
      rw [← Nat.xor_div_two, ← Nat.and_div_two] at ih'
      exact nxa_ar m n _ _ ih' (nxa_bit m n)
theorem bitXor_pp {x y : Int} (hx : 0 ≤ x) (hy : 0 ≤ y) : Builtin.bitXor x y = ((x.toNat ^^^ y.toNat : Nat) : Int) := by
  have e := nat_xor_add_and x.toNat y.toNat
  rw [bitXor_and, bitAnd_pp hx hy]
  omega
theorem bitOr_pp {x y : Int} (hx : 0 ≤ x) (hy : 0 ≤ y) : Builtin.bitOr x y = ((x.toNat ||| y.toNat : Nat) : Int) := by
  have e := nat_or_add_and x.toNat y.toNat
  rw [bitOr_and, bitAnd_pp hx hy]
  omega
end Bits
end 
section 
namespace TL
open PySem PySem.Builtin PySem.Builtin.Str PySem.StrLaws
end TL
end 
namespace L2
open PySem PySem.Spec PyProof.Rows
section
variable {X : Cx} {pins : List (Addr × Obj)} {σ : St} {H : Hp} {s : Shared} {Q : VK}
end
section
variable {X : Cx}
end
section
variable {X : Cx} {o e : Expr} {to te : TE}
end
end L2
namespace L2
open PySem PySem.Spec PyProof.Rows
section
variable {X : Cx}
end
end L2
namespace Att
open PySem PySem.W PySem.Calls PyProof.Rows
theorem ints_of_wellAll {P : Params} {h : Heap} : ∀ (ns : List Int) (vs : List Value), WellAll P h vs (ns.map WData.int) → IntsAre vs ns := by
  intro ns
  induction ns with
  | nil =>
    intro vs w
    rw [List.map_nil] at w
    cases w
    exact .nil
  | cons n ns ih =>
    intro vs w
    rw [List.map_cons] at w
    cases w with
    | cons a b =>
      cases a
      exact .cons _ _ (ih _ b)
section
variable {prog : Program} {w : World} {A : Around} {E : Value → Shared → Prop} {s : Shared} {K : Frag}
end
end Att
namespace L2
open PySem PySem.Spec PyProof.Rows
theorem vals_ints : ∀ {vs : List Value} {ns : List Int}, IntsAre vs ns → Vals (ns.map V.int) vs
  | _, _, .nil => .nil
  | _, _, .cons n t h => .cons ⟨t, rfl⟩ (vals_ints h)
noncomputable def Only (H : Hp) : Prop := ∀ b, H b = none ∨ ∃ o xs, H b = some (.frz o (.lst xs))
end L2
namespace L2
open PySem PySem.Spec PyProof.Rows
noncomputable abbrev KOf {K : PySem.W.Frag} {h : Heap} (_ : K.In h) : PySem.W.Frag := K
end L2
namespace L2
open PySem PySem.Spec PyProof.Rows
noncomputable def inClass (s : Stmt) (j : Nat) : Stmt := match s with
  | .ClassDef _ _ _ body _ _ _ _ _ _ _ => body.getD j (.Pass ⟨0, 0, 0, 0⟩)
  | _ => .Pass ⟨0, 0, 0, 0⟩
noncomputable def defArgs (s : Stmt) : Arguments := match s with
  | .FunctionDef _ a _ _ _ _ _ _ _ _ => a
  | _ => { posonlyargs := [], args := [], vararg := none, kwonlyargs := [], kw_defaults := [], kwarg := none, defaults := [] }
noncomputable def defBody (s : Stmt) : List Stmt := match s with
  | .FunctionDef _ _ b _ _ _ _ _ _ _ => b
  | _ => []
noncomputable def defScope (s : Stmt) : Scope := match s with
  | .FunctionDef _ _ _ _ _ _ sc _ _ _ => sc
  | _ => { kind := .function, names := [], isGenerator := false, isCoroutine := false }
noncomputable abbrev CX0 : CXT := fun _ _ _ _ _ _ => False
noncomputable abbrev E0 : XK := fun _ _ _ => False
theorem pass0 {X : Cx} : Passes CX0 X E0 := fun _ _ _ _ _ _ _ h => h.elim
structure Fun (K : PySem.W.Frag) (x qual : Str) (st : Stmt) (f : Addr) (fd : FuncData) : Prop where
  ex : ∃ (oc : Value) (od : Option Addr) (kV doc pm : Value) (an : Option Addr) (cdv ct : Value) (osl : Array (Option Value)),
    fd = PySem.W.fnOf x qual (defArgs st) (defBody st) (defScope st) .none kV doc pm an cdv ct ∧ K.lookup f = some ⟨oc, od, .func fd, osl⟩ ∧ PySem.W.codeIn K cdv qual = true
  kp : PySem.W.keepIn K (.ref f) = true
section
variable {P : Program} {w : World} {K : PySem.W.Frag} {mg : Str → Option Value} {base : Heap}
theorem Fun.binds {x qual : Str} {st : Stmt} {f : Addr} {fd : FuncData} {ps : List Str} (F : Fun K x qual st f fd)
    (h : ∀ (kV doc pm : Value) (an : Option Addr) (cdv ct : Value) (us : List Value), us.length = ps.length → bindArgs (PySem.W.fnOf x qual (defArgs st) (defBody st) (defScope st) .none kV doc pm an cdv ct) ⟨us, []⟩ = pure (ps.zip us)) : Binds K fd ps [] := by
  obtain ⟨oc, od, kV, doc, pm, an, cdv, ct, osl, rfl, lk, hcd⟩ := F.ex
  exact .all (h kV doc pm an cdv ct)
theorem fun_mk {x qual : Str} {st : Stmt} {f : Addr} {oc : Value} {od an : Option Addr} {osl : Array (Option Value)} {kV doc pm cdv ct : Value} (l : K.lookup f = some ⟨oc, od, .func (PySem.W.fnOf x qual (defArgs st) (defBody st) (defScope st) .none kV doc pm an cdv ct), osl⟩)
    (c : PySem.W.codeIn K cdv qual = true) (k : PySem.W.keepIn K (.ref f) = true) : Fun K x qual st f (PySem.W.fnOf x qual (defArgs st) (defBody st) (defScope st) .none kV doc pm an cdv ct) := ⟨⟨oc, od, kV, doc, pm, an, cdv, ct, osl, rfl, l, c⟩, k⟩
end
theorem hu_of {A : Around} {k : Nat} (hr : Room k A) : A.units + 1 < cLine := Nat.lt_of_le_of_lt (Nat.add_le_add_left (by decide : 1 ≤ 64) _) hr.units
section
variable {X : Cx}
theorem pv (i : Nat) {x : Str} {pos : Pos} (hN : X.N[i]? = some x := by rfl) (hv : Vis X.env.scope x := by first | exact Or.inl rfl | exact Or.inr (Or.inl rfl) | exact Or.inr (Or.inr rfl)) (hd : (x == ("__debug__" : Str)) = false := by decide)
    (hcd : (x == ("__classdict__" : Str)) = false := by decide) : PE X (.Name x pos) (tVar i) := pe_var hN hv hd hcd
end
theorem iteF {A B : Prop} (h : B) : if false = true then A else B := by
  rw [if_neg Bool.false_ne_true]
  exact h
theorem iteT {A B : Prop} (h : A) : if true = true then A else B := by
  rw [if_pos rfl]
  exact h
theorem ite2 {c A B : Prop} [Decidable c] (h1 : c → A) (h2 : ¬ c → B) : if c then A else B := by
  by_cases h : c
  · rw [if_pos h]
    exact h1 h
  · rw [if_neg h]
    exact h2 h
noncomputable def Same (H H' : Hp) : Prop := ∀ b o, H b = some o → H' b = some o
theorem Same.refl (H : Hp) : Same H H := fun _ _ h => h
theorem Same.trans {H H1 H2 : Hp} (a : Same H H1) (b : Same H1 H2) : Same H H2 := fun c o h => b c o (a c o h)
theorem Same.free {H H' : Hp} (e : Same H H') {l : Addr} (h : H' l = Option.none) : H l = Option.none := by
  cases q : H l with
  | none => rfl
  | some o =>
    rw [e l o q] at h
    cases h
section
variable {κ : Type} [DecidableEq κ]
end
theorem at_of {xs : List V} {z : Int} {j : Nat} {v : V} (e : z = (j : Int)) (h : xs[j]? = some v) : atI xs z = some v := by
  rw [e]
  exact atI_nat h
end L2
namespace Cf
theorem two_pow_pos (k : Nat) : 0 < 2 ^ k := Nat.two_pow_pos k
theorem round_core (m s : Nat) (hs : 0 < s) : (m + 2 ^ (s - 1) - 1 + m / 2 ^ s % 2) / 2 ^ s =
    m / 2 ^ s + (if 2 ^ (s - 1) < m % 2 ^ s ∨ (m % 2 ^ s = 2 ^ (s - 1) ∧ m / 2 ^ s % 2 = 1) then 1 else 0) := by
  have e : 2 ^ s = 2 * 2 ^ (s - 1) := by
    obtain ⟨k, rfl⟩ : ∃ k, s = k + 1 := ⟨s - 1, by omega⟩
    rw [Nat.add_sub_cancel, Nat.pow_succ, Nat.mul_comm]
  have hp : 0 < 2 ^ (s - 1) := two_pow_pos _
  have hm := Nat.div_add_mod m (2 ^ s)
  have hr := Nat.mod_lt m (two_pow_pos s)
  generalize hq : m / 2 ^ s = q at hm ⊢
  generalize hrr : m % 2 ^ s = r at hm hr ⊢
  generalize hh : 2 ^ (s - 1) = h at e hp ⊢
  generalize 2 ^ s = S at e hm hr ⊢
  have ho : q % 2 = 0 ∨ q % 2 = 1 := by omega
  subst e
  by_cases hc : h < r ∨ (r = h ∧ q % 2 = 1)
  · rw [if_pos hc]
    have : m + h - 1 + q % 2 = 2 * h * (q + 1) + (r + h - 1 + q % 2 - 2 * h) := by
      rw [Nat.mul_add, Nat.mul_one]
      omega
    rw [this, Nat.mul_add_div (Nat.mul_pos (by decide) hp), Nat.div_eq_of_lt (by clear this hm; omega)]
  · rw [if_neg hc]
    have : m + h - 1 + q % 2 = 2 * h * q + (r + h - 1 + q % 2) := by omega
    rw [this, Nat.mul_add_div (Nat.mul_pos (by decide) hp), Nat.div_eq_of_lt (by clear this hm; omega)]
theorem log2_lt (m : Nat) (h : m ≠ 0) : m < 2 ^ (m.log2 + 1) := (Nat.log2_lt h).mp (Nat.lt_succ_self _)
theorem log2_le (m : Nat) (h : m ≠ 0) : 2 ^ m.log2 ≤ m := (Nat.le_log2 h).mp (Nat.le_refl _)
noncomputable def spareOf (m : Nat) (p : Int) : Int := if ((m.log2 + 1 : Nat) : Int) - 53 < -p then -p else ((m.log2 + 1 : Nat) : Int) - 53
noncomputable def keptOf (m : Nat) (sp : Int) : Nat := if 0 < sp then (m + 2 ^ (sp.toNat - 1) - 1 + m / 2 ^ sp.toNat % 2) / 2 ^ sp.toNat else m * 2 ^ (-sp).toNat
noncomputable def bitsOf (m : Nat) (p : Int) : Int := (p + spareOf m p) * 4503599627370496 + (keptOf m (spareOf m p) : Nat)
@[irreducible] noncomputable def rnd (sg m : Nat) (p : Int) : Option Nat := if m = 0 then some sg else if 9218868437227405312 ≤ bitsOf m p then none else some (sg + (bitsOf m p).toNat)
theorem mul_lt_53 (m : Nat) (h : m ≠ 0) (k : Nat) (hk : m.log2 + 1 + k ≤ 53) : m * 2 ^ k < 2 ^ 53 := by
  have h1 := log2_lt m h
  have h2 : m * 2 ^ k < 2 ^ (m.log2 + 1) * 2 ^ k := Nat.mul_lt_mul_of_pos_right h1 (two_pow_pos _)
  rw [← Nat.pow_add] at h2
  exact Nat.lt_of_lt_of_le h2 (Nat.pow_le_pow_right (by decide) hk)
theorem mul_ge_52 (m : Nat) (h : m ≠ 0) (k : Nat) (hk : m.log2 + k = 52) : 2 ^ 52 ≤ m * 2 ^ k := by
  have h1 := log2_le m h
  have h2 : 2 ^ m.log2 * 2 ^ k ≤ m * 2 ^ k := Nat.mul_le_mul_right _ h1
  rw [← Nat.pow_add, hk] at h2
  exact h2
theorem div_lt_53 (m : Nat) (h : m ≠ 0) (d : Nat) (hd : m.log2 + 1 ≤ 53 + d) : m / 2 ^ d < 2 ^ 53 := by
  have h1 := log2_lt m h
  rw [Nat.div_lt_iff_lt_mul (two_pow_pos _), ← Nat.pow_add]
  exact Nat.lt_of_lt_of_le h1 (Nat.pow_le_pow_right (by decide) hd)
theorem div_ge_52 (m : Nat) (h : m ≠ 0) (d : Nat) (hd : m.log2 = 52 + d) : 2 ^ 52 ≤ m / 2 ^ d := by
  have h1 := log2_le m h
  rw [Nat.le_div_iff_mul_le (two_pow_pos _), ← Nat.pow_add, ← hd]
  exact h1
theorem ends (sg n : Nat) (q : Int) (hq : -1074 ≤ q) (hn : n ≤ 2 ^ 53) (hlow : n < 2 ^ 52 → q = -1074) :
    (if (9218868437227405312 : Int) ≤ (q + 1074) * 4503599627370496 + (n : Nat) then none else some (sg + ((q + 1074) * 4503599627370496 + ((n : Nat) : Int)).toNat)) =
    (match (if n = 2 ^ 53 then (2 ^ 52, q + 1) else (n, q) : Nat × Int) with
      | (n, q) => if n < 2 ^ 52 then some (sg + n) else if 2047 ≤ q + 1075 then none else some (sg + (q + 1075).toNat * 2 ^ 52 + (n - 2 ^ 52))) := by
  by_cases h53 : n = 2 ^ 53
  · rw [if_pos h53]
    dsimp only
    rw [if_neg (show ¬ (2 : Nat) ^ 52 < 2 ^ 52 from Nat.lt_irrefl _)]
    clear hlow
    by_cases ho : 2047 ≤ q + 1 + 1075
    · rw [if_pos ho, if_pos (by omega)]
    · rw [if_neg ho, if_neg (by omega)]
      exact congrArg some (by omega)
  · rw [if_neg h53]
    dsimp only
    by_cases hl : n < 2 ^ 52
    · have := hlow hl
      subst this
      rw [if_pos hl, if_neg (by omega)]
      exact congrArg some (by omega)
    · rw [if_neg hl]
      clear hlow
      by_cases ho : 2047 ≤ q + 1075
      · rw [if_pos ho, if_pos (by omega)]
      · rw [if_neg ho, if_neg (by omega)]
        exact congrArg some (by omega)
noncomputable def nOf (m : Nat) (sp : Int) (more : Bool) : Nat := if sp ≤ 0 then m * 2 ^ (-sp).toNat else
  m / 2 ^ sp.toNat + (if 2 ^ (sp.toNat - 1) < m % 2 ^ sp.toNat ∨ (m % 2 ^ sp.toNat = 2 ^ (sp.toNat - 1) ∧ (more = true ∨ m / 2 ^ sp.toNat % 2 = 1)) then 1 else 0)
theorem spec_eq (neg : Bool) (m : Nat) (p : Int) (more : Bool) (hm : m ≠ 0) : Sn42.rounded neg m (p - 1074) more =
    (match (if nOf m (spareOf m p) more = 2 ^ 53 then (2 ^ 52, p - 1074 + spareOf m p + 1) else (nOf m (spareOf m p) more, p - 1074 + spareOf m p) : Nat × Int) with
      | (n, q) => if n < 2 ^ 52 then some (Sn42.signBit neg + n) else if 2047 ≤ q + 1075 then none else some (Sn42.signBit neg + (q + 1075).toNat * 2 ^ 52 + (n - 2 ^ 52))) := by
  unfold Sn42.rounded
  rw [if_neg hm]
  have hq : max (p - 1074 + ((m.log2 + 1 : Nat) : Int) - 53) (-1074) = p - 1074 + spareOf m p := by
    unfold spareOf
    split <;> omega
  simp only []
  rw [hq]
  have hn : (if p - 1074 + spareOf m p ≤ p - 1074 then m * 2 ^ (p - 1074 - (p - 1074 + spareOf m p)).toNat
      else m / 2 ^ (p - 1074 + spareOf m p - (p - 1074)).toNat + (if 2 ^ ((p - 1074 + spareOf m p - (p - 1074)).toNat - 1) < m % 2 ^ (p - 1074 + spareOf m p - (p - 1074)).toNat ∨ (m % 2 ^ (p - 1074 + spareOf m p - (p - 1074)).toNat = 2 ^ ((p - 1074 + spareOf m p - (p - 1074)).toNat - 1) ∧ (more = true ∨ m / 2 ^ (p - 1074 + spareOf m p - (p - 1074)).toNat % 2 = 1)) then 1 else 0)) = nOf m (spareOf m p) more := by
    have e1 : p - 1074 - (p - 1074 + spareOf m p) = -spareOf m p := by omega
    have e2 : p - 1074 + spareOf m p - (p - 1074) = spareOf m p := by omega
    unfold nOf
    rw [e1, e2]
    by_cases h : spareOf m p ≤ 0
    · rw [if_pos h, if_pos (by omega)]
    · rw [if_neg h, if_neg (by omega)]
  rw [hn]
theorem nOf_bounds (m : Nat) (p : Int) (more : Bool) (hm : m ≠ 0) : nOf m (spareOf m p) more ≤ 2 ^ 53 ∧ (nOf m (spareOf m p) more < 2 ^ 52 → spareOf m p = -p) := by
  have hsp : spareOf m p = -p ∨ (spareOf m p = ((m.log2 + 1 : Nat) : Int) - 53) := by
    unfold spareOf
    split <;> simp
  have hge : ((m.log2 + 1 : Nat) : Int) - 53 ≤ spareOf m p := by
    unfold spareOf
    split <;> omega
  generalize spareOf m p = sp at hsp hge ⊢
  unfold nOf
  by_cases h : sp ≤ 0
  · rw [if_pos h]
    refine ⟨Nat.le_of_lt (mul_lt_53 m hm _ (by omega)), fun hl => ?_⟩
    rcases hsp with q | q
    · exact q
    · exact absurd (mul_ge_52 m hm (-sp).toNat (by omega)) (by omega)
  · rw [if_neg h]
    have h1 := div_lt_53 m hm sp.toNat (by omega)
    refine ⟨?_, fun hl => ?_⟩
    · split <;> omega
    · rcases hsp with q | q
      · exact q
      · have := div_ge_52 m hm sp.toNat (by omega)
        split at hl <;> omega
theorem kept_eq (m : Nat) (sp : Int) : keptOf m sp = nOf m sp false := by
  unfold keptOf nOf
  by_cases h : sp ≤ 0
  · rw [if_pos h, if_neg (by omega)]
  · rw [if_neg h, if_pos (by omega), round_core _ _ (by omega)]
    simp
theorem spare_q (m : Nat) (p : Int) : -p ≤ spareOf m p := by
  unfold spareOf
  split <;> omega
theorem rnd_gen (neg : Bool) (m m' : Nat) (p p' : Int) (more : Bool) (hm : m ≠ 0) (hm' : m' ≠ 0) (hq : p + spareOf m p = p' + spareOf m' p') (hk : keptOf m (spareOf m p) = nOf m' (spareOf m' p') more) :
    rnd (Sn42.signBit neg) m p = Sn42.rounded neg m' (p' - 1074) more := by
  rw [spec_eq neg m' p' more hm']
  unfold rnd bitsOf
  rw [if_neg hm, hq, hk]
  have hb := nOf_bounds m' p' more hm'
  have h := ends (Sn42.signBit neg) (nOf m' (spareOf m' p') more) (p' - 1074 + spareOf m' p') (by have := spare_q m' p'; omega) hb.1 (fun hl => by have := hb.2 hl; omega)
  have e : p' - 1074 + spareOf m' p' + 1074 = p' + spareOf m' p' := by omega
  rw [e] at h
  exact h
theorem rnd_eq (neg : Bool) (m : Nat) (p : Int) : rnd (Sn42.signBit neg) m p = Sn42.rounded neg m (p - 1074) false := by
  by_cases hm : m = 0
  · subst hm
    unfold rnd Sn42.rounded
    rw [if_pos rfl, if_pos rfl]
  · exact rnd_gen neg m m p p false hm hm rfl (kept_eq _ _)
end Cf
namespace Cf
noncomputable def kN (x : Nat) : Nat := x / 2 ^ 52 % 2048
noncomputable def exN (x : Nat) : Nat := if kN x = 0 then 0 else kN x - 1
noncomputable def maN (x : Nat) : Nat := if kN x = 0 then x % 2 ^ 52 else x % 2 ^ 52 + 2 ^ 52
theorem whole_eq (x : Nat) : Sn42.whole x = (maN x, (exN x : Int) - 1074) := by
  unfold Sn42.whole maN exN kN
  simp only []
  split
  · rfl
  · refine Prod.ext rfl ?_
    show ((x / 2 ^ 52 % 2048 : Nat) : Int) - 1075 = ((x / 2 ^ 52 % 2048 - 1 : Nat) : Int) - 1074
    omega
theorem maN_lt (x : Nat) : maN x < 2 ^ 53 := by
  unfold maN
  have : x % 2 ^ 52 < 2 ^ 52 := Nat.mod_lt _ (by decide)
  split <;> omega
theorem exN_lt (x : Nat) : exN x < 2047 := by
  unfold exN kN
  split <;> omega
noncomputable def sgn (x : Nat) : Nat := Sn42.signBit (Sn42.negative x)
@[irreducible] noncomputable def totN (x y : Nat) : Int :=
  let yw : Int := if Sn42.negative x = Sn42.negative y then (maN y : Int) else -(maN y : Int)
  if exN y < exN x then (maN x : Int) * 2 ^ (exN x - exN y) + yw else (maN x : Int) + yw * 2 ^ (exN y - exN x)
@[irreducible] noncomputable def addN (x y : Nat) : Option Nat :=
  if totN x y = 0 then some (if Sn42.negative x = true ∧ Sn42.negative y = true then 2 ^ 63 else 0)
  else if totN x y < 0 then rnd (sgn y) (totN x y).natAbs (if exN y < exN x then exN y else exN x : Nat)
  else rnd (sgn x) (totN x y).natAbs (if exN y < exN x then exN y else exN x : Nat)
theorem tot_spec (x y : Nat) :
    (if Sn42.negative x = true then -1 else 1) * ((maN x * 2 ^ (exN x - min (exN x) (exN y)) : Nat) : Int) + (if Sn42.negative y = true then -1 else 1) * ((maN y * 2 ^ (exN y - min (exN x) (exN y)) : Nat) : Int) =
      (if Sn42.negative x = true then -1 else 1) * totN x y := by
  unfold totN
  simp only []
  by_cases h : exN y < exN x
  · rw [if_pos h]
    have e1 : min (exN x) (exN y) = exN y := by omega
    rw [e1, Nat.sub_self, Nat.pow_zero, Nat.mul_one]
    have e2 : ((maN x * 2 ^ (exN x - exN y) : Nat) : Int) = (maN x : Int) * 2 ^ (exN x - exN y) := by
      rw [Int.natCast_mul, Int.natCast_pow]
      rfl
    rw [e2]
    generalize (maN x : Int) * 2 ^ (exN x - exN y) = a
    cases Sn42.negative x <;> cases Sn42.negative y <;> simp <;> omega
  · rw [if_neg h]
    have e1 : min (exN x) (exN y) = exN x := by omega
    rw [e1, Nat.sub_self, Nat.pow_zero, Nat.mul_one]
    have e2 : ((maN y * 2 ^ (exN y - exN x) : Nat) : Int) = (maN y : Int) * 2 ^ (exN y - exN x) := by
      rw [Int.natCast_mul, Int.natCast_pow]
      rfl
    rw [e2]
    have e3 : (-(maN y : Int)) * 2 ^ (exN y - exN x) = -((maN y : Int) * 2 ^ (exN y - exN x)) := by rw [Int.neg_mul]
    cases Sn42.negative x <;> cases Sn42.negative y <;> simp [e3] <;> omega
theorem tot_neg (x y : Nat) (h : totN x y < 0) : Sn42.negative x ≠ Sn42.negative y := by
  intro e
  unfold totN at h
  simp only [e, if_true] at h
  have h1 : (0 : Int) ≤ (maN x : Int) * 2 ^ (exN x - exN y) := by
    have : (0 : Int) ≤ ((maN x * 2 ^ (exN x - exN y) : Nat) : Int) := Int.natCast_nonneg _
    rw [Int.natCast_mul, Int.natCast_pow] at this
    exact this
  have h2 : (0 : Int) ≤ (maN y : Int) * 2 ^ (exN y - exN x) := by
    have : (0 : Int) ≤ ((maN y * 2 ^ (exN y - exN x) : Nat) : Int) := Int.natCast_nonneg _
    rw [Int.natCast_mul, Int.natCast_pow] at this
    exact this
  split at h <;> omega
theorem add_eq (x y : Nat) : Sn42.add x y = addN x y := by
  unfold Sn42.add
  simp only [whole_eq]
  have emin : min ((exN x : Int) - 1074) ((exN y : Int) - 1074) = ((min (exN x) (exN y) : Nat) : Int) - 1074 := by omega
  have e1 : ((exN x : Int) - 1074 - (((min (exN x) (exN y) : Nat) : Int) - 1074)).toNat = exN x - min (exN x) (exN y) := by omega
  have e2 : ((exN y : Int) - 1074 - (((min (exN x) (exN y) : Nat) : Int) - 1074)).toNat = exN y - min (exN x) (exN y) := by omega
  rw [emin, e1, e2, tot_spec]
  have em : (if exN y < exN x then exN y else exN x) = min (exN x) (exN y) := by split <;> omega
  unfold addN
  rw [em]
  clear emin e1 e2 em
  by_cases h0 : totN x y = 0
  · rw [if_pos h0, h0, if_pos (by simp)]
  · rw [if_neg h0]
    have hne : ¬ (if Sn42.negative x = true then (-1 : Int) else 1) * totN x y = 0 := by split <;> omega
    rw [if_neg hne]
    have hab : ((if Sn42.negative x = true then (-1 : Int) else 1) * totN x y).natAbs = (totN x y).natAbs := by split <;> omega
    rw [hab]
    by_cases hl : totN x y < 0
    · rw [if_pos hl]
      have hs := tot_neg x y hl
      have hd : decide ((if Sn42.negative x = true then (-1 : Int) else 1) * totN x y < 0) = Sn42.negative y := by
        cases hx : Sn42.negative x <;> cases hy : Sn42.negative y <;> simp [hx, hy] at hs ⊢ <;> omega
      rw [hd, ← rnd_eq]
      rfl
    · rw [if_neg hl]
      have hd : decide ((if Sn42.negative x = true then (-1 : Int) else 1) * totN x y < 0) = Sn42.negative x := by
        cases hx : Sn42.negative x <;> simp <;> omega
      rw [hd, ← rnd_eq]
      rfl
@[irreducible] noncomputable def mulN (x y : Nat) : Option Nat := rnd (Sn42.signBit (Sn42.negative x != Sn42.negative y)) (maN x * maN y) ((exN x : Int) + (exN y : Int) - 1074)
theorem mul_eq (x y : Nat) : Sn42.mul x y = mulN x y := by
  unfold Sn42.mul mulN
  rw [whole_eq, whole_eq, rnd_eq]
  congr 1
  show (exN x : Int) - 1074 + ((exN y : Int) - 1074) = _
  omega
@[irreducible] noncomputable def quoN (a b : Nat) : Nat := if a * 2 ^ 110 / b * b = a * 2 ^ 110 then a * 2 ^ 110 / b else a * 2 ^ 110 / b ||| 1
@[irreducible] noncomputable def divN (x y : Nat) : Option Nat := if maN y = 0 then none else rnd (Sn42.signBit (Sn42.negative x != Sn42.negative y)) (quoN (maN x) (maN y)) ((exN x : Int) - (exN y : Int) + 1074 - 110)
theorem or_one (m : Nat) : m ||| 1 = 2 * (m / 2) + 1 := by
  have h1 : (m ||| 1) / 2 = m / 2 := by
    rw [Nat.or_div_two]
    simp
  have h2 : (m ||| 1) % 2 = 1 := by
    have := @Nat.or_mod_two_eq_one m 1
    omega
  omega
theorem log2_or_one (m : Nat) (h : m ≠ 0) : (m ||| 1).log2 = m.log2 := by
  rw [or_one]
  have h1 := log2_lt m h
  have h2 := log2_le m h
  have e : 2 ^ (m.log2 + 1) = 2 * 2 ^ m.log2 := by rw [Nat.pow_succ, Nat.mul_comm]
  refine (Nat.log2_eq_iff (by omega)).mpr ⟨by omega, ?_⟩
  rw [e] at h1 ⊢
  omega
theorem log2_mul_pow (m j : Nat) (t : Nat) (ht : t < 2 ^ j) (h : m ≠ 0) : (m * 2 ^ j + t).log2 = m.log2 + j := by
  have h1 := log2_lt m h
  have h2 := log2_le m h
  have hp := two_pow_pos j
  have hne : m * 2 ^ j + t ≠ 0 := by
    have : 0 < m * 2 ^ j := Nat.mul_pos (by omega) hp
    omega
  refine (Nat.log2_eq_iff hne).mpr ⟨?_, ?_⟩
  · rw [Nat.pow_add]
    have := Nat.mul_le_mul_right (2 ^ j) h2
    omega
  · have : (m + 1) * 2 ^ j ≤ 2 ^ (m.log2 + 1) * 2 ^ j := Nat.mul_le_mul_right _ h1
    rw [← Nat.pow_add] at this
    have e : m.log2 + 1 + j = m.log2 + j + 1 := by omega
    rw [e] at this
    rw [Nat.add_mul, Nat.one_mul] at this
    omega
theorem sticky (M t s : Nat) (more : Bool) (ht : t < 2 ^ 10) (hs : 2 ≤ s) (w : Nat) (hw : w = if t = 0 ∧ more = false then M else M ||| 1) :
    w / 2 ^ s + (if 2 ^ (s - 1) < w % 2 ^ s ∨ (w % 2 ^ s = 2 ^ (s - 1) ∧ w / 2 ^ s % 2 = 1) then 1 else 0) =
    (M * 2 ^ 10 + t) / 2 ^ (s + 10) + (if 2 ^ (s + 10 - 1) < (M * 2 ^ 10 + t) % 2 ^ (s + 10) ∨ ((M * 2 ^ 10 + t) % 2 ^ (s + 10) = 2 ^ (s + 10 - 1) ∧ (more = true ∨ (M * 2 ^ 10 + t) / 2 ^ (s + 10) % 2 = 1)) then 1 else 0) := by
  obtain ⟨u, rfl⟩ : ∃ u, s = u + 2 := ⟨s - 2, by omega⟩
  have eS : 2 ^ (u + 2) = 4 * 2 ^ u := by rw [Nat.pow_add]; omega
  have eh : 2 ^ (u + 2 - 1) = 2 * 2 ^ u := by
    show 2 ^ (u + 1) = _
    rw [Nat.pow_succ]; omega
  have eS10 : 2 ^ (u + 2 + 10) = 4096 * 2 ^ u := by rw [Nat.pow_add, eS]; omega
  have eh10 : 2 ^ (u + 2 + 10 - 1) = 2048 * 2 ^ u := by
    show 2 ^ (u + 11) = _
    rw [Nat.pow_add]; omega
  have hU := two_pow_pos u
  rw [eS, eh, eS10, eh10]
  have hM := Nat.div_add_mod M (4 * 2 ^ u)
  have hr := Nat.mod_lt M (show 0 < 4 * 2 ^ u by omega)
  generalize hq : M / (4 * 2 ^ u) = q at hM
  generalize hrr : M % (4 * 2 ^ u) = r at hM hr
  generalize 2 ^ u = U at *
  -- the long one
  have eL : M * 2 ^ 10 + t = 4096 * U * q + (r * 1024 + t) := by
    have a1 : 4 * U * q = 4 * (U * q) := Nat.mul_assoc _ _ _
    have a2 : 4096 * U * q = 4096 * (U * q) := Nat.mul_assoc _ _ _
    rw [a1] at hM
    rw [a2]
    generalize U * q = P at hM
    clear a1 a2
    omega
  have hlt : r * 1024 + t < 4096 * U := by omega
  rw [eL, Nat.mul_add_div (by omega), Nat.mul_add_mod, Nat.div_eq_of_lt hlt, Nat.mod_eq_of_lt hlt, Nat.add_zero]
  -- the short one
  have hws : w = 4 * U * q + (if t = 0 ∧ more = false then r else 2 * (r / 2) + 1) := by
    rw [hw]
    split
    · exact hM.symm
    · rw [or_one]
      have e4 : 4 * U * q = 2 * (2 * U * q) := by
        rw [Nat.mul_assoc, Nat.mul_assoc]
        omega
      omega
  have hwl : (if t = 0 ∧ more = false then r else 2 * (r / 2) + 1) < 4 * U := by split <;> omega
  rw [hws, Nat.mul_add_div (by omega), Nat.mul_add_mod, Nat.div_eq_of_lt hwl, Nat.mod_eq_of_lt hwl, Nat.add_zero]
  congr 1
  clear hwl hws eL hlt hM eS eh eS10 eh10 hw
  by_cases hst : t = 0 ∧ more = false
  · rw [if_pos hst]
    obtain ⟨rfl, rfl⟩ := hst
    have e1 : (2 * U < r ∨ (r = 2 * U ∧ q % 2 = 1)) ↔ (2048 * U < r * 1024 + 0 ∨ (r * 1024 + 0 = 2048 * U ∧ (false = true ∨ q % 2 = 1))) := by
      simp
      omega
    simp only [e1]
  · rw [if_neg hst]
    have e1 : (2 * U < 2 * (r / 2) + 1 ∨ (2 * (r / 2) + 1 = 2 * U ∧ q % 2 = 1)) ↔ (2048 * U < r * 1024 + t ∨ (r * 1024 + t = 2048 * U ∧ (more = true ∨ q % 2 = 1))) := by
      cases more with
      | true => simp; omega
      | false =>
        have : t ≠ 0 := fun z => hst ⟨z, rfl⟩
        simp
        omega
    simp only [e1]
theorem div_eq (x y : Nat) : Sn42.div x y = divN x y := by
  unfold Sn42.div divN
  simp only [whole_eq]
  by_cases hb : maN y = 0
  · rw [if_pos hb, if_pos hb]
  · rw [if_neg hb, if_neg hb]
    have hbl := maN_lt y
    generalize hneg : (Sn42.negative x != Sn42.negative y) = neg
    generalize maN x = a
    generalize maN y = b at hb hbl
    have ee : (exN x : Int) - 1074 - ((exN y : Int) - 1074) - 120 = ((exN x : Int) - (exN y : Int) + 1074 - 120) - 1074 := by omega
    rw [ee]
    generalize hE : (exN x : Int) - (exN y : Int) + 1074 = E
    have hElo : -2047 + 1074 ≤ E := by
      have := exN_lt x
      have := exN_lt y
      omega
    by_cases ha : a = 0
    · subst ha
      unfold quoN Sn42.rounded rnd
      simp
    · -- the quotients
      have e120 : (2 : Nat) ^ 120 = 2 ^ 110 * 1024 := Nat.pow_add 2 110 10
      have hP : (2 : Nat) ^ 57 * 2 ^ 53 = 2 ^ 110 := (Nat.pow_add 2 57 53).symm
      have hq0 : quoN a b = if a * 2 ^ 110 / b * b = a * 2 ^ 110 then a * 2 ^ 110 / b else a * 2 ^ 110 / b ||| 1 := by unfold quoN; rfl
      rw [e120]
      generalize (2 : Nat) ^ 110 = P at hP hq0 ⊢
      generalize hM : a * P / b = M at hq0
      generalize hm : a * (P * 1024) / b = m
      have hmM : m / 1024 = M := by
        rw [← hm, ← hM, Nat.div_div_eq_div_mul, Nat.mul_comm b, ← Nat.div_div_eq_div_mul, ← Nat.mul_assoc, Nat.mul_div_cancel _ (by decide)]
      have hMge : 2 ^ 57 ≤ M := by
        rw [← hM, Nat.le_div_iff_mul_le (Nat.pos_of_ne_zero hb)]
        have h1 : 2 ^ 57 * b ≤ 2 ^ 57 * 2 ^ 53 := Nat.mul_le_mul_left _ (by omega)
        have h2 : 1 * P ≤ a * P := Nat.mul_le_mul_right _ (by omega)
        rw [hP] at h1
        omega
      have hM0 : M ≠ 0 := by omega
      have hdm := Nat.div_add_mod m 1024
      rw [hmM] at hdm
      have htl := Nat.mod_lt m (show 0 < 1024 by decide)
      generalize ht : m % 1024 = t at hdm htl
      have hmt : m = M * 2 ^ 10 + t := by omega
      -- exact or not
      have hex : (M * b = a * P) ↔ (t = 0 ∧ (a * (P * 1024) % b != 0) = false) := by
        have d1 := Nat.div_add_mod (a * (P * 1024)) b
        rw [hm] at d1
        have e10 : a * (P * 1024) = a * P * 1024 := (Nat.mul_assoc _ _ _).symm
        have hbm : b * m = M * b * 1024 + b * t := by
          rw [hmt, Nat.mul_add, Nat.mul_comm b (M * 2 ^ 10), Nat.mul_right_comm]
        rw [hbm] at d1
        generalize hR : a * (P * 1024) % b = R at d1
        rw [e10] at d1
        generalize M * b = Z at d1
        generalize a * P = Y at d1
        constructor
        · intro h
          subst h
          have h2 : b * t = 0 := by omega
          have h3 : t = 0 := by
            rcases Nat.mul_eq_zero.mp h2 with z | z
            · exact absurd z hb
            · exact z
          have h4 : R = 0 := by omega
          exact ⟨h3, by rw [h4]; rfl⟩
        · rintro ⟨rfl, h⟩
          have h4 : R = 0 := by simpa using h
          subst h4
          omega
      generalize hmo : (a * (P * 1024) % b != 0) = more at hex
      have hw : quoN a b = if t = 0 ∧ more = false then M else M ||| 1 := by
        rw [hq0]
        by_cases h : M * b = a * P
        · rw [if_pos h, if_pos (hex.mp h)]
        · rw [if_neg h, if_neg (fun z => h (hex.mpr z))]
      generalize quoN a b = w at hw
      have hlw : w.log2 = M.log2 := by
        rw [hw]
        split
        · rfl
        · exact log2_or_one M hM0
      have hw0 : w ≠ 0 := by
        rw [hw]
        split
        · exact hM0
        · rw [or_one]; omega
      have hlm : m.log2 = M.log2 + 10 := by rw [hmt]; exact log2_mul_pow M 10 t htl hM0
      have hlM : 57 ≤ M.log2 := (Nat.le_log2 hM0).mpr hMge
      have hm0 : m ≠ 0 := by omega
      clear hM hm hmM hP hdm hex hq0 hMge hElo ht hE
      have hsp : spareOf m (E - 120) = spareOf w (E - 110) + 10 := by
        unfold spareOf
        rw [hlm, hlw]
        split <;> split <;> omega
      refine (rnd_gen neg w m (E - 110) (E - 120) more hw0 hm0 (by omega) ?_).symm
      rw [hsp]
      have hsg : 5 ≤ spareOf w (E - 110) := by
        unfold spareOf
        rw [hlw]
        split <;> omega
      generalize spareOf w (E - 110) = sp at hsg
      obtain ⟨s, rfl⟩ : ∃ s : Nat, sp = (s : Int) := ⟨sp.toNat, by omega⟩
      unfold keptOf nOf
      rw [if_pos (by omega), if_neg (by omega)]
      have e1 : ((s : Int) + 10).toNat = s + 10 := by omega
      have e2 : (s : Int).toNat = s := by omega
      rw [e1, e2, round_core _ _ (by omega), hmt]
      exact sticky M t s more htl (by omega) w hw
end Cf
namespace Cf
theorem signBit_le (b : Bool) : Sn42.signBit b ≤ 2 ^ 63 := by cases b <;> decide
theorem rnd_lt {sg m : Nat} {p : Int} {r : Nat} (hs : sg ≤ 2 ^ 63) (h : rnd sg m p = some r) : r < 2 ^ 64 := by
  unfold rnd at h
  split at h
  · cases h; omega
  · split at h
    · cases h
    · cases h; omega
theorem addN_lt {x y r : Nat} (h : addN x y = some r) : r < 2 ^ 64 := by
  unfold addN at h
  split at h
  · cases h; split <;> omega
  · split at h
    · exact rnd_lt (signBit_le _) h
    · exact rnd_lt (signBit_le _) h
theorem mulN_lt {x y r : Nat} (h : mulN x y = some r) : r < 2 ^ 64 := by
  unfold mulN at h
  exact rnd_lt (signBit_le _) h
theorem divN_lt {x y r : Nat} (h : divN x y = some r) : r < 2 ^ 64 := by
  unfold divN at h
  split at h
  · cases h
  · exact rnd_lt (signBit_le _) h
theorem opp_lt {x : Nat} (h : x < 2 ^ 64) : Sn42.opposite x < 2 ^ 64 := by
  unfold Sn42.opposite Sn42.negative
  by_cases h2 : 2 ^ 63 ≤ x
  · rw [if_pos (decide_eq_true h2)]
    show (x - 2 ^ 63 : Nat) < 2 ^ 64
    omega
  · rw [if_neg (by simpa using h2)]
    show (x + 2 ^ 63 : Nat) < 2 ^ 64
    omega
@[irreducible] noncomputable def subN (x y : Nat) : Option Nat := addN x (Sn42.opposite y)
theorem sub_eq (x y : Nat) : Sn42.sub x y = subN x y := by
  unfold subN
  exact add_eq _ _
theorem subN_lt {x y r : Nat} (h : subN x y = some r) : r < 2 ^ 64 := by
  unfold subN at h
  exact addN_lt h
noncomputable def mapO {α β : Type} (f : α → Option β) : List α → Option (List β)
  | [] => some []
  | x :: r => (f x).bind fun y => (mapO f r).bind fun ys => some (y :: ys)
theorem mapM_eq {α β : Type} (f : α → Option β) : ∀ l : List α, l.mapM f = mapO f l
  | [] => by simp [mapO]
  | x :: r => by
    rw [List.mapM_cons, mapM_eq f r]
    rfl
theorem mapO_none {α β : Type} {f : α → Option β} : ∀ {l : List α} {x : α}, x ∈ l → f x = none → mapO f l = none
  | y :: r, x, hm, hx => by
    unfold mapO
    rcases List.mem_cons.mp hm with rfl | hm
    · rw [hx]; rfl
    · rw [mapO_none hm hx]
      cases f y <;> rfl
theorem mapO_app {α β : Type} {f : α → Option β} : ∀ {l m : List α}, mapO f (l ++ m) = (mapO f l).bind fun a => (mapO f m).bind fun b => some (a ++ b)
  | [], m => by
    show mapO f m = _
    simp only [mapO, Option.bind_some, List.nil_append]
    cases mapO f m <;> rfl
  | x :: r, m => by
    show (f x).bind (fun y => (mapO f (r ++ m)).bind fun ys => some (y :: ys)) = ((f x).bind fun y => (mapO f r).bind fun ys => some (y :: ys)).bind _
    rw [mapO_app]
    cases f x with
    | none => rfl
    | some y =>
      cases mapO f r with
      | none => rfl
      | some a =>
        generalize mapO f m = z
        cases z <;> rfl
theorem mapO_len {α β : Type} {f : α → Option β} : ∀ {l : List α} {ys : List β}, mapO f l = some ys → ys.length = l.length
  | [], ys, h => by cases h; rfl
  | x :: r, ys, h => by
    unfold mapO at h
    cases hx : f x with
    | none => rw [hx] at h; cases h
    | some y =>
      cases hr : mapO f r with
      | none => rw [hx, hr] at h; cases h
      | some zs =>
        rw [hx, hr] at h
        cases h
        rw [List.length_cons, List.length_cons, mapO_len hr]
theorem mapO_all {α β : Type} {f : α → Option β} {P : β → Prop} (hP : ∀ x y, f x = some y → P y) : ∀ {l : List α} {ys : List β}, mapO f l = some ys → ∀ y ∈ ys, P y
  | [], ys, h => by cases h; intro y hy; cases hy
  | a :: r, ys, h => by
    unfold mapO at h
    cases hx : f a with
    | none => rw [hx] at h; cases h
    | some z =>
      cases hr : mapO f r with
      | none => rw [hx, hr] at h; cases h
      | some zs =>
        rw [hx, hr] at h
        cases h
        intro y hy
        rcases List.mem_cons.mp hy with rfl | hy
        · exact hP _ _ hx
        · exact mapO_all hP hr y hy
theorem mapO_take {α β : Type} {f : α → Option β} {l : List α} {i : Nat} {x : α} {acc : List β} (h : mapO f (l.take i) = some acc) (e : l[i]? = some x) :
    (∀ y, f x = some y → mapO f (l.take (i + 1)) = some (acc ++ [y])) ∧ (f x = none → mapO f l = none) := by
  refine ⟨fun y hy => ?_, fun hn => mapO_none (List.mem_of_getElem? e) hn⟩
  rw [List.take_add_one, e]
  show mapO f (l.take i ++ [x]) = _
  rw [mapO_app, h]
  show (mapO f [x]).bind _ = _
  simp [mapO, hy]
noncomputable def weightsN : List Nat := [Sn42.weight 0, Sn42.weight 1, Sn42.weight 2, Sn42.weight 3, Sn42.weight 4, Sn42.weight 5, Sn42.weight 6, Sn42.weight 7, Sn42.weight 8]
noncomputable def speedsN (ux uy : Nat) : Option (List Nat) :=
  (addN ux uy).bind fun both => (subN uy ux).bind fun a => (subN ux uy).bind fun b =>
    some [0, ux, uy, Sn42.opposite ux, Sn42.opposite uy, both, a, Sn42.opposite both, b]
noncomputable def shareN (w rho s u : Nat) : Option Nat :=
  (mulN Sn42.THREE s).bind fun c => (addN Sn42.ONE c).bind fun lin => (mulN Sn42.HALF c).bind fun h => (mulN h c).bind fun sq =>
    (mulN w rho).bind fun m => (addN lin sq).bind fun p => (subN p u).bind fun q => mulN m q
noncomputable def restU (ux uy : Nat) : Option Nat :=
  (mulN ux ux).bind fun a => (mulN uy uy).bind fun b => (addN a b).bind fun c => mulN c Sn42.THREE_HALVES
noncomputable def restN (rho ux uy : Nat) : Option (List Nat) :=
  (restU ux uy).bind fun u => (speedsN ux uy).bind fun al => mapO (fun p : Nat × Nat => shareN p.1 rho p.2 u) (weightsN.zip al)
theorem bind_comm {α β γ : Type} (a : Option α) (b : Option β) (f : α → β → Option γ) : (a.bind fun x => b.bind fun y => f x y) = b.bind fun y => a.bind fun x => f x y := by
  cases a <;> cases b <;> rfl
theorem fmul : Sn42.mul = mulN := funext fun x => funext fun y => mul_eq x y
theorem fadd : Sn42.add = addN := funext fun x => funext fun y => add_eq x y
theorem fsub : Sn42.sub = subN := funext fun x => funext fun y => sub_eq x y
theorem share_gen (mul add sub : Nat → Nat → Option Nat) (T O F w rho s u : Nat) :
    ((mul T s).bind fun c => (add O c).bind fun p => (mul F c).bind fun h => (mul h c).bind fun q => (add p q).bind fun p => (sub p u).bind fun p => (mul w rho).bind fun m => mul m p) =
    ((mul T s).bind fun c => (add O c).bind fun lin => (mul F c).bind fun h => (mul h c).bind fun sq => (mul w rho).bind fun m => (add lin sq).bind fun p => (sub p u).bind fun q => mul m q) := by
  cases mul T s with
  | none => rfl
  | some c =>
    show ((add O c).bind fun p => (mul F c).bind fun h => (mul h c).bind fun q => (add p q).bind fun p => (sub p u).bind fun p => (mul w rho).bind fun m => mul m p) = ((add O c).bind fun lin => (mul F c).bind fun h => (mul h c).bind fun sq => (mul w rho).bind fun m => (add lin sq).bind fun p => (sub p u).bind fun q => mul m q)
    cases add O c with
    | none => rfl
    | some p =>
      show ((mul F c).bind fun h => (mul h c).bind fun q => (add p q).bind fun p => (sub p u).bind fun p => (mul w rho).bind fun m => mul m p) = ((mul F c).bind fun h => (mul h c).bind fun sq => (mul w rho).bind fun m => (add p sq).bind fun p => (sub p u).bind fun q => mul m q)
      cases mul F c with
      | none => rfl
      | some h =>
        show ((mul h c).bind fun q => (add p q).bind fun p => (sub p u).bind fun p => (mul w rho).bind fun m => mul m p) = ((mul h c).bind fun sq => (mul w rho).bind fun m => (add p sq).bind fun p => (sub p u).bind fun q => mul m q)
        cases mul h c with
        | none => rfl
        | some q =>
          show ((add p q).bind fun p => (sub p u).bind fun p => (mul w rho).bind fun m => mul m p) = ((mul w rho).bind fun m => (add p q).bind fun p => (sub p u).bind fun q => mul m q)
          cases add p q with
          | none => cases mul w rho <;> rfl
          | some z =>
            show ((sub z u).bind fun p => (mul w rho).bind fun m => mul m p) = (mul w rho).bind fun m => (sub z u).bind fun q => mul m q
            exact bind_comm _ _ _
theorem settled_gen (mul add sub : Nat → Nat → Option Nat) (opp weight : Nat → Nat) (T O F rho ux uy u : Nat) (al : Nat → Option Nat)
    (a0 : al 0 = some 0) (a1 : al 1 = some ux) (a2 : al 2 = some uy) (a3 : al 3 = some (opp ux)) (a4 : al 4 = some (opp uy)) (a5 : al 5 = add ux uy) (a6 : al 6 = sub uy ux) (a7 : al 7 = (add ux uy).map opp) (a8 : al 8 = sub ux uy) :
    (mapO (fun i => (al i).bind fun s => (mul T s).bind fun c => (add O c).bind fun p => (mul F c).bind fun h => (mul h c).bind fun q => (add p q).bind fun p => (sub p u).bind fun p => (mul (weight i) rho).bind fun m => mul m p) [0, 1, 2, 3, 4, 5, 6, 7, 8]) =
    ((add ux uy).bind fun both => (sub uy ux).bind fun a => (sub ux uy).bind fun b => some [0, ux, uy, opp ux, opp uy, both, a, opp both, b]).bind fun l =>
      mapO (fun p : Nat × Nat => (mul T p.2).bind fun c => (add O c).bind fun lin => (mul F c).bind fun h => (mul h c).bind fun sq => (mul p.1 rho).bind fun m => (add lin sq).bind fun p => (sub p u).bind fun q => mul m q)
        ([weight 0, weight 1, weight 2, weight 3, weight 4, weight 5, weight 6, weight 7, weight 8].zip l) := by
  have hg := fun w s => share_gen mul add sub T O F w rho s u
  simp only [hg]
  cases h5 : add ux uy with
  | none =>
    rw [mapO_none (x := 5) (by simp) (by rw [a5, h5]; rfl)]
    rfl
  | some both =>
    cases h6 : sub uy ux with
    | none =>
      rw [mapO_none (x := 6) (by simp) (by rw [a6, h6]; rfl)]
      rfl
    | some d =>
      cases h8 : sub ux uy with
      | none =>
        rw [mapO_none (x := 8) (by simp) (by rw [a8, h8]; rfl)]
        rfl
      | some e =>
        simp only [mapO, a0, a1, a2, a3, a4, a5, a6, a7, a8, h5, h6, h8, Option.bind_some, Option.map_some, List.zip, List.zipWith]
theorem range9 : List.range 9 = [0, 1, 2, 3, 4, 5, 6, 7, 8] := by decide
theorem settled_eq (rho ux uy : Nat) : Sn42.settled ⟨rho, ux, uy⟩ = restN rho ux uy := by
  unfold Sn42.settled restN restU
  simp only [mapM_eq, range9]
  have key := fun u => settled_gen mulN addN subN Sn42.opposite Sn42.weight Sn42.THREE Sn42.ONE Sn42.HALF rho ux uy u (Sn42.along ⟨rho, ux, uy⟩) rfl rfl rfl rfl rfl (add_eq _ _) (sub_eq _ _) (by rw [← fadd]; rfl) (sub_eq _ _)
  rw [fmul, fadd, fsub]
  simp only [Option.bind_assoc]
  congr 1; funext a
  congr 1; funext b
  congr 1; funext c
  congr 1; funext u
  exact key u
noncomputable def sumO : Nat → List Nat → Option Nat
  | s, [] => some s
  | s, x :: r => (addN s x).bind fun t => sumO t r
noncomputable def rightN (f : List Nat) : Option Nat :=
  (subN (f.getD 1 0) (f.getD 3 0)).bind fun p => (subN (f.getD 5 0) (f.getD 6 0)).bind fun q => (subN (f.getD 8 0) (f.getD 7 0)).bind fun r => (addN p q).bind fun s => addN s r
noncomputable def downN (f : List Nat) : Option Nat :=
  (subN (f.getD 2 0) (f.getD 4 0)).bind fun p => (subN (f.getD 5 0) (f.getD 8 0)).bind fun q => (subN (f.getD 6 0) (f.getD 7 0)).bind fun r => (addN p q).bind fun s => addN s r
noncomputable def flowN (f : List Nat) : Option (Nat × Nat × Nat) :=
  (sumO (f.getD 0 0) (f.drop 1)).bind fun rho => (rightN f).bind fun mx => (divN mx rho).bind fun ux => (downN f).bind fun my => (divN my rho).bind fun uy => some (rho, ux, uy)
theorem flow_eq (f : List Nat) (h : f.length = 9) : Sn42.flow f = (flowN f).map fun w => ⟨w.1, w.2.1, w.2.2⟩ := by
  match f, h with
  | [f0, f1, f2, f3, f4, f5, f6, f7, f8], _ =>
    unfold Sn42.flow flowN
    have hs : ((List.range 8).foldlM (fun s i => Sn42.add s ([f0, f1, f2, f3, f4, f5, f6, f7, f8].getD (i + 1) 0)) ([f0, f1, f2, f3, f4, f5, f6, f7, f8].getD 0 0)) = sumO ([f0, f1, f2, f3, f4, f5, f6, f7, f8].getD 0 0) ([f0, f1, f2, f3, f4, f5, f6, f7, f8].drop 1) := by
      have hr : List.range 8 = [0, 1, 2, 3, 4, 5, 6, 7] := by decide
      rw [hr]
      simp only [List.foldlM_cons, List.foldlM_nil, add_eq, List.drop_succ_cons, List.drop_zero, sumO]
      rfl
    simp only []
    rw [hs]
    unfold rightN downN
    simp only [add_eq, sub_eq, div_eq, Option.bind_assoc, Option.map_bind, Function.comp_def]
    congr 1; funext rho
    congr 1; funext p
    congr 1; funext q
    congr 1; funext r
    congr 1; funext s
    congr 1; funext mx
    have e : ∀ (D : Option Nat), (D.bind fun my => (divN mx rho).bind fun ux => (divN my rho).map fun uy => (⟨rho, ux, uy⟩ : Sn42.Flow)) = (divN mx rho).bind fun ux => D.bind fun my => (divN my rho).map fun uy => (⟨rho, ux, uy⟩ : Sn42.Flow) := fun D => bind_comm _ _ _
    have e2 := e (downN [f0, f1, f2, f3, f4, f5, f6, f7, f8])
    unfold downN at e2
    simp only [Option.bind_assoc] at e2
    refine e2.trans ?_
    congr 1; funext ux
    congr 1; funext p
    congr 1; funext q
    congr 1; funext r
    congr 1; funext s
    congr 1; funext my
    cases divN my rho <;> rfl
noncomputable def easeN (omega f r : Nat) : Option Nat := (subN f r).bind fun d => (mulN omega d).bind fun e => subN f e
noncomputable def easedN (omega : Nat) (f : List Nat) : Option (List Nat) :=
  (flowN f).bind fun w => (restN w.1 w.2.1 w.2.2).bind fun r => mapO (fun p : Nat × Nat => easeN omega p.1 p.2) (f.zip r)
theorem restN_len {rho ux uy : Nat} {l : List Nat} (h : restN rho ux uy = some l) : l.length = 9 := by
  unfold restN at h
  cases hu : restU ux uy with
  | none => rw [hu] at h; cases h
  | some u =>
    cases hs : speedsN ux uy with
    | none => rw [hu, hs] at h; cases h
    | some al =>
      rw [hu, hs] at h
      have hl : al.length = 9 := by
        unfold speedsN at hs
        cases h1 : addN ux uy with
        | none => rw [h1] at hs; cases hs
        | some a =>
          cases h2 : subN uy ux with
          | none => rw [h1, h2] at hs; cases hs
          | some b =>
            cases h3 : subN ux uy with
            | none => rw [h1, h2, h3] at hs; cases hs
            | some c => rw [h1, h2, h3] at hs; cases hs; rfl
      have := mapO_len h
      rw [this, List.length_zip, hl]
      rfl
theorem shareN_lt {w rho s u r : Nat} (h : shareN w rho s u = some r) : r < 2 ^ 64 := by
  unfold shareN at h
  simp only [Option.bind_eq_some_iff] at h
  obtain ⟨_, _, _, _, _, _, _, _, _, _, _, _, _, _, h⟩ := h
  exact mulN_lt h
theorem restN_lt {rho ux uy : Nat} {l : List Nat} (h : restN rho ux uy = some l) : ∀ x ∈ l, x < 2 ^ 64 := by
  unfold restN at h
  simp only [Option.bind_eq_some_iff] at h
  obtain ⟨u, _, al, _, h⟩ := h
  exact mapO_all (fun _ _ e => shareN_lt e) h
theorem eased_eq (omega : Nat) (f : List Nat) (hf : f.length = 9) : Sn42.eased omega f = easedN omega f := by
  unfold Sn42.eased easedN
  rw [flow_eq f hf]
  cases hw : flowN f with
  | none => rfl
  | some w =>
    show (Sn42.settled ⟨w.1, w.2.1, w.2.2⟩).bind _ = (restN w.1 w.2.1 w.2.2).bind _
    rw [settled_eq]
    cases hr : restN w.1 w.2.1 w.2.2 with
    | none => rfl
    | some r =>
      have hl := restN_len hr
      show (List.range 9).mapM _ = mapO _ (f.zip r)
      rw [mapM_eq]
      match f, r, hf, hl with
      | [f0, f1, f2, f3, f4, f5, f6, f7, f8], [r0, r1, r2, r3, r4, r5, r6, r7, r8], _, _ =>
        have hr : List.range 9 = [0, 1, 2, 3, 4, 5, 6, 7, 8] := by decide
        rw [hr]
        simp only [mapO, sub_eq, mul_eq, List.zip, List.zipWith]
        rfl
theorem easedN_len {omega : Nat} {f g : List Nat} (hf : f.length = 9) (h : easedN omega f = some g) : g.length = 9 := by
  unfold easedN at h
  simp only [Option.bind_eq_some_iff] at h
  obtain ⟨w, _, r, hr, h⟩ := h
  rw [mapO_len h, List.length_zip, hf, restN_len hr]
  rfl
theorem easedN_lt {omega : Nat} {f g : List Nat} (h : easedN omega f = some g) : ∀ x ∈ g, x < 2 ^ 64 := by
  unfold easedN at h
  simp only [Option.bind_eq_some_iff] at h
  obtain ⟨w, _, r, hr, h⟩ := h
  refine mapO_all (fun p y e => ?_) h
  unfold easeN at e
  simp only [Option.bind_eq_some_iff] at e
  obtain ⟨_, _, _, _, e⟩ := e
  exact subN_lt e
end Cf
namespace Cf
structure WF (g : Sn42.Grid) : Prop where
  c1 : 1 ≤ g.cols
  c2 : g.cols ≤ 256
  r1 : 1 ≤ g.rows
  r2 : g.rows ≤ 256
  om : g.omega < 2 ^ 64
  wl : g.walls.length = g.cols * g.rows
  sl : g.shares.length = g.cols * g.rows
  s9 : ∀ f ∈ g.shares, f.length = 9 ∧ ∀ x ∈ f, x < 2 ^ 64
noncomputable def srcN (g : Sn42.Grid) (k : Nat) : List Nat :=
  if g.wall k = true then (List.range 9).map fun i => k * 9 + i
  else (List.range 9).map fun i => if g.wall (Sn42.source g k i) = true then k * 9 + Sn42.back i else Sn42.source g k i * 9 + i
noncomputable def srcsN (g : Sn42.Grid) : List (List Nat) := (List.range (g.cols * g.rows)).map (srcN g)
noncomputable def easedAll (omega : Nat) (walls : List Bool) (sh : List (List Nat)) : Option (List (List Nat)) :=
  mapO (fun p : List Nat × Bool => if p.2 = true then some p.1 else easedN omega p.1) (sh.zip walls)
noncomputable def movedN (sh : List (List Nat)) (srcs : List (List Nat)) : List (List Nat) := srcs.map fun pl => pl.map fun p => sh.flatten.getD p 0
noncomputable def stepN (omega : Nat) (walls : List Bool) (srcs : List (List Nat)) (sh : List (List Nat)) : Option (List (List Nat)) := (easedAll omega walls sh).map fun l => movedN l srcs
theorem source_lt (g : Sn42.Grid) (hc : 1 ≤ g.cols) (hr : 1 ≤ g.rows) (k i : Nat) : Sn42.source g k i < g.cols * g.rows := by
  unfold Sn42.source
  simp only []
  have h1 : ∀ z : Int, 0 ≤ z % (g.cols : Int) ∧ z % (g.cols : Int) < g.cols := fun z => ⟨Int.emod_nonneg _ (by omega), Int.emod_lt_of_pos _ (by omega)⟩
  have h2 : ∀ z : Int, 0 ≤ z % (g.rows : Int) ∧ z % (g.rows : Int) < g.rows := fun z => ⟨Int.emod_nonneg _ (by omega), Int.emod_lt_of_pos _ (by omega)⟩
  have a := h1 (((k % g.cols : Nat) : Int) - (Sn42.ways.getD i (0, 0)).1)
  have b := h2 (((k / g.cols : Nat) : Int) - (Sn42.ways.getD i (0, 0)).2)
  generalize (((k % g.cols : Nat) : Int) - (Sn42.ways.getD i (0, 0)).1) % (g.cols : Int) = x at a ⊢
  generalize (((k / g.cols : Nat) : Int) - (Sn42.ways.getD i (0, 0)).2) % (g.rows : Int) = y at b ⊢
  have : (y.toNat + 1) * g.cols ≤ g.rows * g.cols := Nat.mul_le_mul_right _ (by omega)
  rw [Nat.add_mul, Nat.one_mul, Nat.mul_comm g.rows] at this
  omega
theorem flat_get : ∀ (l : List (List Nat)) (k i : Nat), (∀ f ∈ l, f.length = 9) → i < 9 → k < l.length → l.flatten.getD (k * 9 + i) 0 = (l.getD k []).getD i 0
  | [], k, i, _, _, hk => by simp at hk
  | f :: r, 0, i, h, hi, _ => by
    have hf := h f (List.mem_cons.mpr (.inl rfl))
    show (f ++ r.flatten).getD (0 * 9 + i) 0 = f.getD i 0
    rw [Nat.zero_mul, Nat.zero_add, List.getD_eq_getElem?_getD, List.getD_eq_getElem?_getD, List.getElem?_append_left (by omega)]
  | f :: r, k + 1, i, h, hi, hk => by
    have hf := h f (List.mem_cons.mpr (.inl rfl))
    show (f ++ r.flatten).getD ((k + 1) * 9 + i) 0 = (r.getD k []).getD i 0
    rw [← flat_get r k i (fun q hq => h q (List.mem_cons.mpr (.inr hq))) hi (by simpa using hk), List.getD_eq_getElem?_getD, List.getD_eq_getElem?_getD, List.getElem?_append_right (by omega)]
    have e : (k + 1) * 9 + i - f.length = k * 9 + i := by omega
    rw [e]
theorem flat_len : ∀ (l : List (List Nat)), (∀ f ∈ l, f.length = 9) → l.flatten.length = 9 * l.length
  | [], _ => rfl
  | f :: r, h => by
    have hf := h f (List.mem_cons.mpr (.inl rfl))
    show (f ++ r.flatten).length = 9 * (r.length + 1)
    rw [List.length_append, hf, flat_len r (fun q hq => h q (List.mem_cons.mpr (.inr hq)))]
    omega
theorem flat_mem {l : List (List Nat)} {x : Nat} (h : ∀ f ∈ l, ∀ x ∈ f, x < 2 ^ 64) (hx : x ∈ l.flatten) : x < 2 ^ 64 := by
  obtain ⟨f, hf, hx⟩ := List.mem_flatten.mp hx
  exact h f hf x hx
theorem back_lt (i : Nat) : Sn42.back i < 9 := by
  unfold Sn42.back
  by_cases h : i < 9
  · match i, h with
    | 0, _ => decide
    | 1, _ => decide
    | 2, _ => decide
    | 3, _ => decide
    | 4, _ => decide
    | 5, _ => decide
    | 6, _ => decide
    | 7, _ => decide
    | 8, _ => decide
  · rw [List.getD_eq_getElem?_getD, List.getElem?_eq_none (by simp; omega)]
    decide
theorem srcN_len (g : Sn42.Grid) (k : Nat) : (srcN g k).length = 9 := by
  unfold srcN
  split <;> simp
theorem srcN_lt {g : Sn42.Grid} (hc : 1 ≤ g.cols) (hr : 1 ≤ g.rows) {k : Nat} (hk : k < g.cols * g.rows) : ∀ p ∈ srcN g k, p < 9 * (g.cols * g.rows) := by
  intro p hp
  unfold srcN at hp
  split at hp
  · obtain ⟨i, hi, rfl⟩ := List.mem_map.mp hp
    have := List.mem_range.mp hi
    omega
  · obtain ⟨i, hi, rfl⟩ := List.mem_map.mp hp
    have h9 := List.mem_range.mp hi
    have hb := back_lt i
    have hs := source_lt g hc hr k i
    split <;> omega
theorem easedAll_eq {g : Sn42.Grid} (w : WF g) : ((List.range (g.cols * g.rows)).mapM fun k => if g.wall k = true then some (g.shares.getD k []) else Sn42.eased g.omega (g.shares.getD k [])) = easedAll g.omega g.walls g.shares := by
  rw [mapM_eq]
  unfold easedAll Sn42.Grid.wall
  have hl := w.sl
  have hw := w.wl
  have h9 := fun f hf => (w.s9 f hf).1
  generalize g.shares = sh at hl h9
  generalize g.walls = wl at hw
  generalize g.cols * g.rows = n at hl hw
  generalize g.omega = om
  -- by the lists
  have key : ∀ (n : Nat) (sh : List (List Nat)) (wl : List Bool) (d : Nat) (F : Nat → List Nat) (G : Nat → Bool), sh.length = n → wl.length = n → (∀ f ∈ sh, f.length = 9) → (∀ i, i < n → F (d + i) = sh.getD i []) → (∀ i, i < n → G (d + i) = wl.getD i false) →
      mapO (fun k => if G k = true then some (F k) else Sn42.eased om (F k)) (List.range' d n) = mapO (fun p : List Nat × Bool => if p.2 = true then some p.1 else easedN om p.1) (sh.zip wl) := by
    intro n
    induction n with
    | zero =>
      intro sh wl d F G h1 h2 _ _ _
      match sh, wl, h1, h2 with
      | [], [], _, _ => rfl
    | succ n ih =>
      intro sh wl d F G h1 h2 h9 hF hG
      match sh, wl, h1, h2 with
      | f :: sh, b :: wl, h1, h2 =>
        have e1 : F d = f := hF 0 (by omega)
        have e2 : G d = b := hG 0 (by omega)
        show (if G d = true then some (F d) else Sn42.eased om (F d)).bind (fun y => (mapO _ (List.range' (d + 1) n)).bind fun ys => some (y :: ys)) = (if b = true then some f else easedN om f).bind fun y => (mapO _ (sh.zip wl)).bind fun ys => some (y :: ys)
        rw [e1, e2, eased_eq om f (h9 f (List.mem_cons.mpr (.inl rfl)))]
        rw [ih sh wl (d + 1) F G (by simpa using h1) (by simpa using h2) (fun q hq => h9 q (List.mem_cons.mpr (.inr hq))) (fun i hi => ?_) (fun i hi => ?_)]
        · have := hF (i + 1) (by omega)
          have e : d + 1 + i = d + (i + 1) := by omega
          rw [e, this]
          rfl
        · have := hG (i + 1) (by omega)
          have e : d + 1 + i = d + (i + 1) := by omega
          rw [e, this]
          rfl
  rw [List.range_eq_range']
  exact key n sh wl 0 (fun k => sh.getD k []) (fun k => wl.getD k false) hl hw h9 (fun i _ => by rw [Nat.zero_add]) (fun i _ => by rw [Nat.zero_add])
theorem easedAll_len {om : Nat} {wl : List Bool} {sh l : List (List Nat)} (h : easedAll om wl sh = some l) (h9 : ∀ f ∈ sh, f.length = 9 ∧ ∀ x ∈ f, x < 2 ^ 64) (hl : sh.length = wl.length) : l.length = sh.length ∧ ∀ f ∈ l, f.length = 9 ∧ ∀ x ∈ f, x < 2 ^ 64 := by
  refine ⟨?_, ?_⟩
  · rw [mapO_len h, List.length_zip]
    omega
  · unfold easedAll at h
    have key : ∀ (zs : List (List Nat × Bool)) (l : List (List Nat)), (∀ p ∈ zs, p.1.length = 9 ∧ ∀ x ∈ p.1, x < 2 ^ 64) → mapO (fun p : List Nat × Bool => if p.2 = true then some p.1 else easedN om p.1) zs = some l → ∀ f ∈ l, f.length = 9 ∧ ∀ x ∈ f, x < 2 ^ 64 := by
      intro zs
      induction zs with
      | nil => intro l _ h f hf; cases h; cases hf
      | cons p zs ih =>
        intro l hp h
        unfold mapO at h
        simp only [Option.bind_eq_some_iff] at h
        obtain ⟨y, hy, ys, hys, h⟩ := h
        cases h
        intro f hf
        rcases List.mem_cons.mp hf with rfl | hf
        · split at hy
          · cases hy; exact hp p (List.mem_cons.mpr (.inl rfl))
          · exact ⟨easedN_len (hp p (List.mem_cons.mpr (.inl rfl))).1 hy, easedN_lt hy⟩
        · exact ih ys (fun q hq => hp q (List.mem_cons.mpr (.inr hq))) hys f hf
    refine key _ _ (fun p hp => ?_) h
    have := List.of_mem_zip (a := p.1) (b := p.2) hp
    exact h9 _ this.1
theorem moved_eq {g : Sn42.Grid} (w : WF g) {l : List (List Nat)} (hl : l.length = g.cols * g.rows) (h9 : ∀ f ∈ l, f.length = 9) :
    ((List.range (g.cols * g.rows)).map fun k => if g.wall k = true then l.getD k [] else (List.range 9).map fun i => if g.wall (Sn42.source g k i) = true then (l.getD k []).getD (Sn42.back i) 0 else (l.getD (Sn42.source g k i) []).getD i 0) = movedN l (srcsN g) := by
  unfold movedN srcsN
  rw [List.map_map]
  refine List.map_congr_left fun k hk => ?_
  have hk := List.mem_range.mp hk
  show _ = (srcN g k).map _
  unfold srcN
  split
  · rename_i hw
    rw [List.map_map]
    have hm : l.getD k [] ∈ l := by
      rw [List.getD_eq_getElem?_getD, List.getElem?_eq_getElem (by omega)]
      exact List.getElem_mem _
    have hlen := h9 _ hm
    have hff : ∀ i, i < 9 → l.flatten.getD (k * 9 + i) 0 = (l.getD k []).getD i 0 := fun i hi => flat_get l k i h9 hi (by omega)
    generalize l.getD k [] = fk at hlen hff
    apply List.ext_getElem
    · rw [List.length_map, List.length_range]; exact hlen
    · intro i h1 h2
      have hi : i < 9 := by omega
      rw [List.getElem_map, List.getElem_range]
      show _ = l.flatten.getD (k * 9 + i) 0
      rw [hff i hi, List.getD_eq_getElem?_getD, List.getElem?_eq_getElem h1]
      rfl
  · rw [List.map_map]
    refine List.map_congr_left fun i hi => ?_
    have hi := List.mem_range.mp hi
    show _ = l.flatten.getD (if g.wall (Sn42.source g k i) = true then k * 9 + Sn42.back i else Sn42.source g k i * 9 + i) 0
    by_cases hw : g.wall (Sn42.source g k i) = true
    · rw [if_pos hw, if_pos hw, flat_get l k _ h9 (back_lt i) (by omega)]
    · rw [if_neg hw, if_neg hw, flat_get l (Sn42.source g k i) i h9 hi (by have := source_lt g w.c1 w.r1 k i; omega)]
theorem step1_eq {g : Sn42.Grid} (w : WF g) : Sn42.step1 g = (stepN g.omega g.walls (srcsN g) g.shares).map fun sh => { g with shares := sh } := by
  unfold Sn42.step1 stepN
  rw [easedAll_eq w]
  cases h : easedAll g.omega g.walls g.shares with
  | none => rfl
  | some l =>
    have hl := easedAll_len h w.s9 (by rw [w.sl, w.wl])
    have e := moved_eq w (l := l) (by rw [hl.1, w.sl]) fun f hf => (hl.2 f hf).1
    exact congrArg (fun z => some ({ g with shares := z } : Sn42.Grid)) e
theorem stepN_wf {g : Sn42.Grid} (w : WF g) {sh : List (List Nat)} (h : stepN g.omega g.walls (srcsN g) g.shares = some sh) : WF { g with shares := sh } := by
  unfold stepN at h
  cases he : easedAll g.omega g.walls g.shares with
  | none => rw [he] at h; cases h
  | some l =>
    rw [he] at h
    cases h
    have hl := easedAll_len he w.s9 (by rw [w.sl, w.wl])
    refine ⟨w.c1, w.c2, w.r1, w.r2, w.om, w.wl, ?_, ?_⟩
    · show (movedN l (srcsN g)).length = _
      unfold movedN srcsN
      simp
    · intro f hf
      unfold movedN at hf
      obtain ⟨pl, hpl, rfl⟩ := List.mem_map.mp hf
      unfold srcsN at hpl
      obtain ⟨k, hk, rfl⟩ := List.mem_map.mp hpl
      refine ⟨by rw [List.length_map, srcN_len], fun x hx => ?_⟩
      obtain ⟨p, hp, rfl⟩ := List.mem_map.mp hx
      have hlt := srcN_lt w.c1 w.r1 (List.mem_range.mp hk) p hp
      have hfl : l.flatten.length = 9 * (g.cols * g.rows) := by rw [flat_len l fun f hf => (hl.2 f hf).1, hl.1, w.sl]
      rw [List.getD_eq_getElem?_getD, List.getElem?_eq_getElem (by omega)]
      exact flat_mem (fun f hf => (hl.2 f hf).2) (List.getElem_mem _)
noncomputable def itN {α : Type} (F : α → Option α) : Nat → α → Option α
  | 0, s => some s
  | n + 1, s => (F s).bind (itN F n)
theorem it_add {α : Type} (F : α → Option α) : ∀ (a b : Nat) (s : α), itN F (a + b) s = (itN F a s).bind (itN F b)
  | 0, b, s => by rw [Nat.zero_add]; rfl
  | a + 1, b, s => by
    have e : a + 1 + b = (a + b) + 1 := by omega
    rw [e]
    show (F s).bind (itN F (a + b)) = ((F s).bind (itN F a)).bind (itN F b)
    cases F s with
    | none => rfl
    | some t => exact it_add F a b t
theorem it_round {α : Type} (F : α → Option α) {c : Nat} {s : α} (h : itN F c s = some s) : ∀ n, itN F n s = itN F (n % c) s := by
  intro n
  induction n using Nat.strongRecOn with
  | _ n ih =>
    by_cases hc : c = 0
    · subst hc; rw [Nat.mod_zero]
    · by_cases hn : n < c
      · rw [Nat.mod_eq_of_lt hn]
      · have e : n = c + (n - c) := by omega
        rw [e, it_add, h]
        show itN F (n - c) s = _
        rw [ih (n - c) (by omega), Nat.add_mod_left]
theorem steps_eq {g : Sn42.Grid} : ∀ (n : Nat), WF g → Sn42.steps n g = (itN (stepN g.omega g.walls (srcsN g)) n g.shares).map fun sh => { g with shares := sh }
  | n, w => by
    have key : ∀ (n : Nat) (sh : List (List Nat)), WF { g with shares := sh } → Sn42.steps n { g with shares := sh } = (itN (stepN g.omega g.walls (srcsN g)) n sh).map fun sh => { g with shares := sh } := by
      intro n
      induction n with
      | zero => intro sh _; rfl
      | succ n ih =>
        intro sh w
        show (Sn42.step1 { g with shares := sh }).bind (Sn42.steps n) = ((stepN g.omega g.walls (srcsN g) sh).bind (itN _ n)).map _
        rw [step1_eq w]
        have es : srcsN { g with shares := sh } = srcsN g := rfl
        rw [es]
        cases h : stepN g.omega g.walls (srcsN g) sh with
        | none => rfl
        | some s2 => exact ih s2 (stepN_wf w h)
    exact key n g.shares w
theorem it_wf {g : Sn42.Grid} : ∀ (n : Nat) {sh s2 : List (List Nat)}, WF { g with shares := sh } → itN (stepN g.omega g.walls (srcsN g)) n sh = some s2 → WF { g with shares := s2 }
  | 0, sh, s2, w, h => by cases h; exact w
  | n + 1, sh, s2, w, h => by
    have h : (stepN g.omega g.walls (srcsN g) sh).bind (itN _ n) = some s2 := h
    cases e : stepN g.omega g.walls (srcsN g) sh with
    | none => rw [e] at h; cases h
    | some s1 =>
      rw [e] at h
      exact it_wf n (stepN_wf w e) h
noncomputable def massN : Nat → List (List Nat × Bool) → Option Nat
  | t, [] => some t
  | t, (f, b) :: r => if b = true then massN t r else (sumO t f).bind fun t' => massN t' r
theorem sum9 (t : Nat) (f : List Nat) (h : f.length = 9) : ((List.range 9).foldlM (fun s i => Sn42.add s (f.getD i 0)) t) = sumO t f := by
  match f, h with
  | [f0, f1, f2, f3, f4, f5, f6, f7, f8], _ =>
    rw [range9]
    simp only [List.foldlM_cons, List.foldlM_nil, add_eq, sumO]
    rfl
theorem mass_eq {g : Sn42.Grid} (w : WF g) : Sn42.mass g = massN 0 (g.shares.zip g.walls) := by
  unfold Sn42.mass Sn42.Grid.wall Sn42.Grid.share
  have hl := w.sl
  have hw := w.wl
  have h9 := fun f hf => (w.s9 f hf).1
  generalize g.shares = sh at hl h9
  generalize g.walls = wl at hw
  generalize g.cols * g.rows = n at hl hw
  have key : ∀ (n : Nat) (sh : List (List Nat)) (wl : List Bool) (d t : Nat) (F : Nat → List Nat) (G : Nat → Bool), sh.length = n → wl.length = n → (∀ f ∈ sh, f.length = 9) → (∀ i, i < n → F (d + i) = sh.getD i []) → (∀ i, i < n → G (d + i) = wl.getD i false) →
      (((List.range' d n).filter fun k => !G k).foldlM (fun s k => (List.range 9).foldlM (fun s i => Sn42.add s ((F k).getD i 0)) s) t) = massN t (sh.zip wl) := by
    intro n
    induction n with
    | zero =>
      intro sh wl d t F G h1 h2 _ _ _
      match sh, wl, h1, h2 with
      | [], [], _, _ => rfl
    | succ n ih =>
      intro sh wl d t F G h1 h2 h9 hF hG
      match sh, wl, h1, h2 with
      | f :: sh, b :: wl, h1, h2 =>
        have e1 : F d = f := hF 0 (by omega)
        have e2 : G d = b := hG 0 (by omega)
        have hF' : ∀ i, i < n → F (d + 1 + i) = sh.getD i [] := fun i hi => by
          have := hF (i + 1) (by omega)
          have e : d + 1 + i = d + (i + 1) := by omega
          rw [e, this]
          rfl
        have hG' : ∀ i, i < n → G (d + 1 + i) = wl.getD i false := fun i hi => by
          have := hG (i + 1) (by omega)
          have e : d + 1 + i = d + (i + 1) := by omega
          rw [e, this]
          rfl
        have h9' : ∀ f ∈ sh, f.length = 9 := fun q hq => h9 q (List.mem_cons.mpr (.inr hq))
        show (((d :: List.range' (d + 1) n).filter fun k => !G k).foldlM _ t) = if b = true then massN t (sh.zip wl) else (sumO t f).bind fun t' => massN t' (sh.zip wl)
        rw [List.filter_cons, e2]
        cases b with
        | true =>
          simp only [Bool.not_true, Bool.false_eq_true, if_false, if_true]
          exact ih sh wl (d + 1) t F G (by simpa using h1) (by simpa using h2) h9' hF' hG'
        | false =>
          simp only [Bool.not_false, if_true, Bool.false_eq_true, if_false, List.foldlM_cons]
          rw [e1, sum9 t f (h9 f (List.mem_cons.mpr (.inl rfl)))]
          show Option.bind _ _ = _
          congr 1
          funext t'
          exact ih sh wl (d + 1) t' F G (by simpa using h1) (by simpa using h2) h9' hF' hG'
  rw [List.range_eq_range' (n := n)]
  exact key n sh wl 0 0 (fun k => sh.getD k []) (fun k => wl.getD k false) hl hw h9 (fun i _ => by rw [Nat.zero_add]) (fun i _ => by rw [Nat.zero_add])
end Cf
namespace Cf
noncomputable def countN (p : Int) : Nat := if p = 0 then 3 else if p = 1 then 3 else if p = 2 then 5 else if p = 3 then 1 else if p = 4 then 2 else 0
theorem shape_some {p : Int} {n k : Nat} (h : PySn42.shape p = some (n, k)) : 0 ≤ p ∧ p ≤ 5 ∧ n = countN p ∧ k = 0 := by
  unfold PySn42.shape at h
  unfold countN
  by_cases h0 : p = 0
  · subst h0; rw [if_pos rfl] at h; cases h; exact ⟨by decide, by decide, rfl, rfl⟩
  rw [if_neg h0] at h
  by_cases h1 : p = 1
  · subst h1; rw [if_pos rfl] at h; cases h; exact ⟨by decide, by decide, rfl, rfl⟩
  rw [if_neg h1] at h
  by_cases h2 : p = 2
  · subst h2; rw [if_pos rfl] at h; cases h; exact ⟨by decide, by decide, rfl, rfl⟩
  rw [if_neg h2] at h
  by_cases h3 : p = 3
  · subst h3; rw [if_pos rfl] at h; cases h; exact ⟨by decide, by decide, rfl, rfl⟩
  rw [if_neg h3] at h
  by_cases h4 : p = 4
  · subst h4; rw [if_pos rfl] at h; cases h; exact ⟨by decide, by decide, rfl, rfl⟩
  rw [if_neg h4] at h
  by_cases h5 : p = 5
  · subst h5; rw [if_pos rfl] at h; cases h; exact ⟨by decide, by decide, rfl, rfl⟩
  rw [if_neg h5] at h
  cases h
theorem calls_cons {f : Nat} {p : Int} {r : List Int} {cs : List (List (List Int))} (h : PyFlat.calls PySn42.shape f (p :: r) = some cs) :
    ∃ f' cs', 0 ≤ p ∧ p ≤ 5 ∧ countN p ≤ r.length ∧ cs = [p :: r.take (countN p)] :: cs' ∧ PyFlat.calls PySn42.shape f' (r.drop (countN p)) = some cs' := by
  cases f with
  | zero => simp [PyFlat.calls] at h
  | succ f =>
    unfold PyFlat.calls at h
    split at h
    · cases h
    · rename_i c t hc
      split at h
      · cases h
      · rename_i cs' hcs
        cases h
        have hc : (match PySn42.shape p with
          | none => none
          | some (n, k) => if r.length < n then none else match PyFlat.rows k (r.drop n) with
            | none => none
            | some (xs, t) => some ((p :: r.take n) :: xs, t)) = some (c, t) := hc
        split at hc
        · cases hc
        · rename_i n k hs
          obtain ⟨h1, h2, rfl, rfl⟩ := shape_some hs
          split at hc
          · cases hc
          · rename_i hlt
            unfold PyFlat.rows at hc
            simp only [Option.some.injEq, Prod.mk.injEq] at hc
            obtain ⟨rfl, rfl⟩ := hc
            exact ⟨f, cs', h1, h2, by omega, rfl, hcs⟩
theorem ex1 {α : Type} {l : List α} (h : l.length = 1) : ∃ a, l = [a] := by
  cases l with
  | nil => cases h
  | cons a l => exact ⟨a, by rw [List.eq_nil_of_length_eq_zero (Nat.succ.inj h)]⟩
theorem ex2 {α : Type} {l : List α} (h : l.length = 2) : ∃ a b, l = [a, b] := by
  cases l with
  | nil => cases h
  | cons a l => obtain ⟨b, e⟩ := ex1 (Nat.succ.inj h); exact ⟨a, b, by rw [e]⟩
theorem ex3 {α : Type} {l : List α} (h : l.length = 3) : ∃ a b c, l = [a, b, c] := by
  cases l with
  | nil => cases h
  | cons a l => obtain ⟨b, c, e⟩ := ex2 (Nat.succ.inj h); exact ⟨a, b, c, by rw [e]⟩
theorem ex5 {α : Type} {l : List α} (h : l.length = 5) : ∃ a b c d e, l = [a, b, c, d, e] := by
  cases l with
  | nil => cases h
  | cons a l =>
    cases l with
    | nil => cases h
    | cons b l => obtain ⟨c, d, e, q⟩ := ex3 (Nat.succ.inj (Nat.succ.inj h)); exact ⟨a, b, c, d, e, by rw [q]⟩
theorem form_cases {num : Int} {given : List Int} (h0 : 0 ≤ num) (h5 : num ≤ 5) (hl : given.length = countN num) :
    (∃ a b c, num = 0 ∧ given = [a, b, c]) ∨ (∃ a b c, num = 1 ∧ given = [a, b, c]) ∨ (∃ a b c d e, num = 2 ∧ given = [a, b, c, d, e]) ∨ (∃ a, num = 3 ∧ given = [a]) ∨ (∃ a b, num = 4 ∧ given = [a, b]) ∨ (num = 5 ∧ given = []) := by
  have : num = 0 ∨ num = 1 ∨ num = 2 ∨ num = 3 ∨ num = 4 ∨ num = 5 := by omega
  rcases this with rfl | rfl | rfl | rfl | rfl | rfl
  · obtain ⟨a, b, c, e⟩ := ex3 hl; exact .inl ⟨a, b, c, rfl, e⟩
  · obtain ⟨a, b, c, e⟩ := ex3 hl; exact .inr (.inl ⟨a, b, c, rfl, e⟩)
  · obtain ⟨a, b, c, d, e, q⟩ := ex5 hl; exact .inr (.inr (.inl ⟨a, b, c, d, e, rfl, q⟩))
  · obtain ⟨a, e⟩ := ex1 hl; exact .inr (.inr (.inr (.inl ⟨a, rfl, e⟩)))
  · obtain ⟨a, b, e⟩ := ex2 hl; exact .inr (.inr (.inr (.inr (.inl ⟨a, b, rfl, e⟩))))
  · exact .inr (.inr (.inr (.inr (.inr ⟨rfl, List.eq_nil_of_length_eq_zero hl⟩))))
theorem whole_form {num : Int} {given : List Int} (h0 : 0 ≤ num) (h5 : num ≤ 5) (hl : given.length = countN num) : PySn42.whole [num :: given] = [num :: given] := by
  rcases form_cases h0 h5 hl with ⟨a, b, c, rfl, rfl⟩ | ⟨a, b, c, rfl, rfl⟩ | ⟨a, b, c, d, e, rfl, rfl⟩ | ⟨a, rfl, rfl⟩ | ⟨a, b, rfl, rfl⟩ | ⟨rfl, rfl⟩ <;> rfl
theorem whole_calls : ∀ (n f : Nat) (l : List Int) (cs : List (List (List Int))), l.length ≤ n → PyFlat.calls PySn42.shape f l = some cs → cs.map PySn42.whole = cs := by
  intro n
  induction n with
  | zero =>
    intro f l cs hn h
    rw [List.eq_nil_of_length_eq_zero (Nat.le_zero.mp hn)] at h
    have hcs : cs = [] := by cases f <;> (simp [PyFlat.calls] at h; exact h)
    rw [hcs]
    rfl
  | succ n ih =>
    intro f l cs hn h
    cases l with
    | nil =>
      have hcs : cs = [] := by cases f <;> (simp [PyFlat.calls] at h; exact h)
      rw [hcs]
      rfl
    | cons p r =>
      obtain ⟨f', cs', h1, h2, h3, rfl, h5⟩ := calls_cons h
      rw [List.map_cons, whole_form h1 h2 (by rw [List.length_take]; omega), ih f' _ cs' (by rw [List.length_drop]; simp only [List.length_cons] at hn; omega) h5]
theorem calls_eq (l : List Int) : PySn42.calls l = PyFlat.calls PySn42.shape l.length l := by
  unfold PySn42.calls
  cases h : PyFlat.calls PySn42.shape l.length l with
  | none => rfl
  | some cs => exact congrArg some (whole_calls _ _ _ _ (Nat.le_refl _) h)
structure Turn (l : List Int) (at_ : Nat) (st : Sn42.St) (tl : List Int) (cs : List (List (List Int))) : Prop where
  le : at_ ≤ l.length
  parse : ∃ f, PyFlat.calls PySn42.shape f (l.drop at_) = some cs
  due : PySn42.answers l = tl ++ PyFlat.told (PyFlat.played Sn42Neutral.step st cs)
  fine : Sn42Neutral.fine st cs = true
  room : tl.length + cs.length + Sn42Neutral.outs st cs ≤ 1000400
  first : st = none → ∃ a r cs', cs = ((0 :: a) :: r) :: cs' ∧ (Sn42Neutral.step none ((0 :: a) :: r)).2 = [0]
theorem turn_start {l : List Int} (h : PySn42.answers_asked l = true) : ∃ cs, Turn l 0 none [] cs := by
  unfold PySn42.answers_asked at h
  have hc := calls_eq l
  split at h
  · cases h
  · rename_i cs hcs
    rw [hcs] at hc
    simp only [Bool.and_eq_true] at h
    obtain ⟨h1, h2⟩ := h
    unfold PyFlat.atMost at h1
    have h1 := of_decide_eq_true h1
    unfold Sn42Neutral.asked at h2
    simp only [Bool.and_eq_true, decide_eq_true_eq] at h2
    obtain ⟨⟨h3, h4⟩, h5, h6⟩ := h2
    refine ⟨cs, ⟨Nat.zero_le _, ⟨l.length, by rw [List.drop_zero]; exact hc.symm⟩, ?_, h5, ?_, fun _ => ?_⟩⟩
    · unfold PySn42.answers
      rw [hcs]
      rfl
    · rw [List.length_nil]
      have : Sn42Neutral.outs none cs < 1000000 := h6
      omega
    · split at h4
      · rename_i a r cs'
        refine ⟨_, _, _, rfl, ?_⟩
        have := beq_iff_eq.mp h4
        exact this
      · cases h4
theorem turn_end {l : List Int} {st : Sn42.St} {tl : List Int} {cs : List (List (List Int))} {at_ : Nat} (T : Turn l at_ st tl cs) (h : l.length ≤ at_) : PySn42.answers l = tl := by
  obtain ⟨f, hp⟩ := T.parse
  rw [List.drop_eq_nil_of_le h] at hp
  have hcs : cs = [] := by
    cases f <;> (simp [PyFlat.calls] at hp; exact hp)
  rw [T.due, hcs]
  show tl ++ [] = tl
  simp
structure Next (l : List Int) (at_ : Nat) (st : Sn42.St) (tl : List Int) (p : Int) (given : List Int) : Prop where
  num : l[at_]? = some p
  lo : 0 ≤ p
  hi : p ≤ 5
  giv : given = (l.drop (at_ + 1)).take (countN p)
  glen : given.length = countN p
  stop : at_ + 1 + countN p ≤ l.length
  asked : Sn42Neutral.asked1 [p :: given] = true
  first : st = none → p = 0 ∧ (Sn42Neutral.step none [p :: given]).2 = [0]
  room : tl.length + 1 + (Sn42Neutral.step st [p :: given]).2.length ≤ 1000400
  next : (Sn42Neutral.step st [p :: given]).1 ≠ none → ∃ cs', Turn l (at_ + 1 + countN p) (Sn42Neutral.step st [p :: given]).1 (tl ++ (((Sn42Neutral.step st [p :: given]).2.length : Int) :: (Sn42Neutral.step st [p :: given]).2)) cs'
theorem turn_next {l : List Int} {st : Sn42.St} {tl : List Int} {cs : List (List (List Int))} {at_ : Nat} (T : Turn l at_ st tl cs) (h : at_ < l.length) : ∃ p given, Next l at_ st tl p given := by
  obtain ⟨f, hp⟩ := T.parse
  have hd : l.drop at_ = l[at_] :: l.drop (at_ + 1) := List.drop_eq_getElem_cons h
  rw [hd] at hp
  obtain ⟨f', cs', h1, h2, h3, rfl, h5⟩ := calls_cons hp
  refine ⟨l[at_], (l.drop (at_ + 1)).take (countN l[at_]), ?_⟩
  have hnum : l[at_]? = some l[at_] := List.getElem?_eq_getElem h
  generalize l[at_] = p at h1 h2 h3 hnum h5 T
  have hdl : (l.drop (at_ + 1)).length = l.length - (at_ + 1) := List.length_drop
  have hdd : (l.drop (at_ + 1)).drop (countN p) = l.drop (at_ + 1 + countN p) := List.drop_drop
  have glen : ((l.drop (at_ + 1)).take (countN p)).length = countN p := by rw [List.length_take]; omega
  generalize hg : (l.drop (at_ + 1)).take (countN p) = given at T glen
  have hf := T.fine
  unfold Sn42Neutral.fine at hf
  simp only [Bool.and_eq_true] at hf
  have hr := T.room
  unfold Sn42Neutral.outs at hr
  rw [List.length_cons] at hr
  refine ⟨hnum, h1, h2, hg.symm, glen, by omega, hf.1, fun e => ?_, by have := hr; simp only [] at this; omega, fun hn => ⟨cs', ⟨by omega, ⟨f', by rw [← hdd]; exact h5⟩, ?_, hf.2, ?_, fun e => absurd e hn⟩⟩⟩
  · obtain ⟨a, r, cs2, e1, e2⟩ := T.first e
    cases e1
    exact ⟨rfl, e2⟩
  · rw [T.due]
    show tl ++ PyFlat.told ((Sn42Neutral.step st [p :: given]).2 :: PyFlat.played Sn42Neutral.step (Sn42Neutral.step st [p :: given]).1 cs') = _
    unfold PyFlat.told
    rw [List.flatMap_cons, List.append_assoc]
  · rw [List.length_append, List.length_cons]
    have := hr
    simp only [] at this
    omega
end Cf
namespace ZT
open PySem PyProof.Rows
section
variable {prog : Program} {w : World} {A : Around} {E : Value → Shared → Prop} {s : Shared}
theorem rise {I t : Addr} {k : Nat} {its : Array Value} {R : Fin → Shared → Prop} {F : Value → Shared → Prop} (hI : s.heap.IsTupleIter I t k) (ht : s.heap.IsTuple t its)
    (h : wpAny (model prog w) A (match its[((k : Nat) : Int).toNat]? with
      | some x => (do setField (.ref I) 1 (rawInt ((k : Int) + 1)); ret x)
      | none => (do rule "tuple_iterator.__next__.end"; setField (.ref I) 0 .none; Builtin.SmallTypes.stopIteration)) R F s) :
    wpAny (model prog w) A (Builtin.«tuple_iterator.__next__» ⟨[.ref I], []⟩) R F s := by
  obtain ⟨oI, gI, _, dI⟩ := hI
  obtain ⟨oT, gT, _, m, dT⟩ := ht
  refine wpAny_bind (m := field (.ref I) 0) (wpAny_field gI dI (i := 0) (x := .ref t) rfl ?_)
  refine wpAny_bind (m := field (.ref I) 1) (wpAny_field gI dI (i := 1) (x := .int k 0) rfl ?_)
  exact wpAny_bind (m := seqItems? (.ref t)) (wpAny_seqItems gT dT h)
theorem ask {I t : Addr} {k : Nat} {Q : Value → Shared → Prop} (hI : s.heap.IsTupleIter I t k)
    (h : wpAny (model prog w) A.in1 (Builtin.«tuple_iterator.__next__» ⟨[.ref I], []⟩) (fun fin s' => ∃ v, fin = .done (.ret v) ∧ Q v s') E s) : wpAny (model prog w) A (Builtin.SmallTypes.nextOf (.ref I)) Q E s :=
  wpAny_bind (wpAny_callSpecial?_slot (name := Str.ofString "__next__") hI.typeIs F.slot_tuple_iterator_next (wpAny_call_entry F.slot_tuple_iterator_next hI.typeIs F.entry_tuple_iterator_next
    (wpAny_mono h (fun _ _ ⟨v, e, q⟩ => ⟨v, e, wpAny_pure q⟩) fun _ _ x => x) (F.args_tuple_iterator_next_1 _)))
theorem nx {I t : Addr} {k : Nat} {its : Array Value} {v : Value} {Q : Value → Shared → Prop} (hI : s.heap.IsTupleIter I t k) (ht : s.heap.IsTuple t its) (hv : its[k]? = some v)
    (q : ∀ g, g.IsTupleIter I t (k + 1) → Heap.SameBut I s.heap g → Q v { s with heap := g }) : wpAny (model prog w) A (Builtin.SmallTypes.nextOf (.ref I)) Q E s := by
  refine ask hI (rise hI ht ?_)
  obtain ⟨oI, gI, cI, dI⟩ := hI
  rw [Int.toNat_natCast, hv]
  refine wpAny_bind (wpAny_setField gI dI (i := 1) (Nat.lt_of_sub_eq_succ rfl) (wpAny_pure ⟨v, rfl, q _ ⟨_, Heap.get?_update_self _ gI (Obj.isFreed_of_fields (Obj.data_mapFields dI _)), (Obj.cls_mapFields ..).trans cI, ?_⟩ (Heap.SameBut.update ..)⟩))
  rw [Obj.data_mapFields dI]
  rfl
theorem nx_end {I t : Addr} {k : Nat} {its : Array Value} {Q : Value → Shared → Prop} (hh : A.handled = none) (hI : s.heap.IsTupleIter I t k) (ht : s.heap.IsTuple t its) (hv : its[k]? = none)
    (q : ∀ g e, Heap.ExtBut I s.heap g → (∃ o, g.get? e = some o ∧ o.cls = .type "StopIteration") → E (.ref e) { s with heap := g }) : wpAny (model prog w) A (Builtin.SmallTypes.nextOf (.ref I)) Q E s := by
  refine ask hI (rise hI ht ?_)
  obtain ⟨oI, gI, cI, dI⟩ := hI
  rw [Int.toNat_natCast, hv]
  refine wpAny_bind (wpAny_rule (wpAny_bind (wpAny_setField gI dI (i := 0) (Nat.lt_of_sub_eq_succ rfl) ?_)))
  unfold Builtin.SmallTypes.stopIteration newExc newTuple
  refine wpAny_bind (wpAny_bind (wpAny_newObj_type (wpAny_bind (m := firstArgMember _ _) (wpAny_of_eq (a := Value.none) rfl (wpAny_newObj_type (wpAny_raiseNew_none (show A.in1.handled = none from hh) ?_) (by size_fits)))) (by size_fits)))
  exact q _ _ ((Heap.SameBut.update ..).extBut.push _ |>.push _) ⟨_, Heap.get?_push_size _ rfl, rfl⟩
structure At (h0 : Heap) (z TI TO i1 i2 t1 t2 : Addr) (f a b : Value) (k1 k2 : Nat) (h : Heap) : Prop where
  zz : IsZip h z TI TO f
  pr : IsPair h TO a b
  j1 : h.IsTupleIter i1 t1 k1
  j2 : h.IsTupleIter i2 t2 k2
  sz : h.objs.size = h0.objs.size
  kp : ∀ c o, c ≠ z → c ≠ TO → c ≠ i1 → c ≠ i2 → h0.get? c = some o → h.get? c = some o
section
variable {h0 h h' : Heap} {z TI TO i1 i2 t1 t2 : Addr} {f f' a b x : Value} {k1 k2 : Nat}
theorem At.mark (Z : At h0 z TI TO i1 i2 t1 t2 f a b k1 k2 h) (D : ZipApart z TI TO i1 i2 t1 t2) (n : IsZip h' z TI TO f') (sb : Heap.SameBut z h h') : At h0 z TI TO i1 i2 t1 t2 f' a b k1 k2 h' :=
  ⟨n, sb.extBut _ _ D.TOz Z.pr, Z.j1.extBut sb.extBut D.i1z, Z.j2.extBut sb.extBut D.i2z, sb.1.trans Z.sz, fun c o c1 c2 c3 c4 e => sb.extBut _ _ c1 (Z.kp c o c1 c2 c3 c4 e)⟩
theorem At.pair (Z : At h0 z TI TO i1 i2 t1 t2 f a b k1 k2 h) (D : ZipApart z TI TO i1 i2 t1 t2) {a' b' : Value} (n : IsPair h' TO a' b') (sb : Heap.SameBut TO h h') : At h0 z TI TO i1 i2 t1 t2 f a' b' k1 k2 h' :=
  ⟨sb.extBut _ _ D.TOz.symm Z.zz, n, Z.j1.extBut sb.extBut D.TOi1.symm, Z.j2.extBut sb.extBut D.TOi2.symm, sb.1.trans Z.sz, fun c o c1 c2 c3 c4 e => sb.extBut _ _ c2 (Z.kp c o c1 c2 c3 c4 e)⟩
theorem At.one (Z : At h0 z TI TO i1 i2 t1 t2 f a b k1 k2 h) (D : ZipApart z TI TO i1 i2 t1 t2) (n : h'.IsTupleIter i1 t1 (k1 + 1)) (sb : Heap.SameBut i1 h h') : At h0 z TI TO i1 i2 t1 t2 f a b (k1 + 1) k2 h' :=
  ⟨sb.extBut _ _ D.i1z.symm Z.zz, sb.extBut _ _ D.TOi1 Z.pr, n, Z.j2.extBut sb.extBut D.i12.symm, sb.1.trans Z.sz, fun c o c1 c2 c3 c4 e => sb.extBut _ _ c3 (Z.kp c o c1 c2 c3 c4 e)⟩
theorem At.two (Z : At h0 z TI TO i1 i2 t1 t2 f a b k1 k2 h) (D : ZipApart z TI TO i1 i2 t1 t2) (n : h'.IsTupleIter i2 t2 (k2 + 1)) (sb : Heap.SameBut i2 h h') : At h0 z TI TO i1 i2 t1 t2 f a b k1 (k2 + 1) h' :=
  ⟨sb.extBut _ _ D.i2z.symm Z.zz, sb.extBut _ _ D.TOi2 Z.pr, Z.j1.extBut sb.extBut D.i12, n, sb.1.trans Z.sz, fun c o c1 c2 c3 c4 e => sb.extBut _ _ c4 (Z.kp c o c1 c2 c3 c4 e)⟩
theorem At.tup1 {xs : Array Value} (Z : At h0 z TI TO i1 i2 t1 t2 f a b k1 k2 h) (D : ZipApart z TI TO i1 i2 t1 t2) (t : h0.IsTuple t1 xs) : h.IsTuple t1 xs :=
  let ⟨o, e, r⟩ := t; ⟨o, Z.kp _ _ D.l1z D.l1TO D.l1i1 D.l1i2 e, r⟩
theorem At.tup2 {xs : Array Value} (Z : At h0 z TI TO i1 i2 t1 t2 f a b k1 k2 h) (D : ZipApart z TI TO i1 i2 t1 t2) (t : h0.IsTuple t2 xs) : h.IsTuple t2 xs :=
  let ⟨o, e, r⟩ := t; ⟨o, Z.kp _ _ D.l2z D.l2TO D.l2i1 D.l2i2 e, r⟩
end
variable {z TI TO i1 i2 t1 t2 : Addr} {xs ys : Array Value} {a b : Value} {k1 k2 : Nat}
theorem At.set {h0 : Heap} {f x : Value} {n : Nat} {f' : Value} {Q : Unit → Shared → Prop} (Z : At h0 z TI TO i1 i2 t1 t2 f a b k1 k2 s.heap) (D : ZipApart z TI TO i1 i2 t1 t2) (hn : n < 5)
    (hf : (#[f, .bool false, .bool false, .ref TI, .ref TO] : Array Value).setIfInBounds n x = #[f', .bool false, .bool false, .ref TI, .ref TO])
    (q : ∀ g, At h0 z TI TO i1 i2 t1 t2 f' a b k1 k2 g → Heap.SameBut z s.heap g → Q () { s with heap := g }) : wpAny (model prog w) A (setField (.ref z) n x) Q E s :=
  wpAny_setField_rec Z.zz hn fun g e sb => q g (Z.mark D (by rw [hf] at e; exact e) sb) sb
theorem znext {x y : Value} {R : Value → Shared → Prop} (D : ZipApart z TI TO i1 i2 t1 t2) (hTI : IsPair s.heap TI (.ref i1) (.ref i2)) (Z : At s.heap z TI TO i1 i2 t1 t2 .none a b k1 k2 s.heap)
    (T1 : s.heap.IsTuple t1 xs) (T2 : s.heap.IsTuple t2 ys) (hx : xs[k1]? = some x) (hy : ys[k2]? = some y)
    (q : ∀ g g', At s.heap z TI TO i1 i2 t1 t2 .ellipsis x y (k1 + 1) (k2 + 1) g → IsZip g' z TI TO (rawInt g.objs.size) → Heap.SameBut z (g.push { cls := .type "tuple", data := .seq #[x, y] }) g' → R (.ref g.objs.size) { s with heap := g' }) :
    wpAny (model prog w) A (Builtin.«zip.__next__» ⟨[.ref z], []⟩) (fun fin s' => ∃ v, fin = .done (.ret v) ∧ R v s') E s := by
  refine wpAny_bind (m := field (.ref z) 2) (wpAny_field Z.zz rfl (x := .bool false) rfl ?_)
  refine wpAny_bind (m := field (.ref z) 3) (wpAny_field Z.zz rfl (x := .ref TI) rfl (wpAny_bind (wpAny_seqItems hTI rfl ?_)))
  refine wpAny_bind (m := Builtin.SmallTypes.ownedTupleIsFree (.ref z)) (wpAny_bind (m := field (.ref z) 0) (wpAny_field Z.zz rfl (x := .none) rfl (wpAny_pure ?_)))
  rw [if_pos rfl]
  refine wpAny_bind (wpAny_rule (wpAny_bind (wpAny_field Z.zz rfl (x := .ref TO) rfl (wpAny_bind (Z.set D (n := 0) (by decide) rfl fun g1 Z1 _ => wpAny_bind ?_)))))
  rw [show ((#[.ref i1, .ref i2] : Array Value).toList.zipIdx) = [(.ref i1, 0), (.ref i2, 1)] from rfl, List.forIn_cons]
  -- the first
  refine wpAny_bind (wpAny_bind (m := ((Builtin.SmallTypes.nextOf (.ref i1) >>= fun v => pure (some v)).onRaise fun _ => setField (.ref z) 0 .none)) (wpAny_onRaise (wpAny_bind (nx Z1.j1 (Z1.tup1 D T1) hx fun g2 n2 sb2 => wpAny_pure ?_))))
  have Z2 := Z1.one D n2 sb2
  refine wpAny_bind (wpAny_seqItems Z2.pr rfl (wpAny_bind (wpAny_updateSeq_pair (k := 0) (x := x) Z2.pr fun g3 n3 sb3 => wpAny_bind (wpAny_letGo (wpAny_pure ?_)))))
  have Z3 := Z2.pair D (a' := x) (b' := b) n3 sb3
  show wpAny _ _ (forIn [(Value.ref i2, 1)] (none, ()) _) _ _ _
  rw [List.forIn_cons]
  -- the second
  refine wpAny_bind (wpAny_bind (m := ((Builtin.SmallTypes.nextOf (.ref i2) >>= fun v => pure (some v)).onRaise fun _ => setField (.ref z) 0 .none)) (wpAny_onRaise (wpAny_bind (nx Z3.j2 (Z3.tup2 D T2) hy fun g4 n4 sb4 => wpAny_pure ?_))))
  have Z4 := Z3.two D n4 sb4
  refine wpAny_bind (wpAny_seqItems Z4.pr rfl (wpAny_bind (wpAny_updateSeq_pair (k := 1) (x := y) Z4.pr fun g5 n5 sb5 => wpAny_bind (wpAny_letGo (wpAny_pure ?_)))))
  have Z5 := Z4.pair D (a' := x) (b' := y) n5 sb5
  show wpAny _ _ (forIn [] (none, ()) _) _ _ _
  rw [List.forIn_nil]
  refine wpAny_pure (wpAny_bind (wpAny_seqItems Z5.pr rfl (wpAny_bind (wpAny_newTuple (wpAny_bind ?_)))))
  -- handed out
  have zl : z < g5.objs.size := Heap.lt_size Z5.zz
  have e6 : IsZip (g5.push { cls := .type "tuple", data := .seq #[x, y] }) z TI TO .ellipsis := Heap.get?_push_of_some _ Z5.zz
  show wpAny _ _ (do setField (.ref z) 0 (rawInt g5.objs.size); setField (.ref z) 1 (.bool false)) _ _ _
  refine wpAny_bind (wpAny_setField_rec e6 (k := 0) (Nat.lt_of_sub_eq_succ rfl) fun g7 n7 sb7 => ?_)
  have n7 : IsZip g7 z TI TO (rawInt g5.objs.size) := n7
  refine wpAny_setField_rec n7 (k := 1) (Nat.lt_of_sub_eq_succ rfl) fun g8 n8 sb8 => wpAny_pure ⟨_, rfl, q g5 g8 Z5 n8 (sb7.trans sb8)⟩
theorem zend {R : Fin → Shared → Prop} (hh : A.handled = none) (D : ZipApart z TI TO i1 i2 t1 t2) (hTI : IsPair s.heap TI (.ref i1) (.ref i2)) (Z : At s.heap z TI TO i1 i2 t1 t2 .none a b k1 k2 s.heap)
    (T1 : s.heap.IsTuple t1 xs) (hx : xs[k1]? = none)
    (q : ∀ g e, (∀ c o, c ≠ z → c ≠ TO → c ≠ i1 → c ≠ i2 → s.heap.get? c = some o → g.get? c = some o) → (∃ o, g.get? e = some o ∧ o.cls = .type "StopIteration") → E (.ref e) { s with heap := g }) :
    wpAny (model prog w) A (Builtin.«zip.__next__» ⟨[.ref z], []⟩) R E s := by
  refine wpAny_bind (m := field (.ref z) 2) (wpAny_field Z.zz rfl (x := .bool false) rfl ?_)
  refine wpAny_bind (m := field (.ref z) 3) (wpAny_field Z.zz rfl (x := .ref TI) rfl (wpAny_bind (wpAny_seqItems hTI rfl ?_)))
  refine wpAny_bind (m := Builtin.SmallTypes.ownedTupleIsFree (.ref z)) (wpAny_bind (m := field (.ref z) 0) (wpAny_field Z.zz rfl (x := .none) rfl (wpAny_pure ?_)))
  rw [if_pos rfl]
  refine wpAny_bind (wpAny_rule (wpAny_bind (wpAny_field Z.zz rfl (x := .ref TO) rfl (wpAny_bind (Z.set D (n := 0) (by decide) rfl fun g1 Z1 _ => wpAny_bind ?_)))))
  rw [show ((#[.ref i1, .ref i2] : Array Value).toList.zipIdx) = [(.ref i1, 0), (.ref i2, 1)] from rfl, List.forIn_cons]
  refine wpAny_bind (wpAny_bind (m := ((Builtin.SmallTypes.nextOf (.ref i1) >>= fun v => pure (some v)).onRaise fun _ => setField (.ref z) 0 .none)) (wpAny_onRaise (wpAny_bind (nx_end hh Z1.j1 (Z1.tup1 D T1) hx fun g2 e eb ⟨oe, ge, ce⟩ => ?_))))
  have z2 : IsZip g2 z TI TO .ellipsis := eb _ _ D.i1z.symm Z1.zz
  have ne : e ≠ z := fun w' => by
    rw [w', z2] at ge
    cases ge
    exact absurd ce (by simp)
  exact wpAny_setField_rec z2 (k := 0) (Nat.lt_of_sub_eq_succ rfl) fun g3 n3 sb3 => q g3 e (fun c o c1 c2 c3 c4 h => sb3.extBut _ _ c1 (eb _ _ c3 (Z1.kp c o c1 c2 c3 c4 h))) ⟨oe, sb3.extBut _ _ ne ge, ce⟩
theorem next {x y : Value} {Q : Option Value → Shared → Prop} (D : ZipApart z TI TO i1 i2 t1 t2) (hTI : IsPair s.heap TI (.ref i1) (.ref i2)) (Z : At s.heap z TI TO i1 i2 t1 t2 .none a b k1 k2 s.heap)
    (T1 : s.heap.IsTuple t1 xs) (T2 : s.heap.IsTuple t2 ys) (hx : xs[k1]? = some x) (hy : ys[k2]? = some y)
    (q : ∀ g g', At s.heap z TI TO i1 i2 t1 t2 .ellipsis x y (k1 + 1) (k2 + 1) g → IsZip g' z TI TO (rawInt g.objs.size) → Heap.SameBut z (g.push { cls := .type "tuple", data := .seq #[x, y] }) g' → Q (some (.ref g.objs.size)) { s with heap := g' }) :
    wpAny (model prog w) A (pyNext (.ref z)) Q E s := by
  have ty : s.TypeIs (.ref z) "zip" := ⟨_, Z.zz, rfl⟩
  exact wpAny_bind (wpAny_attempt (wpAny_callSpecial?_slot (name := Str.ofString "__next__") ty F.slot_zip_next (wpAny_call_entry F.slot_zip_next ty F.entry_zip_next
    (znext D hTI Z T1 T2 hx hy fun g g' Z' n' sb' => wpAny_pure (q g g' Z' n' sb')) (F.args_zip_next_1 _))))
theorem stop {Q : Option Value → Shared → Prop} (hh : A.handled = none) (D : ZipApart z TI TO i1 i2 t1 t2) (hTI : IsPair s.heap TI (.ref i1) (.ref i2)) (Z : At s.heap z TI TO i1 i2 t1 t2 .none a b k1 k2 s.heap)
    (T1 : s.heap.IsTuple t1 xs) (hx : xs[k1]? = none)
    (q : ∀ g, (∀ c o, c ≠ z → c ≠ TO → c ≠ i1 → c ≠ i2 → s.heap.get? c = some o → g.get? c = some o) → Q none { s with heap := g }) : wpAny (model prog w) A (pyNext (.ref z)) Q E s := by
  have ty : s.TypeIs (.ref z) "zip" := ⟨_, Z.zz, rfl⟩
  refine wpAny_bind (wpAny_attempt (wpAny_callSpecial?_slot (name := Str.ofString "__next__") ty F.slot_zip_next (wpAny_call_entry F.slot_zip_next ty F.entry_zip_next
    (zend hh D hTI Z T1 hx fun g e kp ⟨oe, ge, ce⟩ => ?_) (F.args_zip_next_1 _))))
  exact wpAny_bind (wpAny_isInstance (T := "StopIteration") (b := true) ⟨oe, ge, ce⟩ isSubtype_stop (wpAny_pure (q g kp)))
noncomputable abbrev itObj (t : Addr) : Obj := { cls := .type "tuple_iterator", data := .fields #[.ref t, .int 0 0] }
noncomputable abbrev prObj (x y : Value) : Obj := { cls := .type "tuple", data := .seq #[x, y] }
noncomputable abbrev made (h : Heap) (t1 t2 : Addr) : Heap := ((((h.push (itObj t1)).push (itObj t2)).push (prObj (.ref h.objs.size) (.ref (h.objs.size + 1)))).push (prObj .none .none)).push
  { cls := .type "zip", data := .fields #[.none, .bool false, .bool false, .ref (h.objs.size + 2), .ref (h.objs.size + 3)] }
theorem meets (t1 t2 : Addr) (xs ys : Array Value) : Meets (Builtin.«zip.__new__» ⟨[.type "zip", .ref t1, .ref t2], []⟩) (fun _ R s => s.heap.IsTuple t1 xs ∧ s.heap.IsTuple t2 ys ∧ R (.ok (.ret (.ref (s.heap.objs.size + 4)))) { s with heap := made s.heap t1 t2 }) :=
  .of_wp fun prog w A R s h => by
    obtain ⟨hp, gs, d, tk, os⟩ := s
    obtain ⟨T1, T2, h⟩ := h
    have f0 := sub_zip
    have L1 : Heap.IsTuple (Shared.heap ⟨hp, gs, d, tk, os⟩) t1 xs := T1
    have L2 : Heap.IsTuple (Shared.heap ⟨hp.push (itObj t1), gs, d, tk, os⟩) t2 ys := T2.push _
    wp_walk using wpAny_pyIter_tuple L1, wpAny_pyIter_tuple L2
    refine ⟨_, rfl, ?_⟩
    simp only [Heap.size_push]
    exact h
theorem make {Q : Value → Shared → Prop} (T1 : s.heap.IsTuple t1 xs) (T2 : s.heap.IsTuple t2 ys) (q : Q (.ref (s.heap.objs.size + 4)) { s with heap := made s.heap t1 t2 }) :
    wpAny (model prog w) A (call (.type "zip") [.ref t1, .ref t2]) Q E s := by
  refine callType_new F.called_zip (by decide) (F.typeCall_zip_2 _ _) (F.newCall_zip_2 _ _) (fun obj => F.args_object_init_3 obj _ _) F.entry_zip_new (meets t1 t2 xs ys) ⟨T1, T2, ?_⟩
  exact ⟨⟨_, Heap.get?_push_at (by simp [Heap.size_push]) rfl, rfl⟩, q⟩
end
end ZT
namespace L2
open PySem PySem.Spec PyProof.Rows
noncomputable def Exc (C : Addr) (h : Heap) (ea T : Addr) : Prop :=
  ∃ oe vs oT ts a0 fl, h.get? ea = some oe ∧ (oe.cls = .ref C ∧ vs[0]? = some a0) ∧ oe.data = .fields vs ∧ vs[1]? = some (.ref T) ∧ T ≠ ea ∧ h.get? T = some oT ∧ oT.data = .fields ts ∧ ts[3]? = some fl
structure Fly (C : Addr) (P : Program) (w : World) (fs ch : List Addr) (H0 H' : Hp) (h0 h : Heap) (ea T : Addr) : Prop where
  exc : Exc C h ea T
  un : Un fs ch H0 H' h0 h
  hok : HOk P w H' h
  n1 : H' ea = none
  n2 : H' T = none
  f1 : ∀ o, h0.get? ea = some o → ea ∈ ch
  f2 : ∀ o, h0.get? T = some o → T ∈ ch
noncomputable def CXN (C : Addr) (P : Program) (w : World) : CXT := fun outer H s E e s' =>
  ∃ ea T H', e = .ref ea ∧ Fly C P w (frs outer) [] H H' s.heap s'.heap ea T ∧ s'.os = s.os ∧ AllBare s'.gens ∧ E (.ref C) none H'
section
variable {P : Program} {w : World} {H : Hp} {h : Heap} {a : Addr} {o : HO}
theorem ObjOk.there (x : ObjOk P w H h a o) : ∃ ob, h.get? a = some ob := by
  cases o with
  | lst xs => obtain ⟨_, _, _, _, e⟩ := x; exact ⟨_, e⟩
  | tup xs => obtain ⟨_, _, _, ob, e, _⟩ := x; exact ⟨_, e⟩
  | dK kvs => obtain ⟨_, _, _, _, o, _, _, e, _⟩ := x; exact ⟨_, e⟩
  | dT kvs => obtain ⟨_, _, _, _, o, _, _, e, _⟩ := x; exact ⟨_, e⟩
  | set S n => obtain ⟨o, _, _, _, e, _⟩ := x; exact ⟨_, e⟩
  | ins C dx fs => obtain ⟨_, _, _, e, _⟩ := x; exact ⟨_, e⟩
  | own y => exact x
  | xd fs => obtain ⟨_, ⟨_, _, _, e, _⟩, _⟩ := x; exact ⟨_, e⟩
  | rng lo hi => obtain ⟨_, _, _, e⟩ := x; exact ⟨_, e⟩
  | frz ob u => obtain ⟨e, _⟩ := x; exact ⟨_, e⟩
  | tbl ps => exact ⟨_, show h.get? a = some _ from x⟩
  | met f y => exact ⟨_, show h.get? a = some _ from x⟩
  | ext φ => obtain ⟨_, e, _⟩ := x; exact e
end
section
variable {C : Addr} {P : Program} {w : World} {fs ch : List Addr} {H0 H' : Hp} {h0 h h' : Heap} {ea T T' : Addr}
theorem Fly.step (F : Fly C P w fs ch H0 H' h0 h ea T) (hfs : ∀ b ∈ fs, H' b = none) {x : Addr → Prop} (hx : ∀ b, x b → H' b = none ∧ h0.get? b = none)
    (keep : ∀ b o, b ∉ fs → b ≠ ea → b ≠ T → ¬ x b → h.get? b = some o → h'.get? b = some o) (slot : ∀ b o, b ∈ fs → h.get? b = some o → ∃ sl, h'.get? b = some { o with slots := sl })
    (ex : Exc C h' ea T') (hT : T' = T ∨ h.get? T' = none) : Fly C P w fs ch H0 H' h0 h' ea T' := by
  have ne0 : ∀ b o, h0.get? b = some o → b ∉ ch → b ≠ ea ∧ b ≠ T ∧ ¬ x b := fun b o e hc =>
    ⟨fun z => hc (by rw [z]; exact F.f1 o (by rw [← z]; exact e)), fun z => hc (by rw [z]; exact F.f2 o (by rw [← z]; exact e)), fun z => (by rw [(hx b z).2] at e; cases e)⟩
  have neT : ∀ b u, H' b = some u → b ∉ fs ∧ b ≠ ea ∧ b ≠ T ∧ ¬ x b := fun b u e =>
    ⟨fun z => (by rw [hfs b z] at e; cases e), fun z => (by rw [z, F.n1] at e; cases e), fun z => (by rw [z, F.n2] at e; cases e), fun z => (by rw [(hx b z).1] at e; cases e)⟩
  refine ⟨ex, ⟨fun b o e n hb hc => ?_, fun b o e n hb hc => ?_, F.un.free, fun b o e hc => ?_, F.un.tups, F.un.frzs, F.un.tbls⟩, fun b u e => ?_, F.n1, ?_, F.f1, ?_⟩
  · obtain ⟨q1, q2, q3⟩ := ne0 b o e hc
    exact keep b o hb q1 q2 q3 (F.un.keep b o e n hb hc)
  · obtain ⟨sl, e1⟩ := F.un.slot b o e n hb hc
    obtain ⟨sl', e2⟩ := slot b _ hb e1
    exact ⟨sl', e2⟩
  · obtain ⟨o', e1⟩ := F.un.there b o e hc
    by_cases hb : b ∈ fs
    · obtain ⟨sl, e2⟩ := slot b o' hb e1
      exact ⟨_, e2⟩
    · obtain ⟨q1, q2, q3⟩ := ne0 b o e hc
      exact ⟨o', keep b o' hb q1 q2 q3 e1⟩
  · refine (F.hok b u e).stay (fun c v hc q => ?_) (fun _ q => q) fun _ _ q => q
    have z : ∃ u', H' c = some u' := by
      rcases hc with rfl | z
      · exact ⟨u, e⟩
      · exact ⟨_, z⟩
    obtain ⟨u', z⟩ := z
    obtain ⟨q1, q2, q3, q4⟩ := neT c u' z
    exact keep c v q1 q2 q3 q4 q
  · rcases hT with rfl | hT
    · exact F.n2
    · cases q : H' T' with
      | none => rfl
      | some u =>
        obtain ⟨ob, e⟩ := (F.hok T' u q).there
        rw [hT] at e; cases e
  · intro o e
    rcases hT with rfl | hT
    · exact F.f2 o e
    · refine Classical.byContradiction fun hc => ?_
      obtain ⟨o', e1⟩ := F.un.there T' o e hc
      rw [hT] at e1; cases e1
end
section
variable {C : Addr} {P : Program} {w : World} {fs ch : List Addr} {H0 H' : Hp} {h0 h : Heap} {ea T : Addr} {l : List Env} {base : Heap}
noncomputable abbrev marked (h : Heap) (T : Addr) (v : Value) : Heap := h.update T (Obj.mapFields (·.setIfInBounds 3 v))
theorem marked_ne {b : Addr} (v : Value) (hb : b ≠ T) : (marked h T v).get? b = h.get? b := Heap.get?_update_other _ _ (Ne.symm hb)
theorem Exc.put (x : Exc C h ea T) (v : Value) : Exc C (marked h T v) ea T := by
  obtain ⟨oe, vs, oT, ts, a0, fl, ge, ce, de, h1, hne, gT, dT, h3⟩ := x
  have hsz : 3 < ts.size := (Array.getElem?_eq_some_iff.mp h3).1
  refine ⟨oe, vs, _, _, a0, v, (marked_ne v (Ne.symm hne)).trans ge, ce, de, h1, hne, Heap.get?_update_self _ gT (Obj.isFreed_of_fields (Obj.data_mapFields dT _)), Obj.data_mapFields dT _, ?_⟩
  rw [Array.getElem?_setIfInBounds_self_of_lt hsz]
theorem Exc.notFrame (x : Exc C h ea T) (ff : h.FunFrames base l) : ea ∉ frs l ∧ T ∉ frs l := by
  obtain ⟨oe, vs, oT, ts, a0, fl, ge, ce, de, h1, hne, gT, dT, h3⟩ := x
  refine ⟨fun z => ?_, fun z => ?_⟩
  · obtain ⟨_, o, go, dn⟩ := ff.mem z
    rw [ge] at go
    cases go
    exact dn vs de
  · obtain ⟨_, o, go, dn⟩ := ff.mem z
    rw [gT] at go
    cases go
    exact dn ts dT
theorem Exc.frames (x : Exc C h ea T) (v : Value) (ff : h.FunFrames base l) : (marked h T v).FunFrames base l := by
  obtain ⟨oe, vs, oT, ts, a0, fl, ge, ce, de, h1, hne, gT, dT, h3⟩ := x
  refine ff.of_keeps fun b o gb dn => ⟨o, (marked_ne v fun z => ?_).trans gb, rfl⟩
  rw [z, gT] at gb
  cases gb
  exact dn ts dT
theorem Fly.put (F : Fly C P w (frs l) ch H0 H' h0 h ea T) (v : Value) (hfs : ∀ b ∈ frs l, H' b = none) (ff : h.FunFrames base l) : Fly C P w (frs l) ch H0 H' h0 (marked h T v) ea T :=
  F.step hfs (x := fun _ => False) (fun _ z => z.elim) (fun b o _ _ hb _ e => (marked_ne v hb).trans e) (fun b o hb e => ⟨o.slots, (marked_ne v fun z => (F.exc.notFrame ff).2 (by rw [z] at hb; exact hb)).trans e⟩) (F.exc.put v) (.inl rfl)
end
section
variable {C : Addr} {P : Program} {w : World} {ch : List Addr} {H0 H' : Hp} {h0 : Heap} {ea T : Addr} {M : Model} {A : Around} {E : Value → Shared → Prop} {s : Shared} {l : List Env} {base : Heap}
noncomputable abbrev known (h : Heap) (l : List Env) (ea T : Addr) : Heap := PySem.W.hideAll h (frs l ++ [ea, T])
theorem known_get {h : Heap} {b : Addr} {o : Obj} (e : h.get? b = some o) (h1 : b ∉ frs l) (h2 : b ≠ ea) (h3 : b ≠ T) : (known h l ea T).get? b = some o :=
  PySem.W.hideAll_get _ e fun z => (List.mem_append.mp z).elim h1 fun z => by
    rcases List.mem_cons.mp z with q | q
    · exact h2 q
    · exact h3 (by simpa using q)
theorem known_stays {h : Heap} : (known h l ea T).StaysIn h := fun b o e => PySem.W.of_hideAll _ e
theorem known_ea {h : Heap} : (known h l ea T).get? ea = none := PySem.W.hideAll_none _ (List.mem_append_right _ (List.mem_cons_self))
theorem known_frames {h : Heap} (ff : h.FunFrames base l) : h.FunFrames (known h l ea T) l := PySem.W.funFrames_hide ff fun env he a ha => List.mem_append_left _ (List.mem_filterMap.mpr ⟨env, he, ha⟩)
theorem known_none {h : Heap} {b : Addr} (e : (known h l ea T).get? b = none) : h.get? b = none ∨ b ∈ frs l ∨ b = ea ∨ b = T := by
  by_cases h1 : b ∈ frs l
  · exact .inr (.inl h1)
  by_cases h2 : b = ea
  · exact .inr (.inr (.inl h2))
  by_cases h3 : b = T
  · exact .inr (.inr (.inr h3))
  cases q : h.get? b with
  | none => exact .inl rfl
  | some o => rw [known_get q h1 h2 h3] at e; cases e
theorem Fly.flight {t : Option Addr} {Q : Unit → Shared → Prop} (F : Fly C P w (frs l) ch H0 H' h0 s.heap ea T) (hfs : ∀ b ∈ frs l, H' b = none) (ff : s.heap.FunFrames base l)
    (h : ∀ h', Fly C P w (frs l) ch H0 H' h0 h' ea T → h'.FunFrames base l → (∀ b, b ≠ T → h'.get? b = s.heap.get? b) → Q () { s with heap := h' }) : wpAny M A (setFlight (.ref ea) t) Q E s := by
  have fin := fun v => h (marked s.heap T v) (F.put v hfs ff) (F.exc.frames v ff) fun b hb => marked_ne v hb
  obtain ⟨oe, vs, oT, ts, a0, fl, ge, _, de, h1, _, gT, dT, h3⟩ := F.exc
  refine wpAny_bind (m := field (.ref ea) 1) (wpAny_field ge de h1 ?_)
  have some' : (Value.ref T != Value.none) = true := by simp
  rw [if_pos some']
  exact wpAny_setField gT dT (Array.getElem?_eq_some_iff.mp h3).1 (fin _)
theorem Fly.note {env : Env} {outer : List Env} {L : Addr} {Q : Unit → Shared → Prop} (F : Fly C P w (frs (env :: outer)) ch H0 H' h0 s.heap ea T) (hfs : ∀ b ∈ frs (env :: outer), H' b = none) (ff : s.heap.FunFrames base (env :: outer))
    (hfr : A.frames = some (env :: outer)) (hf : env.frame = some L)
    (h : ∀ h' T', Fly C P w (frs (env :: outer)) ch H0 H' h0 h' ea T' → (∃ base', h'.FunFrames base' (env :: outer)) → (∀ b o, s.heap.get? b = some o → b ∉ frs (env :: outer) → b ≠ ea → b ≠ T → h'.get? b = some o) → Q () { s with heap := h' }) :
    wpAny M A (noteFrame (.ref ea) env) Q E s := by
  have here := h s.heap T F ⟨_, ff⟩ fun b o e _ _ _ => e
  have F1 := F.put Value.none hfs ff
  have ff1 := F.exc.frames Value.none ff
  obtain ⟨oe, vs, oT, ts, a0, fl, ge, _, de, h1, _, gT, dT, h3⟩ := F.exc
  unfold noteFrame
  simp only [hf]
  refine wpAny_bind (wpAny_field ge de h1 ?_)
  have some' : (Value.ref T != Value.none) = true := by simp
  rw [if_pos some']
  refine wpAny_bind (wpAny_field gT dT h3 ?_)
  by_cases hfl : (fl == rawInt L) = true
  · rw [if_pos hfl]
    exact wpAny_pure here
  · rw [if_neg hfl]
    refine wpAny_bind (wpAny_setField gT dT (Array.getElem?_eq_some_iff.mp h3).1 ?_)
    obtain ⟨oe', vs', oT', ts', a0', fl', ge', ⟨ce', va'⟩, de', h1', hne', gT', dT', h3'⟩ := F1.exc
    have nfr := F1.exc.notFrame ff1
    refine wpAny_entryW (s := { s with heap := marked s.heap T Value.none }) (base := known (marked s.heap T Value.none) (env :: outer) ea T) hfr (known_frames ff1) hf ge' known_stays known_ea de' (Array.getElem?_eq_some_iff.mp h1').1 va' fun g ⟨st, ff2, tr, up⟩ => ?_
    obtain ⟨o2, v2, T2, p2, u2, e1, e2, e3, e4, e5, e6, e7, e8, e9⟩ := tr
    have kp : ∀ b o, b ∉ frs (env :: outer) → b ≠ ea → b ≠ T → (marked s.heap T Value.none).get? b = some o → g.get? b = some o := fun b o q1 q2 q3 e => st b o (known_get e q1 q2 q3)
    have F2 : Fly C P w (frs (env :: outer)) ch H0 H' h0 g ea T2 := by
      refine F1.step hfs (x := fun _ => False) (fun _ z => z.elim) (fun b o q1 q2 q3 _ e => kp b o q1 q2 q3 e) (fun b o hb e => ?_) ⟨o2, v2, p2, u2, a0', _, e1, ⟨e2.1.trans ce', e2.2⟩, e3, e4, e6, e7, e8, e9⟩ ?_
      · obtain ⟨_, ob, gb, dn⟩ := ff1.mem hb
        rw [e] at gb
        cases gb
        exact up b o e dn
      · rcases known_none e5 with z | z | z | z
        · exact .inr z
        · obtain ⟨_, ob, gb, dn⟩ := ff2.mem z
          rw [e7] at gb
          cases gb
          exact absurd e8 (dn u2)
        · exact absurd z e6
        · exact .inl z
    exact h g T2 F2 ⟨_, ff2⟩ fun b o e q1 q2 q3 => kp b o q1 q2 q3 ((marked_ne _ q3).trans e)
end
section
variable {C : Addr} {P : Program} {w : World} {K : PySem.W.Frag} {mg : Str → Option Value} {base : Heap} {N : List Str} {qual : Str} {scope : Scope} {f : Addr} {cd : Value} {A : Around} {outer : List Env} {s0 : Shared} {H0 : Hp} {E E' : XK}
theorem un_frames {X : Cx} {pins : List (Addr × Obj)} {σ : St} {H H' : Hp} {s : Shared} {h' : Heap} {ch : List Addr} (I : Inv X pins σ H s) (un : Un (frs X.stack) ch H H' s.heap h') (hch : ∀ b ∈ frs X.stack, b ∉ ch) :
    h'.FunFrames X.base X.stack ∧ ∀ b ∈ frs X.stack, H' b = none := by
  have all : ∀ (l : List Env), (∀ b ∈ frs l, b ∈ frs X.stack) → s.heap.FunFrames X.base l → h'.FunFrames X.base l := by
    intro l
    induction l with
    | nil => intro _ _; trivial
    | cons env r ih =>
      intro hs hl
      obtain ⟨hk, ⟨L, o, hf, hn, ho, hd⟩, hr⟩ := hl
      have hL : L ∈ frs X.stack := hs L (by unfold frs; rw [List.filterMap_cons, hf]; exact List.mem_cons_self)
      obtain ⟨sl, e⟩ := un.slot L o ho (I.stkFree L hL) hL (hch L hL)
      exact ⟨hk, ⟨L, _, hf, hn, e, hd⟩, ih (fun b hb => hs b (by unfold frs; rw [List.filterMap_cons, hf]; exact List.mem_cons_of_mem _ hb)) hr⟩
  refine ⟨all X.stack (fun _ hb => hb) I.stack, fun b hb => ?_⟩
  obtain ⟨_, o, ho, _⟩ := I.stack.mem hb
  exact un.free b o ho (I.stkFree b hb) (hch b hb)
theorem leave_cx {pins : List (Addr × Obj)} {σ : St} {H H' : Hp} {s s' : Shared} {ch : List Addr} {ea T : Addr} (I : Inv (cxOf (CXN C P w) P w K mg base N qual scope f cd A outer s0 H0 E) pins σ H s)
    (hch : ∀ b ∈ ch, s0.heap.objs.size < b)
    (F : Fly C P w (frs (cxOf (CXN C P w) P w K mg base N qual scope f cd A outer s0 H0 E).stack) ch H H' s.heap s'.heap ea T) (os : s'.os = s.os) (bare : AllBare s'.gens) (q : E (.ref C) none H') :
    (cxOf (CXN C P w) P w K mg base N qual scope f cd A outer s0 H0 E).xe (.ref ea) s' := by
  generalize hX : cxOf (CXN C P w) P w K mg base N qual scope f cd A outer s0 H0 E = X at I F
  have hs0 : X.s_0 = s0 := by subst hX; rfl
  have hH0 : X.H_0 = H0 := by subst hX; rfl
  have hou : X.outer = outer := by subst hX; rfl
  have hex : X.ex = [] := by subst hX; rfl
  have hst : X.stack = X.env :: outer := by subst hX; rfl
  have hfr : X.env.frame = some X.env.locals := by subst hX; rfl
  have hlo : X.env.locals = s0.heap.objs.size := by subst hX; rfl
  have frst : frs X.stack = X.env.locals :: frs outer := by
    rw [hst]
    unfold frs
    rw [List.filterMap_cons, hfr]
  have hnch : ∀ b ∈ frs X.stack, b ∉ ch := fun b hb hc => by
    have h1 := hch b hc
    rw [frst] at hb
    rcases List.mem_cons.mp hb with z | z
    · rw [z, hlo] at h1; exact Nat.lt_irrefl _ h1
    · obtain ⟨_, o, ho, _⟩ := I.ok.funs.mem (b := b) (by rw [hou]; exact z)
      rw [hs0] at ho
      exact absurd (Nat.lt_trans (Heap.lt_size ho) h1) (Nat.lt_irrefl _)
  obtain ⟨ff, hfs⟩ := un_frames I F.un hnch
  -- over the entry
  have iu : Un (frs X.stack) ch H0 H s0.heap s.heap := by
    have z := I.base
    rw [hs0, hH0, hex] at z
    refine z.mono (fun b hb => ?_) fun b hb => absurd hb (by simp)
    rw [frst]
    exact List.mem_cons_of_mem _ (by rw [← hou]; exact hb)
  have notch : ∀ b o, s0.heap.get? b = some o → b ∉ ch := fun b o e hc => absurd (Nat.lt_trans (Heap.lt_size e) (hch b hc)) (Nat.lt_irrefl _)
  have F0 : Fly C P w (frs X.stack) ch H0 H' s0.heap s'.heap ea T := by
    refine ⟨F.exc, iu.trans F.un, F.hok, F.n1, F.n2, fun o e => ?_, fun o e => ?_⟩
    · obtain ⟨o', e'⟩ := iu.there ea o e (notch _ _ e)
      exact F.f1 o' e'
    · obtain ⟨o', e'⟩ := iu.there T o e (notch _ _ e)
      exact F.f2 o' e'
  have fin : ∀ {h' : Heap} {T' : Addr}, Fly C P w (frs X.stack) ch H0 H' s0.heap h' ea T' → CXN C P w outer H0 s0 E (.ref ea) { s' with heap := h' } := fun {h' T'} F' => by
    have low : ∀ b o, s0.heap.get? b = some o → b ∉ frs outer → b ∉ frs X.stack := fun b o e hb => by
      rw [frst]
      intro z
      rcases List.mem_cons.mp z with z | z
      · rw [z, hlo] at e; exact absurd (Heap.lt_size e) (Nat.lt_irrefl _)
      · exact hb z
    refine ⟨ea, T', H', rfl, ⟨F'.exc, ⟨fun b o e n hb _ => F'.un.keep b o e n (low b o e hb) (notch b o e), fun b o e n hb _ => F'.un.slot b o e n (by rw [frst]; exact List.mem_cons_of_mem _ hb) (notch b o e),
      fun b o e n _ => F'.un.free b o e n (notch b o e), fun b o e _ => F'.un.there b o e (notch b o e), F'.un.tups, F'.un.frzs, F'.un.tbls⟩, F'.hok, F'.n1, F'.n2, fun o e => absurd (F'.f1 o e) (notch _ _ e), fun o e => absurd (F'.f2 o e) (notch _ _ e)⟩, ?_, bare, q⟩
    show s'.os = s0.os
    rw [os, I.os, hs0]
  have go : wpAny (model P w) X.A (leaving X.env (.ref ea)) (fun _ s'' => CXN C P w outer H0 s0 E (.ref ea) s'') (fun e' s'' => CXN C P w outer H0 s0 E e' s'') s' := by
    unfold leaving
    rw [hst] at F0 hfs ff
    refine wpAny_bind (F0.note hfs ff (I.ok.frames.trans (by rw [hst])) hfr fun h' T' F1 ⟨b', ff'⟩ _ => ?_)
    refine F1.flight (s := { s' with heap := h' }) hfs ff' fun h'' F2 _ _ => ?_
    rw [← hst] at F2
    exact fin F2
  subst hX
  exact go
theorem pass_cx (hE : ∀ H', E' (.ref C) none H' → E (.ref C) none H') : Passes (CXN C P w) (cxOf (CXN C P w) P w K mg base N qual scope f cd A outer s0 H0 E) E' := by
  intro pins σ H s e s' I h
  obtain ⟨ea, T, H', rfl, F, os, bare, q⟩ := h
  exact leave_cx I (ch := []) (fun b hb => absurd hb (by simp)) F os bare (hE H' q)
theorem own_cx {X : Cx} (hX : X = cxOf (CXN C P w) P w K mg base N qual scope f cd A outer s0 H0 E) : PassesOwn (model X.prog X.w) X.A X.env X.xe := by
  subst hX
  exact PassesOwn.leaving
end
noncomputable abbrev excBm : List Value := [.type "Exception", .type "BaseException", .type "object"]
structure XCls (K : PySem.W.Frag) (C : Addr) : Prop where
  ex : ∃ (Nn : Addr) (nm qn : Str) (bs : List Value) (hdct : Bool) (sn : List Str) (sub : List Value) (ab : Bool) (col : Option Bool) (dd : Option Addr) (k0 k1 k2 k3 k5 : Option Value),
    K.lookup C = some (excClassObj nm qn C Nn bs excBm hdct sn sub ab col dd k0 k1 k2 k3 k5 "Exception.__new__") ∧ PySem.W.nsOkIn K Nn = true ∧ PySem.W.nsIn K Nn "__init__" = some none
noncomputable def tRaise (C : Addr) (E : XK) : TS := fun _ _ H => E (.ref C) none H
section
variable {C : Addr} {P : Program} {w : World} {K : PySem.W.Frag} {mg : Str → Option Value} {base : Heap} {N : List Str} {qual : Str} {scope : Scope} {f : Addr} {cd : Value} {A : Around} {outer : List Env} {s0 : Shared} {H0 : Hp} {E : XK}
theorem ps_raise {x : Str} {np cpos pos : Pos} (q : XCls K C) (hm : mg x = some (.ref C))
    (hg : Gl (cxOf (CXN C P w) P w K mg base N qual scope f cd A outer s0 H0 E) x) (hd : (x == ("__debug__" : Str)) = false := by decide) :
    PS (cxOf (CXN C P w) P w K mg base N qual scope f cd A outer s0 H0 E) (.Raise (some (.Call (.Name x np) [] [] cpos)) none pos) (tRaise C E) := by
  intro pins s σ H D I h
  have KI : K.In s.heap := I.kIn
  obtain ⟨Nn, nm, qn, bs, hdct, sn, sub, ab, col, dd, k0, k1, k2, k3, k5, lk, nok, nini⟩ := q.ex
  have hC := KI _ _ lk
  refine wpAny_Raise_call_sub (C := C) (nm := nm) (q := qn) (N := Nn) (bs := bs) (hdct := hdct) (sn := sn) (sub := sub) (ab := ab) (col := col) (dd := dd) (k0 := k0) (k1 := k1) (k2 := k2) (k3 := k3) (k5 := k5)
    PySem.F.excBase_Exception (mN := s.heap.nsMap Nn) (I.ok.hd rfl) rfl (PySem.W.nsMap_none_of_in KI nok nini) (ld_glob I hg hm ⟨rfl, ?_⟩ hd)
  refine evalArgs_empty ⟨rfl, Nat.zero_le _, hC, .of_isNs (PySem.W.isNs_of_in KI nok), fun h' e mx => ?_⟩
  -- out of the frame
  obtain ⟨t, he, htn, ht⟩ := mx.there
  have st : (PySem.W.hideAll s.heap (frs (cxOf (CXN C P w) P w K mg base N qual scope f cd A outer s0 H0 E).stack)).StaysIn s.heap := fun b o e => PySem.W.of_hideAll _ e
  have ff : s.heap.FunFrames (PySem.W.hideAll s.heap (frs (cxOf (CXN C P w) P w K mg base N qual scope f cd A outer s0 H0 E).stack)) (cxOf (CXN C P w) P w K mg base N qual scope f cd A outer s0 H0 E).stack :=
    PySem.W.funFrames_hide I.stack fun env he a ha => List.mem_filterMap.mpr ⟨env, he, ha⟩
  refine wpAny_leaves_madeW (s := { s with heap := h' }) I.ok.frames rfl st ff mx fun h'' t' x1 x2 x3 x4 => ?_
  obtain ⟨k1', k2', k3', k4'⟩ := x1
  obtain ⟨oe, vs, T, oT, ts, he', hc', hd', h1', hnT, hTe, hT, hdT, h3⟩ := k4'
  -- what stays
  have keep : ∀ b o, b ∉ frs (cxOf (CXN C P w) P w K mg base N qual scope f cd A outer s0 H0 E).stack → s.heap.get? b = some o → h''.get? b = some o := fun b o hb e => k1' b o (PySem.W.hideAll_get _ e hb)
  have slot : ∀ b o, b ∈ frs (cxOf (CXN C P w) P w K mg base N qual scope f cd A outer s0 H0 E).stack → s.heap.get? b = some o → ∃ sl, h''.get? b = some { o with slots := sl } := fun b o hb e => by
    obtain ⟨_, o', ho', hn⟩ := I.stack.mem hb
    rw [e] at ho'; cases ho'
    exact x4 b o (mx.keeps b o e) hn
  have hs0T : s0.heap.get? T = none := by
    cases z : s0.heap.get? T with
    | none => rfl
    | some o =>
      have hlt : T < s0.heap.objs.size := Heap.lt_size z
      obtain ⟨o', e'⟩ := I.base.there T o z (by intro q; exact absurd (show T ∈ ([] : List Addr) from q) (by simp))
      by_cases hb : T ∈ frs (cxOf (CXN C P w) P w K mg base N qual scope f cd A outer s0 H0 E).stack
      · obtain ⟨sl, e2⟩ := slot T o' hb e'
        obtain ⟨_, o3, ho3, hn⟩ := I.stack.mem hb
        rw [e'] at ho3; cases ho3
        rw [hT] at e2
        cases e2
        exact absurd hdT (hn ts)
      · have := PySem.W.hideAll_get (frs (cxOf (CXN C P w) P w K mg base N qual scope f cd A outer s0 H0 E).stack) e' hb
        rw [hnT] at this; cases this
  have hHT : H T = none := by
    cases z : H T with
    | none => rfl
    | some u =>
      obtain ⟨ob, e'⟩ := (I.hok T u z).there
      have hb : T ∉ frs (cxOf (CXN C P w) P w K mg base N qual scope f cd A outer s0 H0 E).stack := fun hb => by rw [I.stkFree T hb] at z; cases z
      have := PySem.W.hideAll_get (frs (cxOf (CXN C P w) P w K mg base N qual scope f cd A outer s0 H0 E).stack) e' hb
      rw [hnT] at this; cases this
  have hse : s0.heap.get? e = none := by
    cases z : s0.heap.get? e with
    | none => rfl
    | some o =>
      obtain ⟨o', e'⟩ := I.base.there e o z (by intro q; exact absurd (show e ∈ ([] : List Addr) from q) (by simp))
      rw [mx.new] at e'; cases e'
  have hHe : H e = none := by
    cases z : H e with
    | none => rfl
    | some u =>
      obtain ⟨ob, e'⟩ := (I.hok e u z).there
      rw [mx.new] at e'; cases e'
  have low : ∀ b o, s0.heap.get? b = some o → b ∉ frs outer → b ∉ frs (cxOf (CXN C P w) P w K mg base N qual scope f cd A outer s0 H0 E).stack := fun b o e hb z => by
    rcases List.mem_cons.mp (I.stkSub b z) with z | z
    · have z : b = s0.heap.objs.size := z
      rw [z] at e; exact absurd (Heap.lt_size e) (Nat.lt_irrefl _)
    · exact hb z
  have up : ∀ b, b ∈ frs outer → b ∈ frs (cxOf (CXN C P w) P w K mg base N qual scope f cd A outer s0 H0 E).stack := fun b hb => by
    show b ∈ frs (_ :: outer)
    unfold frs
    rw [List.filterMap_cons]
    exact List.mem_cons_of_mem _ hb
  have nx : ∀ b : Addr, b ∉ (cxOf (CXN C P w) P w K mg base N qual scope f cd A outer s0 H0 E).ex := fun b z => absurd (show b ∈ ([] : List Addr) from z) (by simp)
  refine ⟨e, T, H, rfl, ⟨⟨oe, vs, oT, ts, _, _, he', hc', hd', h1', hTe, hT, hdT, h3⟩, ⟨fun b o e1 n hb _ => ?_, fun b o e1 n hb _ => ?_, fun b o e1 n _ => I.base.free b o e1 n (nx b), fun b o e1 _ => ?_, I.base.tups, I.base.frzs, I.base.tbls⟩, fun b u z => ?_, hHe, hHT, fun o z => (by rw [hse] at z; cases z), fun o z => (by rw [hs0T] at z; cases z)⟩, I.os, I.bare, h⟩
  · exact keep b o (low b o e1 hb) (I.base.keep b o e1 n hb (nx b))
  · obtain ⟨sl, e2⟩ := I.base.slot b o e1 n hb (nx b)
    obtain ⟨sl', e3⟩ := slot b _ (up b hb) e2
    exact ⟨sl', e3⟩
  · obtain ⟨o', e2⟩ := I.base.there b o e1 (nx b)
    by_cases hb : b ∈ frs (cxOf (CXN C P w) P w K mg base N qual scope f cd A outer s0 H0 E).stack
    · obtain ⟨sl, e3⟩ := slot b o' hb e2
      exact ⟨_, e3⟩
    · exact ⟨o', keep b o' hb e2⟩
  · refine (I.hok b u z).stay (fun c v hc q => keep c v (fun hb => ?_) q) (fun _ q => q) fun _ _ q => q
    have n := I.stkFree c hb
    rcases hc with z' | z'
    · rw [z', z] at n; cases n
    · rw [z'] at n; cases n
end
end L2
namespace L2
open PySem PySem.Spec PyProof.Rows
section
variable {X : Cx}
theorem op_fdivB : OpR X (binaryOp .FloorDiv) (rI (fun _ j => j ≠ 0 ∧ j.natAbs.log2 < 9000) fun i j => .int (i.fdiv j)) := opI fun _ _ _ _ _ _ _ hc q => floordiv_int hc.1 q (.inl (PyProof.noPylong_of_log2 hc.2))
noncomputable def rBits : V → List V → Hp → VK → Prop := fun x xs H Q => ∃ i, x = .int i ∧ xs = [] ∧ Q (.int (Builtin.Int.intBits i : Nat)) H
theorem mt_bits : MtR X "int.bit_length" rBits := by
  intro pins s σ H x xs v us Q I rx rv h
  obtain ⟨i, rfl, rfl, q⟩ := h
  obtain ⟨t, rfl⟩ := rx
  cases rv
  exact call_int_bit_length ⟨.int _, H, I.tok _, ⟨_, rfl⟩, q⟩
theorem pe_bits {o : Expr} {to : TE} {apos cpos : Pos} (ho : PE X o to) (hbase : attributeBase o "bit_length" X.env (eval o X.env) = eval o X.env := by rfl) (hline : (apos.endLine == cpos.line) = true := by rfl) :
    PE X (.Call (.Attribute o "bit_length" apos) [] [] cpos) (tBM0 X.K "int" rBits to) := pe_bm0 PySem.F.plainAttrs_int PySem.F.slot_int_bit_length PySem.F.type_int_bit_length mt_bits ho hbase hline
theorem extT (l : Addr) (items : Array Value) (n : Nat) (b : Addr) (items2 : Array Value) (n2 : Nat) (dd : Option Addr) (sl : Array (Option Value)) (h0 : ¬ (!items.isEmpty && Builtin.List.listTooLong (items.size + items2.size)) = true) (h1 : items.size ≤ sizeLine) (h2 : items.size + items2.size ≤ sizeLine + 1) :
    Meets (Builtin.«list.extend» ⟨[.ref l, .ref b], []⟩) (fun _ R s => s.heap.get? l = some { cls := .type "list", dict := none, data := .seq items n, slots := #[] } ∧ s.heap.get? b = some { cls := .type "tuple", dict := dd, data := .seq items2 n2, slots := sl } ∧
      R (.ok (.ret Value.none)) { s with heap := s.heap.update l (Obj.mapSeq fun x => x ++ items2), toks := s.toks }) :=
  .of_wp fun prog w A R s h => by
    obtain ⟨hp, g, d, tk, os⟩ := s
    obtain ⟨gl, gb, h⟩ := h
    have t1 := PySem.AutoSeq1.idx_int
    have t2 := PySem.AutoSeq1.sub_tuple_tuple
    have t3 := PySem.AutoSeq1.sub_list_list
    have t4 := PySem.AutoSeq1.sub_tuple_list
    have t5 := PySem.AutoSeq1.sub_list_tuple
    have sz : (items ++ items2).size ≤ sizeLine + 1 := by rw [Array.size_append]; exact h2
    wp_walk using (wpAny_updateSeq gl rfl (hz := h1) (_hz' := sz)), PySem.AutoSeq1.wpAny_loadPart' gl, PySem.AutoSeq1.wpAny_loadPart' gb
    exact ⟨_, rfl, h⟩
noncomputable def rExtT (K : PySem.W.Frag) : V → List V → Hp → VK → Prop := fun x vs H Q => ∃ l b xs zs, x = .ref l ∧ vs = [.ref b] ∧ H l = some (.lst xs) ∧ SqT K H b zs ∧ xs.length + zs.length ≤ sizeLine ∧ Q .non (upd H l (.lst (xs ++ zs)))
theorem mt_extT : MtM X "list.extend" (rExtT X.K) := by
  intro pins s σ H x vs v us Q I rx rv h
  obtain ⟨l, b, xs, zs, rfl, rfl, hH, hB, hz, q⟩ := h
  cases rx
  obtain ⟨u, rfl, ru⟩ := rv.one
  cases ru
  obtain ⟨z, its, n, r, hl, e⟩ := I.lstM hH
  obtain ⟨its2, r2, ⟨⟨cl, dd, dt, sl⟩, e2, c2, n2, d2⟩, z2⟩ := I.tuple hB
  cases c2
  cases d2
  have hl2 := r2.length
  have hsz : its.toArray.size + its2.toArray.size ≤ sizeLine := by rw [List.size_toArray, List.size_toArray]; omega
  have hlong : ¬ (!its.toArray.isEmpty && Builtin.List.listTooLong (its.toArray.size + its2.toArray.size)) = true := by
    rw [notLongL hsz, Bool.and_false]
    exact Bool.false_ne_true
  refine call_meets F.slot_list_extend ⟨_, e, rfl⟩ F.entry_list_extend (F.args_list_extend_2 _ _) (extT l its.toArray n b its2.toArray n2 dd sl hlong (by rw [List.size_toArray]; omega) (by omega)) ⟨e, e2, ?_⟩
  refine ⟨.non, _, I.lset (its' := its ++ its2) hH e (by simp) (r.append r2) ?_, rfl, q⟩
  rw [List.length_append]
  omega
noncomputable def Itzt (K : PySem.W.Frag) (a b : Addr) : It :=
  ⟨fun i H => ∃ (xs ys : List V) (x y : V), SqT K H a xs ∧ SqT K H b ys ∧ xs[i]? = some x ∧ ys[i]? = some y,
    fun i H v H' => ∃ T x y, v = .ref T ∧ H T = none ∧ H' = upd H T (.tup [x, y]) ∧ (∀ xs, SqT K H a xs → xs[i]? = some x) ∧ ∀ ys, SqT K H b ys → ys[i]? = some y,
    fun i H => ∃ xs : List V, SqT K H a xs ∧ xs.length ≤ i⟩
theorem turn_zipt {P : Program} {w : World} {K : PySem.W.Frag} {elts : List Expr} {kk : Nat} {tpos : Pos} {a b z TI TO i1 i2 : Addr} (D : ZipApart z TI TO i1 i2 a b) :
    Turn P w K (.Tuple elts kk tpos) (Itzt K a b) [z, TI, TO, i1, i2] z (fun i h => IsZip h z TI TO .none ∧ IsPair h TI (.ref i1) (.ref i2) ∧ (∃ x y, IsPair h TO x y) ∧ h.IsTupleIter i1 a i ∧ h.IsTupleIter i2 b i) where
  mem := by simp
  obj := fun i h st c hc => by
    obtain ⟨hz, hTI, ⟨x, y, hTO⟩, ⟨o1, e1, _, d1⟩, ⟨o2, e2, _, d2⟩⟩ := st
    have e' : c = z ∨ c = TI ∨ c = TO ∨ c = i1 ∨ c = i2 := by simpa using hc
    rcases e' with q | q | q | q | q <;> rw [q]
    · exact ⟨_, hz, fun v q => nomatch q⟩
    · exact ⟨_, hTI, fun v q => nomatch q⟩
    · exact ⟨_, hTO, fun v q => nomatch q⟩
    · exact ⟨o1, e1, fun v q => by rw [d1] at q; cases q⟩
    · exact ⟨o2, e2, fun v q => by rw [d2] at q; cases q⟩
  keep := fun i h h' st k => by
    obtain ⟨hz, hTI, ⟨x, y, hTO⟩, h1, h2⟩ := st
    exact ⟨k z (by simp) _ hz, k TI (by simp) _ hTI, ⟨x, y, k TO (by simp) _ hTO⟩, h1.at fun o q => k i1 (by simp) o q, h2.at fun o q => k i2 (by simp) o q⟩
  item := by
    intro X hP hw hK hc i pins s σ H E I hf st hg
    subst hP hw hK
    obtain ⟨hz, hTI, ⟨x0, y0, hTO⟩, h1, h2⟩ := st
    obtain ⟨xs, ys, x, y, hqx, hqy, hx, hy⟩ := hg
    obtain ⟨its, rv, p, _⟩ := I.tuple hqx
    obtain ⟨its2, rv2, p2, _⟩ := I.tuple hqy
    obtain ⟨u, hu, ru⟩ := rv.get hx
    obtain ⟨u2, hu2, ru2⟩ := rv2.get hy
    have hzl : z < s.heap.objs.size := Heap.lt_size hz
    refine ZT.next D hTI ⟨hz, hTO, h1, h2, rfl, fun c o _ _ _ _ e => e⟩ (show s.heap.IsTuple a its.toArray from p) (show s.heap.IsTuple b its2.toArray from p2) (x := u) (y := u2) (by simpa using hu) (by simpa using hu2) fun g g' Z' n' sb' => ?_
    refine ⟨_, rfl, wpAny_letOwnedTupleGo_zip (s := { s with heap := g' }) n' fun g2 n2 sb2 => ?_⟩
    have hne : g.objs.size ≠ z := by rw [Z'.sz]; exact Nat.ne_of_gt hzl
    have eT : g2.get? g.objs.size = some { cls := .type "tuple", data := .seq #[u, u2] } := (sb2.2 _ hne).trans ((sb'.2 _ hne).trans (Heap.get?_push_size _ rfl))
    rw [Z'.sz] at eT
    have up : ∀ c o, c ≠ z → g.get? c = some o → g2.get? c = some o := fun c o hcz e => (sb2.2 c hcz).trans ((sb'.2 c hcz).trans (Heap.get?_push_of_some _ e))
    have new : ObjOk X.prog X.w (upd H s.heap.objs.size (.tup [x, y])) g2 s.heap.objs.size (.tup [x, y]) :=
      ⟨by show 2 ≤ sizeLine; decide, [u, u2], .cons ru (.cons ru2 .nil), ⟨_, eT, rfl, _, rfl⟩⟩
    have I1 : Inv X pins σ (upd H s.heap.objs.size (.tup [x, y])) { s with heap := g2 } :=
      I.turnedNew (t' := s.toks) (ch := [z, TI, TO, i1, i2]) (fun c o hb q => up c o (fun q' => hb (by simp [q'])) (Z'.kp c o (fun q' => hb (by simp [q'])) (fun q' => hb (by simp [q'])) (fun q' => hb (by simp [q'])) (fun q' => hb (by simp [q'])) q)) hf (Nat.le_refl _) new
    have fin : ∃ (xx : V) (HH : Hp), Inv X pins σ HH { s with heap := g2 } ∧ RelV xx (.ref g.objs.size) ∧ (Itzt X.K a b).yld i H xx HH ∧ (IsZip g2 z TI TO .none ∧ IsPair g2 TI (.ref i1) (.ref i2) ∧ (∃ x y, IsPair g2 TO x y) ∧ g2.IsTupleIter i1 a (i + 1) ∧ g2.IsTupleIter i2 b (i + 1)) ∧ ∀ c ∈ [z, TI, TO, i1, i2], HH c = none := by
      refine ⟨.ref s.heap.objs.size, _, I1, by rw [Z'.sz]; rfl, ⟨_, x, y, rfl, I.hok.fresh (Nat.le_refl _), rfl, fun l hl => by rw [I.tuple_inj hl hqx]; exact hx, fun l hl => by rw [I.tuple_inj hl hqy]; exact hy⟩, ⟨n2, ?_, ⟨u, u2, ?_⟩, ?_, ?_⟩, fun c hcm => ?_⟩
      · exact up _ _ D.TIz (Z'.kp _ _ D.TIz D.TITO D.TIi1 D.TIi2 hTI)
      · exact up _ _ D.TOz Z'.pr
      · exact Z'.j1.at fun o q => up _ o D.i1z q
      · exact Z'.j2.at fun o q => up _ o D.i2z q
      · have hlt : c < s.heap.objs.size := by
          have e' : c = z ∨ c = TI ∨ c = TO ∨ c = i1 ∨ c = i2 := by simpa using hcm
          rcases e' with q | q | q | q | q <;> rw [q]
          · exact hzl
          · exact Heap.lt_size hTI
          · exact Heap.lt_size hTO
          · obtain ⟨_, e1, _⟩ := h1; exact Heap.lt_size e1
          · obtain ⟨_, e2, _⟩ := h2; exact Heap.lt_size e2
        rw [upd_ne (Nat.ne_of_lt hlt)]
        exact (hf c hcm).1
    exact fin
  done := by
    intro X hP hw hK hc i pins s σ H E I hf st hg
    subst hP hw hK
    obtain ⟨hz, hTI, ⟨x0, y0, hTO⟩, h1, h2⟩ := st
    obtain ⟨xs, hqx, hend⟩ := hg
    obtain ⟨its, rv, p, _⟩ := I.tuple hqx
    have l1 := rv.length
    exact ZT.stop (I.ok.hd hc) D hTI ⟨hz, hTO, h1, h2, rfl, fun c o _ _ _ _ e => e⟩ (show s.heap.IsTuple a its.toArray from p) (by simp; omega) fun g kp => ⟨rfl, I.turnedL (t' := s.toks) (ch := [z, TI, TO, i1, i2]) (fun c o hb q =>
      kp c o (fun q' => hb (by simp [q'])) (fun q' => hb (by simp [q'])) (fun q' => hb (by simp [q'])) (fun q' => hb (by simp [q'])) q) hf⟩
  self := fun A i s Q E st h => wpAny_pyIter_zip st.1 h
noncomputable def iZipt (K : PySem.W.Frag) (ta : TA) : TI := fun σ H R => ta σ H fun vs H1 => ∃ a b xs ys, vs = [.ref a, .ref b] ∧ SqT K H1 a xs ∧ SqT K H1 b ys ∧ R (Itzt K a b) H1
theorem pi_zipt {e e2 : Expr} {ta : TA} {p pos tpos : Pos} {elts : List Expr} {kk : Nat} (hg : Gl X "zip") (hm : X.mg "zip" = none) (ha : PA X [e, e2] ta)
    (hs : starEach [e, e2] X.env = (false, eval e X.env) :: starEach [e2] X.env := by rfl) (hpl : (backTo pos (starEach [e2] X.env)).any (·.1) = false := by rfl) :
    PI X (.Tuple elts kk tpos) (.Call (.Name "zip" p) [e, e2] [] pos) (iZipt X.K ta) := by
  intro pins s σ H R I h
  refine Call_ (ld_blt I hg hm boot_zip5 (PyProof.Rows.callWith_type1 (thn (ha pos pins s σ H _ I h) fun us s1 ⟨vs, H1, I1, r1, q1⟩ => ?_) hs hpl))
  obtain ⟨a, b, xs, ys, ex, hqx, hqy, q⟩ := q1
  subst ex
  cases r1 with
  | cons r rr =>
    cases rr with
    | cons r' rr =>
      cases rr
      cases r
      cases r'
      obtain ⟨its, rv, p1, _⟩ := I1.tuple hqx
      obtain ⟨its2, rv2, p2, _⟩ := I1.tuple hqy
      have la : a < s1.heap.objs.size := p1.lt
      have lb : b < s1.heap.objs.size := p2.lt
      have gz : IsZip (ZT.made s1.heap a b) (s1.heap.objs.size + 4) (s1.heap.objs.size + 2) (s1.heap.objs.size + 3) .none := Heap.get?_push_at (by simp [Heap.size_push]) rfl
      refine ZT.make (show s1.heap.IsTuple a its.toArray from p1) (show s1.heap.IsTuple b its2.toArray from p2) (wpAny_pyIter_zip gz ?_)
      have I2 : Inv X pins σ H1 { s1 with heap := ZT.made s1.heap a b } := I1.kept (t' := s1.toks) fun c o e => Heap.get?_push_of_some _ (Heap.get?_push_of_some _ (Heap.get?_push_of_some _ (Heap.get?_push_of_some _ (Heap.get?_push_of_some _ e))))
      refine ⟨s1.heap.objs.size + 4, [s1.heap.objs.size + 4, s1.heap.objs.size + 2, s1.heap.objs.size + 3, s1.heap.objs.size, s1.heap.objs.size + 1], _, _, H1, rfl, I2, turn_zipt (PySem.W.ktu_apart s1.heap.objs.size a b la lb),
        ⟨gz, Heap.get?_push_of_some _ (Heap.get?_push_of_some _ (Heap.get?_push_at (by simp [Heap.size_push]) rfl)), ⟨_, _, Heap.get?_push_of_some _ (Heap.get?_push_at (by simp [Heap.size_push]) rfl)⟩,
          ⟨_, Heap.get?_push_of_some _ (Heap.get?_push_of_some _ (Heap.get?_push_of_some _ (Heap.get?_push_of_some _ (Heap.get?_push_at rfl rfl)))), rfl, rfl⟩,
          ⟨_, Heap.get?_push_of_some _ (Heap.get?_push_of_some _ (Heap.get?_push_of_some _ (Heap.get?_push_at (by simp [Heap.size_push]) rfl))), rfl, rfl⟩⟩, fun c hcm => ?_, q⟩
      have e' : c = s1.heap.objs.size + 4 ∨ c = s1.heap.objs.size + 2 ∨ c = s1.heap.objs.size + 3 ∨ c = s1.heap.objs.size ∨ c = s1.heap.objs.size + 1 := by simpa using hcm
      have hle : s1.heap.objs.size ≤ c := by
        rcases e' with z | z | z | z | z <;> rw [z] <;> first | exact Nat.le_refl _ | exact Nat.le_add_right _ _
      exact I1.fpOk hle (I1.hok.fresh hle)
theorem lc_zipt {K : PySem.W.Frag} {a b : Addr} {xs ys : List V} (hlen : xs.length = ys.length) {g : TG} {tt : TT} {te : TE} {vs : List Nat} {σ : St} {H1 : Hp} {D : Addr} {Qd : Hp → Prop} (Pv : Nat → Hp → Prop) (h0 : Pv 0 (upd H1 D (.lst [])))
    (hl : ∀ i H, i ≤ xs.length → Pv i H → SqT K H a xs ∧ SqT K H b ys)
    (hs : ∀ i x y T H, xs[i]? = some x → ys[i]? = some y → H T = none → Pv i H → g (.ref T) (wipe σ vs) (upd H T (.tup [x, y])) fun σ2 H2 => wipe σ2 vs = wipe σ vs ∧ tt σ2 H2 fun c H3 =>
      if c = true then te σ2 H3 fun z H4 => ∃ acc, H4 D = some (.lst acc) ∧ acc.length < sizeLine ∧ Pv (i + 1) (upd H4 D (.lst (acc ++ [z]))) else Pv (i + 1) H3) (hd : ∀ H, Pv xs.length H → Qd H) :
    ∃ W : Nat → Nat → Hp → Prop, (∃ m, W 0 m (upd H1 D (.lst []))) ∧ ∀ i m H, W i m H →
      ((Itzt K a b).stop i H ∧ Qd H) ∨ ((Itzt K a b).go i H ∧ ∃ Nx : Hp → Prop, (∀ H', Nx H' → ∃ m', m' < m ∧ W (i + 1) m' H') ∧ ∀ x H', (Itzt K a b).yld i H x H' → g x (wipe σ vs) H' fun σ2 H2 => wipe σ2 vs = wipe σ vs ∧ tt σ2 H2 fun b H3 =>
        if b = true then te σ2 H3 fun y H4 => ∃ acc, H4 D = some (.lst acc) ∧ acc.length < sizeLine ∧ Nx (upd H4 D (.lst (acc ++ [y]))) else Nx H3) := by
  refine ⟨fun i m H => m = xs.length - i ∧ i ≤ xs.length ∧ Pv i H, ⟨xs.length, by simp, Nat.zero_le _, h0⟩, ?_⟩
  rintro i m H ⟨rfl, hi, p⟩
  obtain ⟨q1, q2⟩ := hl i H hi p
  by_cases hlt : i < xs.length
  · refine .inr ⟨⟨xs, ys, xs[i], ys[i], q1, q2, by simp [hlt], by simp [← hlen, hlt]⟩, Pv (i + 1), fun H' p' => ⟨xs.length - (i + 1), by omega, rfl, hlt, p'⟩, fun v H' y => ?_⟩
    obtain ⟨T, x', y', e1, e2, e3, e4, e5⟩ := y
    subst e1 e3
    exact hs i x' y' T H (e4 xs q1) (e5 ys q2) e2 p
  · have e : i = xs.length := by omega
    subst e
    exact .inl ⟨⟨xs, q1, Nat.le_refl _⟩, hd H p⟩
end
section
variable {X : Cx}
theorem lcx_core {CX : CXT} {EX : XK} {pins : List (Addr × Obj)} {s : Shared} {σ : St} {H : Hp} {Q : VK} {elt tg iter : Expr} {ifs : List Expr} {scope : Scope} {own : List (Str × Nat)} {pos pos' : Pos} {wi : TI} {g : TG} {tt : TT} {te : TE} {use : Option (Value → Sem Unit)} {Qf : Value → Shared → Prop}
    (hc : X.calm = true) (hN : X.N.Nodup) (I : Inv X pins σ H s) (hi : PI X tg iter wi) (ok : BlkOk X.N X.env.scope scope own)
    (hg : ∀ (s : Shared) (H : Hp) (C : Addr) (cl : List (Str × Addr)) (fp : List Addr), PG (X.blk s H scope (compEnvC scope cl C X.env) fp) tg g) (ht : ∀ (s : Shared) (H : Hp) (C : Addr) (cl : List (Str × Addr)) (fp : List Addr), PTs (X.blk s H scope (compEnvC scope cl C X.env) fp) ifs tt)
    (he : ∀ (s : Shared) (H : Hp) (C : Addr) (cl : List (Str × Addr)) (fp : List Addr) (XE : Value → Shared → Prop), Passes CX ((X.blk s H scope (compEnvC scope cl C X.env) fp).wish XE) EX → PE ((X.blk s H scope (compEnvC scope cl C X.env) fp).wish XE) elt te)
    (hex : ∀ (s3 : Shared) (H3 : Hp) (cl : List (Str × Addr)) (fp : List Addr) (D : Addr), Inv X pins σ H3 s3 → (∀ b ∈ fp, FpOk X pins H3 b ∧ b < s3.heap.objs.size) →
      Passes CX ((X.blk s3 H3 scope (compEnvC scope cl s3.heap.objs.size X.env) fp).wish (fun e s' => notedBy (model X.prog X.w) X.A (compEnvC scope cl s3.heap.objs.size X.env) (fun e s' => compPost (model X.prog X.w) X.A X.xe use Qf (.ref D) s3.heap.objs.size (.error e) s') e s')) EX) (hs : ∀ x, foldedSetIterable iter X.env x = pure x)
    (h : tLc wi g tt te (own.map (·.2)) σ H Q)
    (hRR : ∀ D C s' m H', Inv X pins σ H' s' → Q (.ref D) H' → s'.heap.Ns C m → FpOk X pins H' C → compPost (model X.prog X.w) X.A X.xe use Qf (.ref D) C (.ok .next) s') :
    wpAny (model X.prog X.w) X.A (comprehension (.ListComp elt [⟨tg, iter, ifs, 0⟩] scope pos) scope X.env pos' (newList []) false (eval iter X.env) use) Qf X.xe s := by
  have hfree : ∀ y ∈ scope.names, y.2 = .free → ∃ c, X.env.cells.lookup y.1 = some c := fun y hy e => by
    rcases ok.free y hy e with k | k
    · exact I.ok.has _ (.inl k)
    · exact I.ok.has _ (.inr k)
  refine wpAny_comprehension_free (use := use) rfl hs (closure_ok hfree) ok.kind (fun y hy e => by rw [ok.uniq y hy, e])
    (thn (hi pins s σ H _ I h) fun xv s1 hx => thn hx fun itv s2 h2 => ?_)
  obtain ⟨it, fp, tn, J, H2, e, I2, T, st2, f2, q⟩ := h2
  subst e
  refine wpAny_newObj_type (newEnv_comp ?_) (by show 0 ≤ sizeLine; decide)
  generalize hD : s2.heap.objs.size = D
  have hDn : H2 D = none := I2.hok.fresh (Nat.le_of_eq hD)
  obtain ⟨W, ⟨m0, w0⟩, turn⟩ := q D hDn
  -- the new list
  generalize hs3 : ({ s2 with heap := s2.heap.push { cls := .type "list", data := .seq ([] : List Value).toArray } } : Shared) = s3
  have I3 : Inv X pins σ (upd H2 D (.lst [])) s3 := by
    rw [← hs3]
    refine I2.laid (t' := s2.toks) (fun b o e => Heap.get?_push_of_some _ e) (Nat.le_of_eq hD) ⟨Nat.zero_le _, [], 0, .nil, ?_⟩
    rw [← hD]
    exact Heap.get?_push_size _ rfl
  have h3 : s3.heap = s2.heap.push { cls := .type "list", data := .seq ([] : List Value).toArray } := by rw [← hs3]
  have sz : ∀ b ∈ fp, b < s2.heap.objs.size := fun b hb => by
    obtain ⟨o, e, _⟩ := T.obj _ _ st2 b hb
    exact Heap.lt_size e
  have f3 : ∀ b ∈ fp, FpOk X pins (upd H2 D (.lst [])) b ∧ b < s3.heap.objs.size := fun b hb => by
    have hlt := sz b hb
    refine ⟨⟨?_, (f2 b hb).2⟩, by rw [h3, Heap.size_push]; exact Nat.lt_succ_of_lt hlt⟩
    rw [upd_ne (by rw [← hD]; exact Nat.ne_of_lt hlt)]
    exact (f2 b hb).1
  have st3 : tn 0 s3.heap := T.keep _ _ _ st2 fun b _ o e => by rw [h3]; exact Heap.get?_push_of_some _ e
  have I4 := block_start I3 ok hN f3
  have pg := hg s3 (upd H2 D (.lst [])) s3.heap.objs.size (cellsFrom (s3.heap.objs.size + 1) scope.names (cloFrom X.env.cells scope.names [])) fp
  have pt := ht s3 (upd H2 D (.lst [])) s3.heap.objs.size (cellsFrom (s3.heap.objs.size + 1) scope.names (cloFrom X.env.cells scope.names [])) fp
  have pe := he s3 (upd H2 D (.lst [])) s3.heap.objs.size (cellsFrom (s3.heap.objs.size + 1) scope.names (cloFrom X.env.cells scope.names [])) fp _ (hex s3 (upd H2 D (.lst [])) (cellsFrom (s3.heap.objs.size + 1) scope.names (cloFrom X.env.cells scope.names [])) fp D I3 f3)
  show codeAny _ _ (.compStart (.ListComp elt [⟨tg, iter, ifs, 0⟩] scope pos) 0 (.ref it) (.ref D) (compEnvC scope (cellsFrom (s3.heap.objs.size + 1) scope.names (cloFrom X.env.cells scope.names [])) s3.heap.objs.size X.env)) (compPost (model X.prog X.w) X.A X.xe use Qf (.ref D) s3.heap.objs.size) { s3 with heap := pushCells (s3.heap.push { cls := .type "dict", data := .dict #[] }) scope.names }
  have nfp : ∀ b ∈ fp, (upd H2 D (.lst [])) b = none := fun b hb => (f3 b hb).1.1
  generalize hce : compEnvC scope (cellsFrom (s3.heap.objs.size + 1) scope.names (cloFrom X.env.cells scope.names [])) s3.heap.objs.size X.env = ce at I4 pg pt pe ⊢
  have cL : ce.locals = s3.heap.objs.size := by subst hce; rfl
  generalize hH3 : upd H2 D (.lst []) = H3 at I3 I4 pg pt pe w0 nfp f3
  generalize hs4 : ({ s3 with heap := pushCells (s3.heap.push { cls := .type "dict", data := .dict #[] }) scope.names } : Shared) = s4 at I4 ⊢
  have st4 : tn 0 s4.heap := T.keep _ _ _ st3 fun b _ o e => by rw [← hs4]; exact pushCells_keeps _ _ _ _ (Heap.get?_push_of_some _ e)
  have stat : ∀ {σ' : St} {H' : Hp} {s' : Shared}, Inv (X.blk s3 H3 scope ce fp) [] σ' H' s' → (∀ b ∈ fp, H' b = none) → ∀ b ∈ fp, FpOk (X.blk s3 H3 scope ce fp) [] H' b := fun {σ' H' s'} I' hn b hb =>
    ⟨hn b hb, (I'.ok.exf b hb).1, I'.ok.exfs b hb, .inl hb, fun x c e => (I'.ok.exf b hb).2 x c e, fun p hp => absurd (show p ∈ ([] : List (Addr × Obj)) ++ [] from hp) (by simp)⟩
  have loop : codeAny (model X.prog X.w) X.A (.compLoop (.ListComp elt [⟨tg, iter, ifs, 0⟩] scope pos) 0 (.ref it) (.ref D) ce) (compPost (model X.prog X.w) X.A X.xe use Qf (.ref D) s3.heap.objs.size) s4 := by
    refine compLoop_any (fun n s' => ∃ i H', Inv (X.blk s3 H3 scope ce fp) [] (wipe σ (own.map (·.2))) H' s' ∧ tn i s'.heap ∧ (∀ b ∈ fp, H' b = none) ∧ W i n H') ?_ m0 ⟨0, H3, I4, st4, nfp, w0⟩
    rintro n s5 ⟨i, H5, I5, st5, n5, w5⟩
    rcases turn i n H5 w5 with ⟨stop, qq⟩ | ⟨go, Nx, hNx, step⟩
    · have td := T.done (X.blk s3 H3 scope ce fp) rfl rfl rfl hc i [] s5 _ H5 (fun _ _ => False) I5 (stat I5 n5) st5 stop
      refine thnF td fun r s6 ⟨hr, I6⟩ => ?_
      subst hr
      -- back in the def's context
      have I7 : Inv X pins σ H5 s6 := I3.call' (ch := fp) I6.os I6.base I6.hok I6.bare fun b hb => ⟨(f3 b hb).1.2.2.2.1, (f3 b hb).1.2.1, (f3 b hb).1.2.2.2.2.1, (f3 b hb).1.2.2.2.2.2⟩
      have nC : H5 s3.heap.objs.size = none := by
        have z : H5 ce.locals = none := I6.free
        rw [cL] at z
        exact z
      obtain ⟨m, hn, _⟩ := I6.loc
      have hn : s6.heap.Ns ce.locals m := hn
      rw [cL] at hn
      exact hRR D s3.heap.objs.size s6 m H5 I7 qq hn (I3.fpOk (Nat.le_refl _) nC)
    · have ti := T.item (X.blk s3 H3 scope ce fp) rfl rfl rfl hc i [] s5 _ H5 (fun _ _ => False) I5 (stat I5 n5) st5 go
      refine thnF ti fun r s6 ⟨u, hr, h6⟩ => ?_
      subst hr
      refine thnF h6 fun _ s7 ⟨x, H7, I7, r7, y7, st7, n7⟩ => ?_
      have I7' := I7.pinned (stat I7 n7) (T.obj _ _ st7)
      refine thnF (pg _ s7 _ H7 x u _ I7' r7 (step x H7 y7)) fun _ s8 ⟨σ8, H8, I8, hw8, q8⟩ => ?_
      refine thnF (pt _ s8 σ8 H8 _ I8 q8) fun b s9 ⟨H9, I9, q9⟩ => ?_
      -- the turn's end
      have fin : ∀ {s' : Shared} {H' : Hp}, Inv (X.blk s3 H3 scope ce fp) ([] ++ pinsAt fp s7.heap) σ8 H' s' → Nx H' → ∃ m, m < n ∧ ∃ i H', Inv (X.blk s3 H3 scope ce fp) [] (wipe σ (own.map (·.2))) H' s' ∧ tn i s'.heap ∧ (∀ b ∈ fp, H' b = none) ∧ W i m H' := fun {s' H'} I' nx => by
        obtain ⟨m', hm, w'⟩ := hNx H' nx
        have pin' : ∀ b ∈ fp, ∀ o, s7.heap.get? b = some o → s'.heap.get? b = some o ∧ H' b = none := fun b hb o e =>
          let z := I'.pin (b, o) (List.mem_append_right _ (List.mem_append_right _ (mem_pinsAt hb e)))
          ⟨z.1, z.2.1⟩
        have hl : (wipe σ (own.map (·.2))).length = σ8.length := by rw [← hw8, wipe_length]
        refine ⟨m', hm, i + 1, H', (I'.unpinned (pins := [])).weak hl (fun j v e => ?_), T.keep _ _ _ st7 fun b hb o e => (pin' b hb o e).1, fun b hb => ?_, w'⟩
        · rw [← hw8] at e
          exact (wipe_some e).1
        · obtain ⟨o, e, _⟩ := T.obj _ _ st7 b hb
          exact (pin' b hb o e).2
      cases b with
      | false =>
        simp only [Bool.false_eq_true, if_false] at q9 ⊢
        exact fin I9 q9
      | true =>
        simp only [if_true] at q9 ⊢
        refine thn (pe _ s9 σ8 H9 _ (I9.wish _) q9) fun z s10 ⟨yv, H10, I10, r10, acc, hD10, hz10, nx⟩ => ?_
        exact app_ok (X := X.blk s3 H3 scope ce fp) I10.unwish hD10 hz10 r10 fun s11 I11 => fin I11 nx
  exact codeAny_compStart_list loop (T.self X.A 0 _ _ _ st4 loop)
end
end L2
namespace L2
open PySem PySem.Spec PyProof.Rows
section
variable {C : Addr} {P : Program} {w : World} {K : PySem.W.Frag} {mg : Str → Option Value} {base : Heap}
theorem Fun.okX {x qual : Str} {st : Stmt} {f : Addr} {fd : FuncData} {N ps : List Str} {k : Nat} {sp : Sp} (F : Fun K x qual st f fd) (S : FnScope N ps (defScope st)) (len : ∀ vs H Q E, sp vs H Q E → vs.length = ps.length)
    (hbody : ∀ (cdv : Value) (A : Around) (outer : List Env) (s : Shared) (H : Hp) (vs : List V) (Q : VK) (E : XK), Room k (A.deeper (envOfC qual (defScope st) s.heap.objs.size f cdv)) → sp vs H Q E →
      ∃ t, PSs (cxOf (CXN C P w) P w K mg base N qual (defScope st) f cdv A outer s H E) (defBody st) t ∧ t { nx := fun _ H' => Q .non H', rt := Q } (start N vs) H) : FnOk P w K mg base (CXN C P w) (k + 1) f fd ps sp := by
  obtain ⟨oc, od, kV, doc, pm, an, cdv, ct, osl, rfl, lk, hcd⟩ := F.ex
  exact fn_of lk hcd S len fun A outer s H vs Q E hr hsp => hbody cdv A outer s H vs Q E hr hsp
end
section
variable {C : Addr} {P : Program} {w : World} {K : PySem.W.Frag} {mg : Str → Option Value} {base : Heap} {N : List Str} {qual : Str} {scope : Scope} {f : Addr} {cd : Value} {A : Around} {outer : List Env} {s0 : Shared} {H0 : Hp} {E EX : XK}
theorem blk_pass {X : Cx} (hX : X = cxOf (CXN C P w) P w K mg base N qual scope f cd A outer s0 H0 E) (hE : ∀ H', EX (.ref C) none H' → E (.ref C) none H') {pins : List (Addr × Obj)} {σ : St} {use : Option (Value → Sem Unit)} {Qf : Value → Shared → Prop} {bsc : Scope}
    (s3 : Shared) (H3 : Hp) (cl : List (Str × Addr)) (fp : List Addr) (D : Addr) (I3 : Inv X pins σ H3 s3) (hfp : ∀ b ∈ fp, FpOk X pins H3 b ∧ b < s3.heap.objs.size) :
    Passes (CXN C P w) ((X.blk s3 H3 bsc (compEnvC bsc cl s3.heap.objs.size X.env) fp).wish (fun e s' => notedBy (model X.prog X.w) X.A (compEnvC bsc cl s3.heap.objs.size X.env) (fun e s' => compPost (model X.prog X.w) X.A X.xe use Qf (.ref D) s3.heap.objs.size (.error e) s') e s')) EX := by
  intro pins' σ' H' s' e s'' I' hcx
  obtain ⟨ea, T, H'', rfl, F, os, bare, q⟩ := hcx
  have hst : X.stack = X.env :: X.outer := by subst hX; rfl
  have hfr : X.env.frame = some X.env.locals := by subst hX; rfl
  have hs0 : X.s_0 = s0 := by subst hX; rfl
  have hlo : X.env.locals = s0.heap.objs.size := by subst hX; rfl
  have hexx : X.ex = [] := by subst hX; rfl
  have hPP : X.prog = P := by subst hX; rfl
  have hww : X.w = w := by subst hX; rfl
  have F : Fly C P w (frs X.stack) [] H' H'' s'.heap s''.heap ea T := F
  -- over the block's start
  have bu : Un (frs X.stack) fp H3 H' s3.heap s'.heap := I'.base
  have nfp : ∀ b ∈ frs X.stack, b ∉ fp := fun b hb hc => by
    rcases List.mem_cons.mp (I3.stkSub b hb) with z | z
    · exact (hfp b hc).1.2.1 z
    · exact (hfp b hc).1.2.2.1 z
  have F3 : Fly C P w (frs X.stack) fp H3 H'' s3.heap s''.heap ea T := by
    refine ⟨F.exc, bu.trans (F.un.mono (fun _ z => z) fun b z => absurd z (by simp)), F.hok, F.n1, F.n2, fun o e => ?_, fun o e => ?_⟩
    · refine Classical.byContradiction fun hc => ?_
      obtain ⟨o', e'⟩ := bu.there ea o e hc
      exact absurd (F.f1 o' e') (by simp)
    · refine Classical.byContradiction fun hc => ?_
      obtain ⟨o', e'⟩ := bu.there T o e hc
      exact absurd (F.f2 o' e') (by simp)
  obtain ⟨ff, hfs⟩ := un_frames I3 F3.un nfp
  -- the block's own names
  have hc0 : s3.heap.get? s3.heap.objs.size = none := Heap.get?_none_of_le (Nat.le_refl _)
  obtain ⟨m, ⟨oN, es, ep, gN, rN⟩, _⟩ := I'.loc
  have gN : s'.heap.get? s3.heap.objs.size = some oN := gN
  have nN' : H' s3.heap.objs.size = none := I'.free
  have nNf : s3.heap.objs.size ∉ frs X.stack := fun z => by
    obtain ⟨_, o, ho, _⟩ := I3.stack.mem z
    rw [hc0] at ho; cases ho
  have gN2 : s''.heap.get? s3.heap.objs.size = some oN := F.un.keep _ _ gN nN' nNf (by simp)
  have nN : H'' s3.heap.objs.size = none := F.un.free _ _ gN nN' (by simp)
  have neE : s3.heap.objs.size ≠ ea := fun z => absurd (F.f1 oN (by rw [← z]; exact gN)) (by simp)
  have neT : s3.heap.objs.size ≠ T := fun z => absurd (F.f2 oN (by rw [← z]; exact gN)) (by simp)
  show wpAny (model X.prog X.w) X.A (noteFrame (.ref ea) X.env) _ _ s''
  rw [hst] at F3 ff hfs
  refine F3.note hfs ff (I3.ok.frames.trans (by rw [hst])) hfr fun h4 T4 F4 ⟨b4, ff4⟩ kp4 => ?_
  have gN4 : h4.get? s3.heap.objs.size = some oN := kp4 _ _ gN2 (by rw [← hst]; exact nNf) neE neT
  have ne4 : s3.heap.objs.size ≠ ea ∧ s3.heap.objs.size ≠ T4 := by
    obtain ⟨oe, vs, oT, ts, a0, fl, ge, _, de, h1, _, gT, dT, h3⟩ := F4.exc
    refine ⟨neE, fun z => ?_⟩
    rw [← z, gN4] at gT
    cases gT
    rw [rN.1] at dT
    cases dT
  refine ⟨m, ⟨oN, es, ep, gN4, rN⟩, fun h5 sb cenv _ => ?_⟩
  -- the block's names are let go: the exception flies on
  have F5 : Fly C P w (frs (X.env :: X.outer)) fp H3 H'' s3.heap h5 ea T4 := by
    refine F4.step hfs (x := fun b => b = s3.heap.objs.size) (fun b z => by rw [z]; exact ⟨nN, hc0⟩) (fun b o _ _ _ hb e => (sb.2 b hb).trans e) (fun b o hb e => ⟨o.slots, (sb.2 b fun z => ?_).trans e⟩) ?_ (.inl rfl)
    · rw [← hst] at hb
      exact nNf (z ▸ hb)
    · obtain ⟨oe, vs, oT, ts, a0, fl, ge, ce, de, h1, hne, gT, dT, h3⟩ := F4.exc
      exact ⟨oe, vs, oT, ts, a0, fl, (sb.2 _ (Ne.symm ne4.1)).trans ge, ce, de, h1, hne, (sb.2 _ (Ne.symm ne4.2)).trans gT, dT, h3⟩
  have ff5 : h5.FunFrames b4 (X.env :: X.outer) := by
    have all : ∀ (l : List Env), (∀ b ∈ frs l, b ∈ frs X.stack) → h4.FunFrames b4 l → h5.FunFrames b4 l := by
      intro l
      induction l with
      | nil => intro _ _; trivial
      | cons env r ih =>
        intro hs hl
        obtain ⟨hk, ⟨L, o, hf, hn, ho, hd⟩, hr⟩ := hl
        have hL : L ∈ frs X.stack := hs L (by unfold frs; rw [List.filterMap_cons, hf]; exact List.mem_cons_self)
        exact ⟨hk, ⟨L, o, hf, hn, (sb.2 L fun z => nNf (z ▸ hL)).trans ho, hd⟩, ih (fun b hb => hs b (by unfold frs; rw [List.filterMap_cons, hf]; exact List.mem_cons_of_mem _ hb)) hr⟩
    exact all _ (fun b hb => by rw [hst]; exact hb) ff4
  obtain ⟨oe, vs, oT, ts, a0, fl, ge, _, de, h1, _, gT, dT, h3⟩ := id F5.exc
  unfold PySem.passOn
  refine wpAny_bind (wpAny_field (s := { s'' with heap := h5 }) ge de h1 ?_)
  have no' : ¬ (Value.ref T4 == Value.none) = true := by simp
  rw [if_neg no']
  refine wpAny_bind (F5.flight (s := { s'' with heap := h5 }) hfs ff5 fun h6 F6 _ _ => wpAny_throw ?_)
  -- out of the def
  rw [← hst] at F6
  have hch : ∀ b ∈ fp, s0.heap.objs.size < b := fun b hb => by
    obtain ⟨_, f1, _, f3, _, _⟩ := (hfp b hb).1
    rw [hexx, hs0] at f3
    rw [hlo] at f1
    rcases f3 with z | z
    · exact absurd z (by simp)
    · exact Nat.lt_of_le_of_ne z (Ne.symm f1)
  have os3 : s''.os = s3.os := os.trans I'.os
  subst hX
  exact leave_cx (s' := { s'' with heap := h6 }) I3 hch F6 os3 bare (hE _ q)
theorem pe_lcx {elt tg iter : Expr} {bsc : Scope} {own : List (Str × Nat)} {pos : Pos} {wi : TI} {g : TG} {te : TE} (EX : XK) (hE : ∀ H', EX (.ref C) none H' → E (.ref C) none H') (hN : N.Nodup)
    (hi : PI (cxOf (CXN C P w) P w K mg base N qual scope f cd A outer s0 H0 E) tg iter wi) (ok : BlkOk N scope bsc own)
    (hg : ∀ (s : Shared) (H : Hp) (C' : Addr) (cl : List (Str × Addr)) (fp : List Addr), PG ((cxOf (CXN C P w) P w K mg base N qual scope f cd A outer s0 H0 E).blk s H bsc (compEnvC bsc cl C' (cxOf (CXN C P w) P w K mg base N qual scope f cd A outer s0 H0 E).env) fp) tg g)
    (he : ∀ (s : Shared) (H : Hp) (C' : Addr) (cl : List (Str × Addr)) (fp : List Addr) (XE : Value → Shared → Prop), Passes (CXN C P w) (((cxOf (CXN C P w) P w K mg base N qual scope f cd A outer s0 H0 E).blk s H bsc (compEnvC bsc cl C' (cxOf (CXN C P w) P w K mg base N qual scope f cd A outer s0 H0 E).env) fp).wish XE) EX →
      PE (((cxOf (CXN C P w) P w K mg base N qual scope f cd A outer s0 H0 E).blk s H bsc (compEnvC bsc cl C' (cxOf (CXN C P w) P w K mg base N qual scope f cd A outer s0 H0 E).env) fp).wish XE) elt te)
    (hs : ∀ x, foldedSetIterable iter (cxOf (CXN C P w) P w K mg base N qual scope f cd A outer s0 H0 E).env x = pure x := by intro _; rfl) :
    PE (cxOf (CXN C P w) P w K mg base N qual scope f cd A outer s0 H0 E) (.ListComp elt [⟨tg, iter, [], 0⟩] bsc pos) (tLc wi g tYes te (own.map (·.2))) := by
  intro pins s σ H Q I h
  rw [eval_ListComp]
  refine lcx_core (CX := CXN C P w) (EX := EX) rfl hN I hi ok hg (fun _ _ _ _ _ => pts_nil) he (fun s3 H3 cl fp D I3 hfp => blk_pass rfl hE s3 H3 cl fp D I3 hfp) hs h fun D C' s' m H' I' q hn f => ⟨m, hn, fun h'' sb => ?_⟩
  obtain ⟨f0, f1, f2, f3, f4, f5⟩ := f
  exact ⟨.ref D, H', I'.turned (t' := s'.toks) (fun b o hb e => (sb.2 b hb).trans e) f0 f1 f3 f4 f5, rfl, q⟩
end
theorem pe_lcn {X : Cx} {elt tg iter : Expr} {scope : Scope} {own : List (Str × Nat)} {pos : Pos} {wi : TI} {g : TG} {te : TE} (hc : X.calm = true) (hN : X.N.Nodup) (hi : PI X tg iter wi) (ok : BlkOk X.N X.env.scope scope own)
    (hg : ∀ (s : Shared) (H : Hp) (C : Addr) (cl : List (Str × Addr)) (fp : List Addr), PG (X.blk s H scope (compEnvC scope cl C X.env) fp) tg g)
    (he : ∀ (s : Shared) (H : Hp) (C : Addr) (cl : List (Str × Addr)) (fp : List Addr) (XE : Value → Shared → Prop), PE ((X.blk s H scope (compEnvC scope cl C X.env) fp).wish XE) elt te) (hs : ∀ x, foldedSetIterable iter X.env x = pure x := by intro _; rfl) :
    PE X (.ListComp elt [⟨tg, iter, [], 0⟩] scope pos) (tLc wi g tYes te (own.map (·.2))) := by
  intro pins s σ H Q I h
  rw [eval_ListComp]
  refine lcx_core (CX := CX0) (EX := E0) hc hN I hi ok hg (fun _ _ _ _ _ => pts_nil) (fun s H C cl fp XE _ => he s H C cl fp XE) (fun _ _ _ _ _ _ _ => pass0) hs h fun D C' s' m H' I' q hn f => ⟨m, hn, fun h'' sb => ?_⟩
  obtain ⟨f0, f1, f2, f3, f4, f5⟩ := f
  exact ⟨.ref D, H', I'.turned (t' := s'.toks) (fun b o hb e => (sb.2 b hb).trans e) f0 f1 f3 f4 f5, rfl, q⟩
noncomputable abbrev Cx.hand (X : Cx) (v : Value) : Cx := { X with A := X.A.mark (some v), calm := false, xe := fun _ _ => False }
section
variable {X : Cx}
theorem Inv.hand {pins : List (Addr × Obj)} {σ : St} {H : Hp} {s : Shared} (I : Inv X pins σ H s) (v : Value) : Inv (X.hand v) pins σ H s :=
  ⟨⟨I.ok.mod, I.ok.kind, I.ok.glob, I.ok.blt, I.ok.above, I.ok.inj, I.ok.has, I.ok.cab, fun z => absurd (show false = true from z) Bool.false_ne_true, I.ok.frames, I.ok.stk, I.ok.exf, I.ok.bs, I.ok.bsz, I.ok.noex, I.ok.exfs, I.ok.funs, I.ok.frf⟩,
    I.os, I.bare, I.base, I.loc, I.cell, I.free, I.freeC, I.pin, I.hok, I.len⟩
theorem Inv.unhand {pins : List (Addr × Obj)} {σ : St} {H : Hp} {s : Shared} {v : Value} (ok : X.Ok) (I : Inv (X.hand v) pins σ H s) : Inv X pins σ H s := ⟨ok, I.os, I.bare, I.base, I.loc, I.cell, I.free, I.freeC, I.pin, I.hok, I.len⟩
theorem SP.unhand {pins : List (Addr × Obj)} {D : Ends} {fl : Flow} {s' : Shared} {v : Value} (ok : X.Ok) (h : SP (X.hand v) pins D fl s') : SP X pins D fl s' := by
  cases fl with
  | next => obtain ⟨σ', H', I, q⟩ := h; exact ⟨σ', H', I.unhand ok, q⟩
  | brk => obtain ⟨σ', H', I, q⟩ := h; exact ⟨σ', H', I.unhand ok, q⟩
  | cont => obtain ⟨σ', H', I, q⟩ := h; exact ⟨σ', H', I.unhand ok, q⟩
  | ret u => obtain ⟨v', σ', H', I, r, q⟩ := h; exact ⟨v', σ', H', I.unhand ok, r, q⟩
noncomputable def tTry (sp : Sp) (i : Nat) (ta : TA) (th : TS) : TS := fun D σ H => ta σ H fun vs H1 => sp vs H1 (fun v H2 => D.nx (σ.set i (some v)) H2) (fun _ _ H2 => th D σ H2)
theorem ps_try {C : Addr} {k : Nat} {f : Addr} {fd : FuncData} {ps : List Str} {sp : Sp} {i : Nat} {y fx nx : Str} {e : Expr} {es : List Expr} {ta : TA} {th : TS} {b0 : Stmt} {suite : List Stmt} {py p cpos apos np hpos tpos : Pos}
    (F : FnOk X.prog X.w X.K X.mg X.base (CXN C X.prog X.w) k f fd ps sp) (hr : Room k X.A) (hst : X.stack = X.env :: X.outer) (hfr : X.env.frame = some X.env.locals)
    (hN : X.N.Nodup) (hi : X.N[i]? = some y) (hx : Loc X.env.scope y) (hg : Gl X fx) (hm : X.mg fx = some (.ref f)) (hk : PySem.W.keepIn X.K (.ref f) = true) (hb : Binds X.K fd ps []) (ha : PA X.nox (e :: es) ta)
    (xc : XCls X.K C) (hgn : Gl X nx) (hmn : X.mg nx = some (.ref C)) (hth : ∀ v, PSs (X.hand v) (b0 :: suite) th)
    (hdb : (fx == ("__debug__" : Str)) = false := by decide) (hdn : (nx == ("__debug__" : Str)) = false := by decide) (hf : X.fn y = true ∨ X.env.scope.names.lookup y = some .local := by first | exact .inl rfl | exact .inr rfl | assumption)
    (he : starEach (e :: es) X.env = (false, eval e X.env) :: starEach es X.env := by rfl) (hpl : (backTo cpos (starEach es X.env)).any (·.1) = false := by rfl)
    (hsw : swapsWith (.Call (.Name fx p) (e :: es) [] cpos) (some (.Name y py)) apos.line X.env = pure false := by rfl) :
    PS X (.Try [.Assign [.Name y py] (.Call (.Name fx p) (e :: es) [] cpos) apos] [.ExceptHandler (some (.Name nx np)) none (b0 :: suite) hpos] [] [] tpos) (tTry sp i ta th) := by
  intro pins s σ H D I h
  refine wpAny_Try_except (wpAny_execs_cons (wpAny_Assign_Name ?_ hsw))
  refine wpAny_Call_Name_kw (ld_glob I hg hm ?_ hdb)
  refine PySem.W.callWith_K (h₀ := X.base) I.ok.mod.kin hk (thnF (ha cpos pins s σ H _ (I.wish _) h) fun us s1 ⟨vs, H1, I1, r, q⟩ => ⟨I1.kIn, ?_⟩) he hpl
  have I1 := I1.unwish
  have hl : us.length = ps.length := by rw [← r.length]; exact F.len _ _ _ _ q
  have bnd := hb s1 us I1.kIn (by rw [List.append_nil]; exact hl)
  rw [List.append_nil] at bnd
  refine wpAny_call (codeAny_mono (F.run X.A X.stack s1 H1 ⟨us, []⟩ us vs _ _ hr I1.env0 bnd r q) fun rs s' hq => ?_)
  cases rs with
  | ok fl =>
    cases fl with
    | next => exact False.elim hq
    | brk => exact False.elim hq
    | cont => exact False.elim hq
    | ret u =>
      obtain ⟨v, H2, I2, rv, q2⟩ := I1.after hq
      exact store_ok I2 hN hi hx rv (fun s3 I3 => wpAny_execs_nil (wpAny_execs_nil ⟨_, H2, I3, q2⟩)) hf
  | error x =>
    obtain ⟨ea, T, H', rfl, Fl, os, bare, qh⟩ := hq
    obtain ⟨ff, hfs⟩ := un_frames I1 Fl.un (fun b _ => by simp)
    have back : ∀ {h' : Heap} {T' : Addr}, Fly C X.prog X.w (frs X.stack) [] H1 H' s1.heap h' ea T' → Inv X pins σ H' { s' with heap := h' } := fun {h' T'} F' =>
      I1.call' (s' := { s' with heap := h' }) (ch := []) os F'.un F'.hok bare fun b z => absurd z (by simp)
    rw [hst] at Fl ff hfs
    show wpAny (model X.prog X.w) X.A (noteFrame (.ref ea) X.env) _ _ s'
    refine Fl.note hfs ff (I.ok.frames.trans (by rw [hst])) hfr fun h2 T2 F2 ⟨b2, ff2⟩ _ => ?_
    refine F2.flight (s := { s' with heap := h2 }) hfs ff2 fun h3 F3 ff3 _ => ?_
    have I3 := back (T' := T2) (by rw [hst]; exact F3)
    refine wpAny_handleBy_cons (codeAny_handlers_test (Calls.Name_function_global I3.ok.kind hgn (Calls.loadGlobal_global (by rw [I3.ok.glob]; exact I3.mod.glob.keeps I3.bk) hmn ?_) hdn)) (by intro q; cases q)
    obtain ⟨Nn, nm, qn, bs, hdct, sn, sub, ab, col, dd, k0, k1, k2, k3, k5, lk, nok, nini⟩ := xc.ex
    obtain ⟨oe, vs', oT, ts, a0, fl, ge, ce, de, h1, _, gT, dT, h3'⟩ := id F3.exc
    refine wpAny_excMatches_sub_self (I3.kIn _ _ lk) ge ce.1 PySem.F.excBase_Exception.hasBase (codeAny_handlers_suite ?_)
    refine F3.flight (s := { s' with heap := h3 }) hfs ff3 fun h4 F4 ff4 _ => ?_
    have I4 := back (T' := T2) (by rw [hst]; exact F4)
    exact thnF (hth (.ref ea) pins _ σ H' D (I4.hand _) qh) fun f' s5 q5 => q5.unhand I.ok
end
theorem for_zip {K : PySem.W.Frag} {a b : Addr} {xs ys : List V} (hlen : xs.length = ys.length) {g : TG} {tb : TS} {D : Ends} {σ : St} {H : Hp} (Pv : Nat → St → Hp → Prop) (h0 : Pv 0 σ H) (hl : ∀ i σ H, i ≤ xs.length → Pv i σ H → SqL K H a xs ∧ SqL K H b ys)
    (hs : ∀ i x y T σ H, xs[i]? = some x → ys[i]? = some y → H T = none → Pv i σ H → g (.ref T) σ (upd H T (.tup [x, y])) fun σ2 H2 => tb { D with nx := Pv (i + 1), ct := Pv (i + 1), bk := D.nx } σ2 H2) (hd : ∀ σ H, Pv xs.length σ H → D.nx σ H) :
    ∃ W : Nat → Nat → St → Hp → Prop, (∃ m, W 0 m σ H) ∧ ∀ i m σ H, W i m σ H →
      ((Itz K a b).stop i H ∧ D.nx σ H) ∨ ((Itz K a b).go i H ∧ ∃ N : St → Hp → Prop, (∀ σ' H', N σ' H' → ∃ m', m' < m ∧ W (i + 1) m' σ' H') ∧ ∀ x H', (Itz K a b).yld i H x H' → g x σ H' fun σ2 H2 => tb { D with nx := N, ct := N, bk := D.nx } σ2 H2) := by
  refine ⟨fun i m σ H => m = xs.length - i ∧ i ≤ xs.length ∧ Pv i σ H, ⟨xs.length, by simp, Nat.zero_le _, h0⟩, ?_⟩
  rintro i m σ H ⟨rfl, hi, p⟩
  obtain ⟨q1, q2⟩ := hl i σ H hi p
  by_cases hlt : i < xs.length
  · refine .inr ⟨⟨xs, ys, xs[i], ys[i], q1, q2, by simp [hlt], by simp [← hlen, hlt]⟩, Pv (i + 1), fun σ' H' p' => ⟨xs.length - (i + 1), by omega, rfl, hlt, p'⟩, fun v H' y => ?_⟩
    obtain ⟨T, x', y', e1, e2, e3, e4, e5⟩ := y
    subst e1 e3
    exact hs i x' y' T σ H (e4 xs q1) (e5 ys q2) e2 p
  · have e : i = xs.length := by omega
    subst e
    exact .inl ⟨⟨xs, ys, q1, q2, .inl (Nat.le_refl _)⟩, hd σ H p⟩
end L2
namespace Cf
open PySem PyProof.Rows
theorem nat_and_inf (x : Nat) : x &&& 9218868437227405312 = kN x * 2 ^ 52 := by
  have e : (9218868437227405312 : Nat) = 2047 <<< 52 := by decide
  have e2 : kN x * 2 ^ 52 = ((x >>> 52) &&& 2047) <<< 52 := by
    rw [Nat.shiftLeft_eq, Nat.shiftRight_eq_div_pow]
    unfold kN
    rw [show (2047 : Nat) = 2 ^ 11 - 1 from rfl, Nat.and_two_pow_sub_one_eq_mod]
  rw [e, e2]
  apply Nat.eq_of_testBit_eq
  intro i
  rw [Nat.testBit_and, Nat.testBit_shiftLeft, Nat.testBit_shiftLeft, Nat.testBit_and, Nat.testBit_shiftRight]
  by_cases h : 52 ≤ i
  · have : 52 + (i - 52) = i := by omega
    rw [this]
    cases x.testBit i <;> cases Nat.testBit 2047 (i - 52) <;> simp [h]
  · simp [h]
theorem nat_and_frac (x : Nat) : x &&& 4503599627370495 = x % 2 ^ 52 := Nat.and_two_pow_sub_one_eq_mod x 52
theorem nat_and_sign (x : Nat) : x &&& 9223372036854775808 = (x.testBit 63).toNat * 2 ^ 63 := by
  have e : (9223372036854775808 : Nat) = 2 ^ 63 := by decide
  rw [e]
  apply Nat.eq_of_testBit_eq
  intro i
  rw [Nat.testBit_and, Nat.testBit_two_pow]
  by_cases h : 63 = i
  · subst h
    cases x.testBit 63 <;> decide
  · rw [decide_eq_false h, Bool.and_false]
    cases x.testBit 63 with
    | false => simp
    | true =>
      rw [Bool.toNat_true, Nat.one_mul, Nat.testBit_two_pow, decide_eq_false h]
theorem bit63 {x : Nat} (h : x < 2 ^ 64) : x.testBit 63 = Sn42.negative x := by
  unfold Sn42.negative
  rw [Nat.testBit_eq_decide_div_mod_eq]
  have : x / 2 ^ 63 % 2 = 1 ↔ 2 ^ 63 ≤ x := by omega
  exact decide_eq_decide.mpr this
theorem sign_toNat (b : Bool) : b.toNat * 2 ^ 63 = Sn42.signBit b := by cases b <;> rfl
theorem and_inf (x : Nat) : Builtin.bitAnd (x : Int) 9218868437227405312 = ((kN x * 2 ^ 52 : Nat) : Int) := by
  rw [bitAnd_pp (by omega) (by decide)]
  rw [Int.toNat_natCast]
  exact congrArg _ (nat_and_inf x)
theorem and_frac (x : Nat) : Builtin.bitAnd (x : Int) 4503599627370495 = ((x % 2 ^ 52 : Nat) : Int) := by
  rw [bitAnd_pp (by omega) (by decide)]
  rw [Int.toNat_natCast]
  exact congrArg _ (nat_and_frac x)
theorem or_hid (x : Nat) (h : x < 2 ^ 52) : Builtin.bitOr (x : Int) 4503599627370496 = ((x + 2 ^ 52 : Nat) : Int) := by
  have := Bits.bitOr_join (a := (x : Int)) (b := 1) (k := 52) (by omega) (by omega) (by decide)
  rw [show (1 : Int) * 2 ^ 52 = 4503599627370496 from rfl] at this
  rw [this]
  omega
theorem and_sign {x : Nat} (h : x < 2 ^ 64) : Builtin.bitAnd (x : Int) 9223372036854775808 = ((sgn x : Nat) : Int) := by
  rw [bitAnd_pp (by omega) (by decide)]
  rw [Int.toNat_natCast]
  refine congrArg _ ?_
  show x &&& 9223372036854775808 = sgn x
  rw [nat_and_sign, bit63 h, sign_toNat]
  rfl
theorem xor_low {y : Nat} (h : y < 2 ^ 63) : y ^^^ 2 ^ 63 = 2 ^ 63 + y := by
  have e : 2 ^ 63 + y = 2 ^ 63 ||| y := by
    have z := Nat.two_pow_add_eq_or_of_lt h 1
    rwa [Nat.mul_one] at z
  rw [e]
  apply Nat.eq_of_testBit_eq
  intro i
  rw [Nat.testBit_xor, Nat.testBit_or, Nat.testBit_two_pow]
  by_cases hi : 63 = i
  · subst hi
    rw [Nat.testBit_lt_two_pow h]
    rfl
  · rw [decide_eq_false hi]
    cases y.testBit i <;> rfl
theorem xor_sign {x : Nat} (h : x < 2 ^ 64) : Builtin.bitXor (x : Int) 9223372036854775808 = ((Sn42.opposite x : Nat) : Int) := by
  rw [Bits.bitXor_pp (by omega) (by decide)]
  rw [Int.toNat_natCast]
  refine congrArg _ ?_
  show x ^^^ 2 ^ 63 = Sn42.opposite x
  unfold Sn42.opposite
  by_cases hn : Sn42.negative x = true
  · rw [if_pos hn]
    unfold Sn42.negative at hn
    have hn : 2 ^ 63 ≤ x := of_decide_eq_true hn
    obtain ⟨y, rfl⟩ : ∃ y, x = 2 ^ 63 + y := ⟨x - 2 ^ 63, by omega⟩
    have hy : y < 2 ^ 63 := by omega
    rw [← xor_low hy, Nat.xor_assoc, Nat.xor_self, Nat.xor_zero]
    show y = ((y ^^^ 2 ^ 63) - 2 ^ 63 : Nat)
    rw [xor_low hy, Nat.add_sub_cancel_left]
  · rw [if_neg hn]
    unfold Sn42.negative at hn
    have hy : x < 2 ^ 63 := by simpa using hn
    rw [xor_low hy, Nat.add_comm]
theorem xor_and_sign {x y : Nat} (hx : x < 2 ^ 64) (hy : y < 2 ^ 64) : Builtin.bitAnd (Builtin.bitXor (x : Int) (y : Int)) 9223372036854775808 = ((Sn42.signBit (Sn42.negative x != Sn42.negative y) : Nat) : Int) := by
  rw [Bits.bitXor_pp (by omega) (by omega), Int.toNat_natCast, Int.toNat_natCast, bitAnd_pp (by omega) (by decide), Int.toNat_natCast]
  refine congrArg _ ?_
  show (x ^^^ y) &&& 9223372036854775808 = _
  rw [nat_and_sign, Nat.testBit_xor, bit63 hx, bit63 hy, sign_toNat]
theorem and_and_sign {x y : Nat} (hx : x < 2 ^ 64) (hy : y < 2 ^ 64) : Builtin.bitAnd (Builtin.bitAnd (x : Int) (y : Int)) 9223372036854775808 = (((if Sn42.negative x = true ∧ Sn42.negative y = true then 2 ^ 63 else 0 : Nat)) : Int) := by
  rw [bitAnd_pp (x := (x : Int)) (by omega) (by omega), Int.toNat_natCast, Int.toNat_natCast, bitAnd_pp (by omega) (by decide), Int.toNat_natCast]
  refine congrArg _ ?_
  show (x &&& y) &&& 9223372036854775808 = _
  rw [nat_and_sign, Nat.testBit_and, bit63 hx, bit63 hy]
  cases Sn42.negative x <;> cases Sn42.negative y <;> rfl
theorem or_bits {sg b : Nat} (hs : sg = 0 ∨ sg = 2 ^ 63) (hb : b < 2 ^ 63) : Builtin.bitOr (sg : Int) (b : Int) = ((sg + b : Nat) : Int) := by
  rcases hs with rfl | rfl
  · have := Bits.bitOr_join' (a := (b : Int)) (b := 0) (k := 63) (by omega) (by omega) (by decide)
    rw [Int.zero_mul] at this
    rw [show (((0 : Nat)) : Int) = 0 from rfl, this]
    omega
  · have := Bits.bitOr_join' (a := (b : Int)) (b := 1) (k := 63) (by omega) (by omega) (by decide)
    rw [show (((2 ^ 63 : Nat)) : Int) = 1 * 2 ^ 63 from rfl, this]
    omega
theorem or_one_int (m : Nat) : Builtin.bitOr (m : Int) 1 = ((m ||| 1 : Nat) : Int) := by
  rw [Bits.bitOr_pp (by omega) (by decide), Int.toNat_natCast]
  rfl
theorem sgn_cases (x : Nat) : sgn x = 0 ∨ sgn x = 2 ^ 63 := by
  unfold sgn Sn42.signBit
  split
  · exact .inr rfl
  · exact .inl rfl
theorem signBit_cases (b : Bool) : Sn42.signBit b = 0 ∨ Sn42.signBit b = 2 ^ 63 := by cases b <;> simp [Sn42.signBit]
theorem finite_eq (x : Nat) : (!decide ((((kN x * 2 ^ 52 : Nat)) : Int) = 9218868437227405312)) = Sn42.finite x := by
  unfold Sn42.finite kN
  have : ((((x / 2 ^ 52 % 2048) * 2 ^ 52 : Nat) : Int) = 9218868437227405312) ↔ (x / 2 ^ 52 % 2048 = 2047) := by omega
  rw [decide_eq_decide.mpr this]
  rfl
theorem bits_int (m : Nat) (h : m ≠ 0) : Builtin.Int.intBits (m : Int) = m.log2 + 1 := by
  unfold Builtin.Int.intBits
  rw [if_neg (by simpa using h)]
  rfl
end Cf
namespace Cf
open PySem L2
noncomputable def top (i : Nat) : Stmt := PySem.Challenge.pw_cellflow_s01_answers.main.body.getD i (.Pass ⟨0, 0, 0, 0⟩)
noncomputable abbrev sFin : Stmt := top 15
noncomputable abbrev sExp : Stmt := top 16
noncomputable abbrev sMan : Stmt := top 17
noncomputable abbrev sRnd : Stmt := top 18
noncomputable abbrev sOpp : Stmt := top 19
noncomputable abbrev sAdd : Stmt := top 20
noncomputable abbrev sSub : Stmt := top 21
noncomputable abbrev sMul : Stmt := top 22
noncomputable abbrev sDiv : Stmt := top 23
noncomputable def G (mg : Str → Option Value) (x : Str) (v : V) : Prop := ∃ u, mg x = some u ∧ RelV v u
theorem pgl {X : Cx} {x : Str} {v : V} {pos : Pos} (h : G X.mg x v) (hg : Gl X x := by rfl) (hd : (x == ("__debug__" : Str)) = false := by decide) : PE X (.Name x pos) (tC v) :=
  let ⟨_, hm, r⟩ := h
  pe_glob hg hm r hd
structure Ints (mg : Str → Option Value) : Prop where
  zero : G mg "ZERO" (.int 0)
  half : G mg "HALF" (.int 4602678819172646912)
  one : G mg "ONE" (.int 4607182418800017408)
  oah : G mg "ONE_AND_A_HALF" (.int 4609434218613702656)
  three : G mg "THREE" (.int 4613937818241073152)
  sign : G mg "SIGN" (.int 9223372036854775808)
  inf : G mg "INFINITY" (.int 9218868437227405312)
  frac : G mg "FRACTION" (.int 4503599627370495)
  hid : G mg "HIDDEN_BIT" (.int 4503599627370496)
  fb : G mg "FRACTION_BITS" (.int 52)
  mb : G mg "MANTISSA_BITS" (.int 53)
  eo : G mg "EXPONENT_OF_ONE" (.int 1074)
  qb : G mg "QUOTIENT_BITS" (.int 110)
noncomputable abbrev nI (x : Nat) : V := .int (x : Int)
noncomputable abbrev D64 (x : Nat) : Prop := x < 2 ^ 64
noncomputable def res (C : Addr) (o : Option Nat) (H : Hp) (Q : VK) (E : XK) : Prop := match o with
  | some r => Q (nI r) H
  | none => E (.ref C) none H
section
variable {P : Program} {w : World} {K : PySem.W.Frag} {mg : Str → Option Value} {base : Heap} {C : Addr}
noncomputable def spFin : Sp := fun vs H Q _ => ∃ x, vs = [nI x] ∧ Q (.bl (Sn42.finite x)) H
theorem scFin : FnScope ["x"] ["x"] (defScope sFin) := ⟨rfl, rfl, rfl, by decide +kernel, rfl, by decide +kernel, by decide +kernel⟩
theorem ok_fin {f : Addr} {fd : FuncData} (F : Fun K "is_finite" "is_finite" sFin f fd) (N : Ints mg) : FnOk P w K mg base (CXN C P w) 1 f fd ["x"] spFin := by
  refine F.okX scFin (fun vs H Q E h => ?_) (fun cdv A outer s H vs Q E hr h => ?_)
  · obtain ⟨x, rfl, _⟩ := h
    rfl
  · obtain ⟨x, rfl, k⟩ := h
    refine ⟨_, pss_one (ps_ret (pe_cmpR op_ne (pe_op op_and (pv 0) (pgl N.inf)) (pgl N.inf) (nomark _))), ?_⟩
    refine ⟨_, rfl, _, _, rfl, rfl, rfl, ?_⟩
    show Q (.bl (!decide (V.int (Builtin.bitAnd (x : Int) 9218868437227405312) = V.int 9218868437227405312))) H
    rw [and_inf]
    have e : (V.int ((kN x * 2 ^ 52 : Nat) : Int) = V.int 9218868437227405312) ↔ (((kN x * 2 ^ 52 : Nat) : Int) = 9218868437227405312) := ⟨fun z => by injection z, fun z => by rw [z]⟩
    rw [decide_eq_decide.mpr e, finite_eq]
    exact k
noncomputable def spExp : Sp := fun vs H Q _ => ∃ x, vs = [nI x] ∧ Q (nI (exN x)) H
theorem scExp : FnScope ["x"] ["x"] (defScope sExp) := ⟨rfl, rfl, rfl, by decide +kernel, rfl, by decide +kernel, by decide +kernel⟩
theorem vint {i j : Int} : (V.int i = V.int j) ↔ i = j := ⟨fun z => by injection z, fun z => by rw [z]⟩
theorem ok_exp {f : Addr} {fd : FuncData} (F : Fun K "exponent" "exponent" sExp f fd) (N : Ints mg) : FnOk P w K mg base (CXN C P w) 1 f fd ["x"] spExp := by
  refine F.okX scExp (fun vs H Q E h => ?_) (fun cdv A outer s H vs Q E hr h => ?_)
  · obtain ⟨x, rfl, _⟩ := h
    rfl
  · obtain ⟨x, rfl, k⟩ := h
    refine ⟨_, pss_cons (ps_if (pt_cmpR op_eq (pe_op op_and (pv 0) (pgl N.inf)) pe_int (nomark _)) (pss_one (ps_ret pe_int)) pss_nil)
      (pss_one (ps_ret (pe_op op_sub (pe_op op_shr (pe_op op_and (pv 0) (pgl N.inf)) (pgl N.fb)) pe_int))), ?_⟩
    refine ⟨_, rfl, _, _, rfl, rfl, rfl, _, rfl, ?_⟩
    have e : decide (V.int (Builtin.bitAnd (x : Int) 9218868437227405312) = V.int 0) = decide (kN x = 0) := by
      rw [and_inf]
      exact decide_eq_decide.mpr (vint.trans (by omega))
    show if decide (V.int (Builtin.bitAnd (x : Int) 9218868437227405312) = V.int 0) = true then _ else _
    rw [e]
    refine ite2 (fun hk => ?_) (fun hk => ?_)
    · have hk := of_decide_eq_true hk
      show Q (.int 0) H
      have : exN x = 0 := by unfold exN; rw [if_pos hk]
      rw [this] at k
      exact k
    · have hk : ¬ kN x = 0 := fun z => hk (decide_eq_true z)
      refine ⟨_, rfl, _, _, rfl, rfl, _, _, rfl, rfl, (by show (0 : Int) ≤ 52; decide), _, _, rfl, rfl, ?_⟩
      show Q (.int (Builtin.bitAnd (x : Int) 9218868437227405312 / 2 ^ (52 : Int).toNat - 1)) H
      have e2 : Builtin.bitAnd (x : Int) 9218868437227405312 / 2 ^ (52 : Int).toNat - 1 = (exN x : Int) := by
        rw [and_inf]
        unfold exN
        rw [if_neg hk]
        show ((kN x * 2 ^ 52 : Nat) : Int) / 4503599627370496 - 1 = _
        omega
      rw [e2]
      exact k
end
end Cf
namespace Cf
open PySem L2
section
variable {P : Program} {w : World} {K : PySem.W.Frag} {mg : Str → Option Value} {base : Heap} {C : Addr}
noncomputable def spMan : Sp := fun vs H Q _ => ∃ x, vs = [nI x] ∧ Q (nI (maN x)) H
theorem scMan : FnScope ["x"] ["x"] (defScope sMan) := ⟨rfl, rfl, rfl, by decide +kernel, rfl, by decide +kernel, by decide +kernel⟩
theorem ok_man {f : Addr} {fd : FuncData} (F : Fun K "mantissa" "mantissa" sMan f fd) (N : Ints mg) : FnOk P w K mg base (CXN C P w) 1 f fd ["x"] spMan := by
  refine F.okX scMan (fun vs H Q E h => ?_) (fun cdv A outer s H vs Q E hr h => ?_)
  · obtain ⟨x, rfl, _⟩ := h
    rfl
  · obtain ⟨x, rfl, k⟩ := h
    refine ⟨_, pss_cons (ps_if (pt_cmpR op_eq (pe_op op_and (pv 0) (pgl N.inf)) pe_int (nomark _)) (pss_one (ps_ret (pe_op op_and (pv 0) (pgl N.frac)))) pss_nil)
      (pss_one (ps_ret (pe_op op_or (pe_op op_and (pv 0) (pgl N.frac)) (pgl N.hid)))), ?_⟩
    refine ⟨_, rfl, _, _, rfl, rfl, rfl, _, rfl, ?_⟩
    have e : decide (V.int (Builtin.bitAnd (x : Int) 9218868437227405312) = V.int 0) = decide (kN x = 0) := by
      rw [and_inf]
      exact decide_eq_decide.mpr (vint.trans (by omega))
    show if decide (V.int (Builtin.bitAnd (x : Int) 9218868437227405312) = V.int 0) = true then _ else _
    rw [e]
    refine ite2 (fun hk => ?_) (fun hk => ?_)
    · have hk := of_decide_eq_true hk
      refine ⟨_, rfl, _, _, rfl, rfl, ?_⟩
      show Q (.int (Builtin.bitAnd (x : Int) 4503599627370495)) H
      have : maN x = x % 2 ^ 52 := by unfold maN; rw [if_pos hk]
      rw [and_frac, ← this]
      exact k
    · have hk : ¬ kN x = 0 := fun z => hk (decide_eq_true z)
      refine ⟨_, rfl, _, _, rfl, rfl, _, _, rfl, rfl, ?_⟩
      show Q (.int (Builtin.bitOr (Builtin.bitAnd (x : Int) 4503599627370495) 4503599627370496)) H
      have : maN x = x % 2 ^ 52 + 2 ^ 52 := by unfold maN; rw [if_neg hk]
      rw [and_frac, or_hid _ (Nat.mod_lt _ (by decide)), ← this]
      exact k
noncomputable def spOpp : Sp := fun vs H Q _ => ∃ x, vs = [nI x] ∧ D64 x ∧ Q (nI (Sn42.opposite x)) H
theorem scOpp : FnScope ["x"] ["x"] (defScope sOpp) := ⟨rfl, rfl, rfl, by decide +kernel, rfl, by decide +kernel, by decide +kernel⟩
theorem ok_opp {f : Addr} {fd : FuncData} (F : Fun K "opposite" "opposite" sOpp f fd) (N : Ints mg) : FnOk P w K mg base (CXN C P w) 1 f fd ["x"] spOpp := by
  refine F.okX scOpp (fun vs H Q E h => ?_) (fun cdv A outer s H vs Q E hr h => ?_)
  · obtain ⟨x, rfl, _⟩ := h
    rfl
  · obtain ⟨x, rfl, hx, k⟩ := h
    refine ⟨_, pss_one (ps_ret (pe_op op_xor (pv 0) (pgl N.sign))), ?_⟩
    refine ⟨_, rfl, _, _, rfl, rfl, ?_⟩
    show Q (.int (Builtin.bitXor (x : Int) 9223372036854775808)) H
    rw [xor_sign hx]
    exact k
noncomputable def spRnd (C : Addr) : Sp := fun vs H Q E => ∃ (sg m : Nat) (p : Int), vs = [nI sg, nI m, .int p] ∧ (sg = 0 ∨ sg = 2 ^ 63) ∧ (-100000 ≤ p ∧ p ≤ 100000) ∧ m.log2 < 10000 ∧ res C (rnd sg m p) H Q E
theorem scRnd : FnScope ["sign", "whole", "power", "spare", "half", "odd", "kept", "bits"] ["sign", "whole", "power"] (defScope sRnd) := ⟨rfl, rfl, rfl, by decide +kernel, rfl, by decide +kernel, by decide +kernel⟩
theorem spare_le (m : Nat) (p : Int) (h1 : -100000 ≤ p) (h2 : p ≤ 100000) (hm : m.log2 < 10000) : -100000 ≤ spareOf m p ∧ spareOf m p ≤ 200000 ∧ 0 ≤ p + spareOf m p ∧ p + spareOf m p ≤ 300000 ∧ (spareOf m p ≤ 0 → m.log2 + 1 ≤ 53) := by
  unfold spareOf
  split <;> omega
theorem kept_le (m : Nat) (p : Int) (hm : m ≠ 0) : keptOf m (spareOf m p) ≤ 2 ^ 53 := by
  rw [kept_eq]
  exact (nOf_bounds m p false hm).1
theorem ok_rnd {f : Addr} {fd : FuncData} (F : Fun K "rounded" "rounded" sRnd f fd) (N : Ints mg) (xc : XCls K C) (hC : mg "NotFinite" = some (.ref C)) : FnOk P w K mg base (CXN C P w) 1 f fd ["sign", "whole", "power"] (spRnd C) := by
  refine F.okX scRnd (fun vs H Q E h => ?_) (fun cdv A outer s H vs Q E hr h => ?_)
  · obtain ⟨sg, m, p, rfl, _⟩ := h
    rfl
  · obtain ⟨sg, m, p, rfl, hsg, ⟨hp1, hp2⟩, hlog, k⟩ := h
    by_cases hm : m = 0
    · subst hm
      refine ⟨_, pss_cons (ps_if (pt_cmpR op_eq (pv 1) pe_int (nomark _)) (pss_one (ps_ret (pv 0))) pss_nil) pss_never, ?_⟩
      refine ⟨_, rfl, rfl, _, rfl, ?_⟩
      refine iteT ⟨_, rfl, ?_⟩
      have e : rnd sg 0 p = some sg := by unfold rnd; rw [if_pos rfl]
      rw [e] at k
      exact k
    obtain ⟨hs1, hs2, hs3, hs4, hs5⟩ := spare_le m p hp1 hp2 hlog
    have hkb := kept_le m p hm
    have hrn : rnd sg m p = if 9218868437227405312 ≤ bitsOf m p then none else some (sg + (bitsOf m p).toNat) := by unfold rnd; rw [if_neg hm]
    rw [hrn] at k
    have hbo : bitsOf m p = (p + spareOf m p) * 4503599627370496 + (keptOf m (spareOf m p) : Nat) := rfl
    generalize hsp : spareOf m p = sp at hs1 hs2 hs3 hs4 hs5 hkb hbo
    generalize hkp : keptOf m sp = kp at hkb hbo
    -- bits = ..; if bits >= INFINITY: raise; return sign | bits
    have tail : ∃ t, PSs (cxOf (CXN C P w) P w K mg base ["sign", "whole", "power", "spare", "half", "odd", "kept", "bits"] "rounded" (defScope sRnd) f cdv A outer s H E) ((defBody sRnd).drop 4) t ∧
        ∀ a b : Option V, t { nx := fun _ H' => Q .non H', rt := Q } [some (nI sg), some (nI m), some (.int p), some (.int sp), a, b, some (nI kp), none] H := by
      refine ⟨_, pss_cons (ps_set (i := 7) scRnd.nd rfl (Or.inl rfl) (pe_op op_add (pe_op op_shl (pe_op op_add (pv 2) (pv 3)) (pgl N.fb)) (pv 6)))
        (pss_cons (ps_if (pt_cmpR op_ge (pv 7) (pgl N.inf) (nomark _)) (pss_one (ps_raise xc hC rfl)) pss_nil) (pss_one (ps_ret (pe_op op_or (pv 0) (pv 7))))), fun a b => ?_⟩
      refine ⟨_, rfl, _, rfl, _, _, rfl, rfl, _, _, rfl, rfl, ⟨by show (0 : Int) ≤ 52; decide, by show (52 : Int) ≤ 1000000; decide, ?_⟩, _, rfl, _, _, rfl, rfl, _, rfl, _, _, rfl, rfl, _, rfl, ?_⟩
      · show (p + sp).natAbs < 2 ^ 64
        omega
      · show if decide ((9218868437227405312 : Int) ≤ (p + sp) * 2 ^ (52 : Int).toNat + (kp : Int)) = true then _ else _
        have eb : (p + sp) * 2 ^ (52 : Int).toNat + (kp : Int) = bitsOf m p := by rw [hbo]; rfl
        rw [eb]
        refine ite2 (fun hk => ?_) (fun hk => ?_)
        · rw [if_pos (of_decide_eq_true hk)] at k
          exact k
        · have hk : ¬ (9218868437227405312 ≤ bitsOf m p) := fun z => hk (decide_eq_true z)
          rw [if_neg hk] at k
          refine ⟨_, rfl, _, rfl, _, _, rfl, rfl, ?_⟩
          show Q (.int (Builtin.bitOr (sg : Int) ((p + sp) * 2 ^ (52 : Int).toNat + (kp : Int)))) H
          rw [eb]
          have e0 : bitsOf m p = ((bitsOf m p).toNat : Int) := by omega
          have e1 := or_bits (b := (bitsOf m p).toNat) hsg (by omega)
          rw [← e0] at e1
          rw [e1]
          exact k
    obtain ⟨t4, h4, q4⟩ := tail
    refine ⟨_, pss_cons (ps_if (pt_cmpR op_eq (pv 1) pe_int (nomark _)) (pss_one (ps_ret (pv 0))) pss_nil)
      (pss_cons (ps_set (i := 3) scRnd.nd rfl (Or.inl rfl) (pe_op op_sub (pe_bits (pv 1)) (pgl N.mb)))
      (pss_cons (ps_if (pt_cmpR op_lt (pv 3) (pe_un un_neg (pv 2)) (nomark _)) (pss_one (ps_set (i := 3) scRnd.nd rfl (Or.inl rfl) (pe_un un_neg (pv 2)))) pss_nil)
      (pss_cons (ps_if (pt_cmpR op_gt (pv 3) pe_int (nomark _))
        (pss_cons (ps_set (i := 4) scRnd.nd rfl (Or.inl rfl) (pe_op op_shl pe_int (pe_op op_sub (pv 3) pe_int)))
          (pss_cons (ps_set (i := 5) scRnd.nd rfl (Or.inl rfl) (pe_op op_and (pe_op op_shr (pv 1) (pv 3)) pe_int))
          (pss_one (ps_set (i := 6) scRnd.nd rfl (Or.inl rfl) (pe_op op_shr (pe_op op_add (pe_op op_sub (pe_op op_add (pv 1) (pv 4)) pe_int) (pv 5)) (pv 3))))))
        (pss_one (ps_set (i := 6) scRnd.nd rfl (Or.inl rfl) (pe_op op_shl (pv 1) (pe_un un_neg (pv 3)))))) h4))), ?_⟩
    refine ⟨_, rfl, rfl, _, rfl, ?_⟩
    have em : decide (V.int (m : Int) = V.int 0) = false := decide_eq_false fun z => hm (by have := vint.mp z; omega)
    show if decide (V.int (m : Int) = V.int 0) = true then _ else _
    rw [em]
    refine iteF ?_
    -- spare
    refine ⟨_, rfl, rfl, _, rfl, rfl, _, _, rfl, rfl, ?_⟩
    refine ⟨_, rfl, _, rfl, _, rfl, _, _, rfl, rfl, _, rfl, ?_⟩
    rw [bits_int m hm]
    -- spare is sp
    have next : ∀ σ3 : St, σ3 = [some (nI sg), some (nI m), some (.int p), some (.int sp), none, none, none, none] →
        (tIfS (tTest (tOp (rI0 fun i j => V.bl (decide (j < i))) (tVar 3) (tC (.int 0)))) (tSeq (tAsg (tOp (rI CPow fun i j => V.int (i * 2 ^ j.toNat)) (tC (.int 1)) (tOp (rI0 fun i j => V.int (i - j)) (tVar 3) (tC (.int 1)))) (gName 4))
          (tSeq (tAsg (tOp (rI0 fun i j => V.int (Builtin.bitAnd i j)) (tOp (rI (fun _ j => 0 ≤ j) fun i j => V.int (i / 2 ^ j.toNat)) (tVar 1) (tVar 3)) (tC (.int 1))) (gName 5))
            (tAsg (tOp (rI (fun _ j => 0 ≤ j) fun i j => V.int (i / 2 ^ j.toNat)) (tOp (rI0 fun i j => V.int (i + j)) (tOp (rI0 fun i j => V.int (i - j)) (tOp (rI0 fun i j => V.int (i + j)) (tVar 1) (tVar 4)) (tC (.int 1))) (tVar 5)) (tVar 3)) (gName 6))))
          (tAsg (tOp (rI CPow fun i j => V.int (i * 2 ^ j.toNat)) (tVar 1) (tUn (rU fun i => V.int (-i)) (tVar 3))) (gName 6))) { nx := t4 { nx := fun _ H' => Q .non H', rt := Q }, rt := Q } σ3 H := by
      rintro σ3 rfl
      refine ⟨_, rfl, _, _, rfl, rfl, _, rfl, ?_⟩
      show if decide ((0 : Int) < sp) = true then _ else _
      refine ite2 (fun hk => ?_) (fun hk => ?_)
      · have hk := of_decide_eq_true hk
        obtain ⟨d, rfl⟩ : ∃ d : Nat, sp = (d : Int) := ⟨sp.toNat, by omega⟩
        refine ⟨_, rfl, _, _, rfl, rfl, _, _, rfl, rfl, ⟨by show (0 : Int) ≤ (d : Int) - 1; omega, by show (d : Int) - 1 ≤ 1000000; omega, by decide⟩, ?_⟩
        refine ⟨_, rfl, _, rfl, _, _, rfl, rfl, by show (0 : Int) ≤ (d : Int); omega, _, _, rfl, rfl, ?_⟩
        refine ⟨_, rfl, _, rfl, _, _, rfl, rfl, _, _, rfl, rfl, _, rfl, _, _, rfl, rfl, _, rfl, _, _, rfl, rfl, by show (0 : Int) ≤ (d : Int); omega, ?_⟩
        have e1 : (1 : Int) * 2 ^ ((d : Int) - 1).toNat = ((2 ^ (d - 1) : Nat) : Int) := by
          rw [Int.one_mul, Int.natCast_pow]
          have : ((d : Int) - 1).toNat = d - 1 := by omega
          rw [this]
          rfl
        have e2 : Builtin.bitAnd ((m : Int) / 2 ^ ((d : Int)).toNat) 1 = ((m / 2 ^ d % 2 : Nat) : Int) := by
          rw [Int.toNat_natCast, show ((2 : Int) ^ d) = ((2 ^ d : Nat) : Int) from (Int.natCast_pow 2 d).symm, ← Int.natCast_ediv, PyProof.Rows.bitAnd_m1]
          omega
        have e3 : ((m : Int) + (1 : Int) * 2 ^ ((d : Int) - 1).toNat - 1 + Builtin.bitAnd ((m : Int) / 2 ^ ((d : Int)).toNat) 1) / 2 ^ ((d : Int)).toNat = ((kp : Nat) : Int) := by
          rw [e1, e2, ← hkp]
          unfold keptOf
          rw [if_pos hk, Int.toNat_natCast, show ((2 : Int) ^ d) = ((2 ^ d : Nat) : Int) from (Int.natCast_pow 2 d).symm]
          have hpp : 0 < 2 ^ (d - 1) := Nat.two_pow_pos _
          have e4 : (m : Int) + ((2 ^ (d - 1) : Nat) : Int) - 1 + ((m / 2 ^ d % 2 : Nat) : Int) = ((m + 2 ^ (d - 1) - 1 + m / 2 ^ d % 2 : Nat) : Int) := by omega
          rw [e4, ← Int.natCast_ediv]
        have q := q4 (some (V.int ((1 : Int) * 2 ^ ((d : Int) - 1).toNat))) (some (V.int (Builtin.bitAnd ((m : Int) / 2 ^ ((d : Int)).toNat) 1)))
        rw [show some (nI kp) = _ from congrArg (fun z => some (V.int z)) e3.symm] at q
        exact q
      · have hk : ¬ (0 < sp) := fun z => hk (decide_eq_true z)
        refine ⟨_, rfl, _, rfl, _, rfl, _, _, rfl, rfl, ⟨by show (0 : Int) ≤ -sp; omega, by show -sp ≤ 1000000; omega, ?_⟩, ?_⟩
        · show (m : Int).natAbs < 2 ^ 64
          have h1 := mul_lt_53 m hm 0 (by have := hs5 (by omega); omega)
          rw [Nat.pow_zero, Nat.mul_one] at h1
          omega
        · have e3 : (m : Int) * 2 ^ (-sp).toNat = ((kp : Nat) : Int) := by
            rw [← hkp]
            unfold keptOf
            rw [if_neg hk, Int.natCast_mul, Int.natCast_pow]
            rfl
          have q := q4 none none
          rw [show some (nI kp) = _ from congrArg (fun z => some (V.int z)) e3.symm] at q
          exact q
    show if decide ((((m.log2 + 1 : Nat) : Int)) - 53 < -p) = true then _ else _
    refine ite2 (fun hk => ?_) (fun hk => ?_)
    · refine ⟨_, rfl, _, rfl, ?_⟩
      refine next _ ?_
      have : -p = sp := by
        rw [← hsp]
        unfold spareOf
        rw [if_pos (of_decide_eq_true hk)]
      rw [← this]
      rfl
    · refine next _ ?_
      have : (((m.log2 + 1 : Nat) : Int)) - 53 = sp := by
        rw [← hsp]
        unfold spareOf
        rw [if_neg fun z => hk (decide_eq_true z)]
      rw [← this]
      rfl
end
end Cf
namespace Cf
open PySem L2
structure Ok (P : Program) (w : World) (K : PySem.W.Frag) (mg : Str → Option Value) (base : Heap) (C : Addr) (k : Nat) (x : Str) (ps : List Str) (sp : Sp) : Prop where
  ex : ∃ f fd, FnOk P w K mg base (CXN C P w) k f fd ps sp ∧ mg x = some (.ref f) ∧ PySem.W.keepIn K (.ref f) = true ∧ Binds K fd ps []
theorem pcall {X : Cx} {C : Addr} {k : Nat} {x : Str} {ps : List Str} {sp : Sp} {E : XK} {p pos : Pos} {e : Expr} {es : List Expr} {t : TA} (O : Ok X.prog X.w X.K X.mg X.base C k x ps sp) (hr : Room k X.A) (hx : Passes (CXN C X.prog X.w) X E) (ha : PA X (e :: es) t)
    (hg : Gl X x := by rfl) (hdb : (x == ("__debug__" : Str)) = false := by decide) (he : starEach (e :: es) X.env = (false, eval e X.env) :: starEach es X.env := by rfl) (hpl : (backTo pos (starEach es X.env)).any (·.1) = false := by rfl) :
    PE X (.Call (.Name x p) (e :: es) [] pos) (tCall sp [] E t) := by
  obtain ⟨f, fd, F, hm, hk, hb⟩ := O.ex
  exact pe_call F hr hg hm hk hb .nil hx ha hdb he hpl
theorem Ok.mono {P : Program} {w : World} {K : PySem.W.Frag} {mg : Str → Option Value} {base : Heap} {C : Addr} {j k : Nat} {x : Str} {ps : List Str} {sp : Sp} (O : Ok P w K mg base C j x ps sp) (h : j ≤ k) : Ok P w K mg base C k x ps sp :=
  let ⟨f, fd, F, r⟩ := O.ex
  ⟨f, fd, F.mono h, r⟩
theorem log2_bound {m k : Nat} (h : m < 2 ^ k) (hk : 0 < k) : m.log2 < k := by
  by_cases h0 : m = 0
  · subst h0
    simpa using hk
  · exact (Nat.log2_lt h0).mpr h
theorem sh_lt (x a b : Nat) (hb : b ≤ 2047) : maN x * 2 ^ (b - a) < 2 ^ 2100 := by
  have h1 := maN_lt x
  have h2 : maN x * 2 ^ (b - a) < 2 ^ 53 * 2 ^ (b - a) := Nat.mul_lt_mul_of_pos_right h1 (Nat.two_pow_pos _)
  rw [← Nat.pow_add] at h2
  exact Nat.lt_of_lt_of_le h2 (Nat.pow_le_pow_right (by decide) (by omega))
theorem tot_log (x y : Nat) : (totN x y).natAbs.log2 < 10000 := by
  refine Nat.lt_trans (log2_bound (k := 2102) ?_ (by decide)) (by decide)
  have ex := exN_lt x
  have ey := exN_lt y
  have h1 := sh_lt x (exN y) (exN x) (by omega)
  have h2 := sh_lt y (exN x) (exN y) (by omega)
  have h3 := maN_lt x
  have h4 := maN_lt y
  have e1 : (maN x : Int) * 2 ^ (exN x - exN y) = ((maN x * 2 ^ (exN x - exN y) : Nat) : Int) := by rw [Int.natCast_mul, Int.natCast_pow]; rfl
  have e2 : (maN y : Int) * 2 ^ (exN y - exN x) = ((maN y * 2 ^ (exN y - exN x) : Nat) : Int) := by rw [Int.natCast_mul, Int.natCast_pow]; rfl
  have e3 : (-(maN y : Int)) * 2 ^ (exN y - exN x) = -((maN y * 2 ^ (exN y - exN x) : Nat) : Int) := by rw [Int.neg_mul, e2]
  have p : (2 : Nat) ^ 2102 = 4 * 2 ^ 2100 := by rw [show 2102 = 2100 + 2 from rfl, Nat.pow_add]; omega
  have p2 : (2 : Nat) ^ 53 ≤ 2 ^ 2100 := Nat.pow_le_pow_right (by decide) (by decide)
  rw [p]
  generalize (2 : Nat) ^ 2100 = B at h1 h2 p2
  generalize (2 : Nat) ^ 53 = D at h3 h4 p2
  unfold totN
  simp only []
  split
  · rw [e1]
    generalize maN x * 2 ^ (exN x - exN y) = a at h1
    split <;> omega
  · split
    · rw [e2]
      generalize maN y * 2 ^ (exN y - exN x) = a at h2
      omega
    · rw [e3]
      generalize maN y * 2 ^ (exN y - exN x) = a at h2
      omega
structure Base (P : Program) (w : World) (K : PySem.W.Frag) (mg : Str → Option Value) (base : Heap) (C : Addr) : Prop where
  N : Ints mg
  exp : Ok P w K mg base C 1 "exponent" ["x"] spExp
  man : Ok P w K mg base C 1 "mantissa" ["x"] spMan
  rnd : Ok P w K mg base C 1 "rounded" ["sign", "whole", "power"] (spRnd C)
section
variable {P : Program} {w : World} {K : PySem.W.Frag} {mg : Str → Option Value} {base : Heap} {C : Addr}
noncomputable def sp2 (C : Addr) (g : Nat → Nat → Option Nat) : Sp := fun vs H Q E => ∃ x y, vs = [nI x, nI y] ∧ D64 x ∧ D64 y ∧ res C (g x y) H Q E
theorem scAdd : FnScope ["x", "y", "x_power", "y_power", "x_whole", "y_whole", "power", "total"] ["x", "y"] (defScope sAdd) := ⟨rfl, rfl, rfl, by decide +kernel, rfl, by decide +kernel, by decide +kernel⟩
theorem ok_add {f : Addr} {fd : FuncData} (F : Fun K "add" "add" sAdd f fd) (B : Base P w K mg base C) : FnOk P w K mg base (CXN C P w) 2 f fd ["x", "y"] (sp2 C addN) := by
  have N := B.N
  refine F.okX scAdd (fun vs H Q E h => ?_) (fun cdv A outer s H vs Q E hr h => ?_)
  · obtain ⟨x, y, rfl, _⟩ := h
    rfl
  · obtain ⟨x, y, rfl, hx, hy, k⟩ := h
    have ex := exN_lt x
    have ey := exN_lt y
    have mx := maN_lt x
    have my := maN_lt y
    have hlog := tot_log x y
    -- the ends
    have tail : ∃ t, PSs (cxOf (CXN C P w) P w K mg base ["x", "y", "x_power", "y_power", "x_whole", "y_whole", "power", "total"] "add" (defScope sAdd) f cdv A outer s H E) ((defBody sAdd).drop 5) t ∧
        ∀ a b c d : Option V, t { nx := fun _ H' => Q .non H', rt := Q } [some (nI x), some (nI y), a, b, c, d, some (nI (if exN y < exN x then exN y else exN x)), some (.int (totN x y))] H := by
      refine ⟨_, pss_cons (ps_if (pt_cmpR op_eq (pv 7) pe_int (nomark _)) (pss_one (ps_ret (pe_op op_and (pe_op op_and (pv 0) (pv 1)) (pgl N.sign)))) pss_nil)
        (pss_cons (ps_if (pt_cmpR op_lt (pv 7) pe_int (nomark _)) (pss_one (ps_ret (pcall B.rnd hr (pass_cx fun _ z => z) (pa_cons (pe_op op_and (pv 1) (pgl N.sign)) (pa_cons (pe_un un_neg (pv 7)) (pa_cons (pv 6) pa_nil)))))) pss_nil)
        (pss_one (ps_ret (pcall B.rnd hr (pass_cx fun _ z => z) (pa_cons (pe_op op_and (pv 0) (pgl N.sign)) (pa_cons (pv 7) (pa_cons (pv 6) pa_nil))))))), fun a b c d => ?_⟩
      generalize hpw : (if exN y < exN x then exN y else exN x) = pw
      have hpw1 : pw < 2047 := by rw [← hpw]; split <;> omega
      unfold addN at k
      rw [hpw] at k
      generalize totN x y = tt at k hlog
      refine ⟨_, rfl, rfl, _, rfl, ?_⟩
      show if decide (V.int tt = V.int 0) = true then _ else _
      rw [decide_eq_decide.mpr (vint (i := tt) (j := 0))]
      refine ite2 (fun h0 => ?_) (fun h0 => ?_)
      · rw [if_pos (of_decide_eq_true h0)] at k
        refine ⟨_, rfl, _, rfl, _, _, rfl, rfl, _, _, rfl, rfl, ?_⟩
        show Q (.int (Builtin.bitAnd (Builtin.bitAnd (x : Int) (y : Int)) 9223372036854775808)) H
        rw [and_and_sign hx hy]
        exact k
      · have h0 : ¬ tt = 0 := fun z => h0 (decide_eq_true z)
        rw [if_neg h0] at k
        refine ⟨_, rfl, _, _, rfl, rfl, _, rfl, ?_⟩
        show if decide (tt < 0) = true then _ else _
        refine ite2 (fun h1 => ?_) (fun h1 => ?_)
        · have h1 := of_decide_eq_true h1
          rw [if_pos h1] at k
          refine ⟨_, rfl, _, _, rfl, rfl, _, rfl, _, rfl, _, rfl, ?_⟩
          refine ⟨sgn y, tt.natAbs, (pw : Int), ?_, sgn_cases y, ⟨by omega, by omega⟩, hlog, k⟩
          show [V.int (Builtin.bitAnd (y : Int) 9223372036854775808), V.int (-tt), V.int (pw : Int)] = _
          rw [and_sign hy, show -tt = ((tt.natAbs : Nat) : Int) by omega]
        · have h1 : ¬ tt < 0 := fun z => h1 (decide_eq_true z)
          rw [if_neg h1] at k
          refine ⟨_, rfl, _, _, rfl, rfl, _, rfl, _, rfl, ?_⟩
          refine ⟨sgn x, tt.natAbs, (pw : Int), ?_, sgn_cases x, ⟨by omega, by omega⟩, hlog, k⟩
          show [V.int (Builtin.bitAnd (x : Int) 9223372036854775808), V.int tt, V.int (pw : Int)] = _
          rw [and_sign hx, show V.int tt = V.int ((tt.natAbs : Nat) : Int) from congrArg V.int (by omega)]
    obtain ⟨t5, h5, q5⟩ := tail
    refine ⟨_, pss_cons (ps_set (i := 2) scAdd.nd rfl (Or.inl rfl) (pcall B.exp hr (pass_cx fun _ z => z) (pa_cons (pv 0) pa_nil)))
      (pss_cons (ps_set (i := 3) scAdd.nd rfl (Or.inl rfl) (pcall B.exp hr (pass_cx fun _ z => z) (pa_cons (pv 1) pa_nil)))
      (pss_cons (ps_set (i := 4) scAdd.nd rfl (Or.inl rfl) (pcall B.man hr (pass_cx fun _ z => z) (pa_cons (pv 0) pa_nil)))
      (pss_cons (ps_set (i := 5) scAdd.nd rfl (Or.inl rfl) (pe_ifExp (pt_cmpR op_eq (pe_op op_and (pe_op op_xor (pv 0) (pv 1)) (pgl N.sign)) pe_int (nomark _)) (pcall B.man hr (pass_cx fun _ z => z) (pa_cons (pv 1) pa_nil)) (pe_un un_neg (pcall B.man hr (pass_cx fun _ z => z) (pa_cons (pv 1) pa_nil)))))
      (pss_cons (ps_if (pt_cmpR op_gt (pv 2) (pv 3) (nomark _))
        (pss_cons (ps_set (i := 6) scAdd.nd rfl (Or.inl rfl) (pv 3)) (pss_one (ps_set (i := 7) scAdd.nd rfl (Or.inl rfl) (pe_op op_add (pe_op op_shl (pv 4) (pe_op op_sub (pv 2) (pv 3))) (pv 5)))))
        (pss_cons (ps_set (i := 6) scAdd.nd rfl (Or.inl rfl) (pv 2)) (pss_one (ps_set (i := 7) scAdd.nd rfl (Or.inl rfl) (pe_op op_add (pv 4) (pe_op op_shl (pv 5) (pe_op op_sub (pv 3) (pv 2)))))))) h5)))), ?_⟩
    refine ⟨_, rfl, x, rfl, ?_⟩
    refine ⟨_, rfl, y, rfl, ?_⟩
    refine ⟨_, rfl, x, rfl, ?_⟩
    refine ⟨_, rfl, _, rfl, _, _, rfl, rfl, _, _, rfl, rfl, rfl, _, rfl, ?_⟩
    have es : decide (V.int (Builtin.bitAnd (Builtin.bitXor (x : Int) (y : Int)) 9223372036854775808) = V.int 0) = decide (Sn42.negative x = Sn42.negative y) := by
      rw [xor_and_sign hx hy]
      refine decide_eq_decide.mpr (vint.trans ?_)
      cases Sn42.negative x <;> cases Sn42.negative y <;> decide
    show if decide (V.int (Builtin.bitAnd (Builtin.bitXor (x : Int) (y : Int)) 9223372036854775808) = V.int 0) = true then _ else _
    rw [es]
    -- y_whole is yw
    generalize hyw : (if Sn42.negative x = Sn42.negative y then (maN y : Int) else -(maN y : Int)) = yw
    have hyb : yw.natAbs < 2 ^ 53 := by rw [← hyw]; split <;> omega
    have htot : totN x y = if exN y < exN x then (maN x : Int) * 2 ^ (exN x - exN y) + yw else (maN x : Int) + yw * 2 ^ (exN y - exN x) := by
      unfold totN
      simp only []
      rw [hyw]
    have next : ∀ σ5 : St, σ5 = [some (nI x), some (nI y), some (nI (exN x)), some (nI (exN y)), some (nI (maN x)), some (.int yw), none, none] →
        (tIfS (tTest (tOp (rI0 fun i j => V.bl (decide (j < i))) (tVar 2) (tVar 3))) (tSeq (tAsg (tVar 3) (gName 6)) (tAsg (tOp (rI0 fun i j => V.int (i + j)) (tOp (rI CPow fun i j => V.int (i * 2 ^ j.toNat)) (tVar 4) (tOp (rI0 fun i j => V.int (i - j)) (tVar 2) (tVar 3))) (tVar 5)) (gName 7)))
          (tSeq (tAsg (tVar 2) (gName 6)) (tAsg (tOp (rI0 fun i j => V.int (i + j)) (tVar 4) (tOp (rI CPow fun i j => V.int (i * 2 ^ j.toNat)) (tVar 5) (tOp (rI0 fun i j => V.int (i - j)) (tVar 3) (tVar 2)))) (gName 7)))) { nx := t5 { nx := fun _ H' => Q .non H', rt := Q }, rt := Q } σ5 H := by
      rintro σ5 rfl
      refine ⟨_, rfl, _, rfl, _, _, rfl, rfl, _, rfl, ?_⟩
      show if decide (((exN y : Nat) : Int) < ((exN x : Nat) : Int)) = true then _ else _
      have q := q5 (some (nI (exN x))) (some (nI (exN y))) (some (nI (maN x))) (some (.int yw))
      rw [htot] at q
      refine ite2 (fun hk => ?_) (fun hk => ?_)
      · have hk : exN y < exN x := by have := of_decide_eq_true hk; omega
        rw [if_pos hk, if_pos hk] at q
        refine ⟨_, rfl, _, rfl, _, rfl, _, rfl, _, _, rfl, rfl, _, _, rfl, rfl, ⟨by show (0 : Int) ≤ ((exN x : Nat) : Int) - ((exN y : Nat) : Int); omega, by show ((exN x : Nat) : Int) - ((exN y : Nat) : Int) ≤ 1000000; omega, by show ((maN x : Nat) : Int).natAbs < 2 ^ 64; omega⟩, _, rfl, _, _, rfl, rfl, ?_⟩
        have e : (((exN x : Nat) : Int) - ((exN y : Nat) : Int)).toNat = exN x - exN y := by omega
        rw [← e] at q
        exact q
      · have hk : ¬ exN y < exN x := fun z => hk (decide_eq_true (by omega))
        rw [if_neg hk, if_neg hk] at q
        refine ⟨_, rfl, _, rfl, _, rfl, _, rfl, _, rfl, _, _, rfl, rfl, _, _, rfl, rfl, ⟨by show (0 : Int) ≤ ((exN y : Nat) : Int) - ((exN x : Nat) : Int); omega, by show ((exN y : Nat) : Int) - ((exN x : Nat) : Int) ≤ 1000000; omega, by show yw.natAbs < 2 ^ 64; omega⟩, _, _, rfl, rfl, ?_⟩
        have e : (((exN y : Nat) : Int) - ((exN x : Nat) : Int)).toNat = exN y - exN x := by omega
        rw [← e] at q
        exact q
    refine ite2 (fun hk => ?_) (fun hk => ?_)
    · rw [if_pos (of_decide_eq_true hk)] at hyw
      refine ⟨_, rfl, y, rfl, ?_⟩
      refine next _ ?_
      rw [← hyw]
      rfl
    · rw [if_neg fun z => hk (decide_eq_true z)] at hyw
      refine ⟨_, rfl, y, rfl, _, rfl, ?_⟩
      refine next _ ?_
      rw [← hyw]
      rfl
end
end Cf
namespace Cf
open PySem L2
theorem vint_ne {i j : Int} : (!decide (V.int i = V.int j)) = !decide (i = j) := by rw [decide_eq_decide.mpr vint]
section
variable {P : Program} {w : World} {K : PySem.W.Frag} {mg : Str → Option Value} {base : Heap} {C : Addr}
theorem scSub : FnScope ["x", "y"] ["x", "y"] (defScope sSub) := ⟨rfl, rfl, rfl, by decide +kernel, rfl, by decide +kernel, by decide +kernel⟩
theorem ok_sub {f : Addr} {fd : FuncData} (F : Fun K "subtract" "subtract" sSub f fd) (oa : Ok P w K mg base C 2 "add" ["x", "y"] (sp2 C addN)) (oo : Ok P w K mg base C 1 "opposite" ["x"] spOpp) : FnOk P w K mg base (CXN C P w) 3 f fd ["x", "y"] (sp2 C subN) := by
  refine F.okX scSub (fun vs H Q E h => ?_) (fun cdv A outer s H vs Q E hr h => ?_)
  · obtain ⟨x, y, rfl, _⟩ := h
    rfl
  · obtain ⟨x, y, rfl, hx, hy, k⟩ := h
    refine ⟨_, pss_one (ps_ret (pcall oa hr (pass_cx fun _ z => z) (pa_cons (pv 0) (pa_cons (pcall oo (hr.mono (by decide)) (pass_cx fun _ z => z) (pa_cons (pv 1) pa_nil)) pa_nil)))), ?_⟩
    refine ⟨_, rfl, _, rfl, y, rfl, hy, x, Sn42.opposite y, rfl, hx, opp_lt hy, ?_⟩
    unfold subN at k
    exact k
theorem scMul : FnScope ["x", "y", "power"] ["x", "y"] (defScope sMul) := ⟨rfl, rfl, rfl, by decide +kernel, rfl, by decide +kernel, by decide +kernel⟩
theorem ok_mul {f : Addr} {fd : FuncData} (F : Fun K "multiply" "multiply" sMul f fd) (B : Base P w K mg base C) : FnOk P w K mg base (CXN C P w) 2 f fd ["x", "y"] (sp2 C mulN) := by
  have N := B.N
  refine F.okX scMul (fun vs H Q E h => ?_) (fun cdv A outer s H vs Q E hr h => ?_)
  · obtain ⟨x, y, rfl, _⟩ := h
    rfl
  · obtain ⟨x, y, rfl, hx, hy, k⟩ := h
    have ex := exN_lt x
    have ey := exN_lt y
    have mx := maN_lt x
    have my := maN_lt y
    refine ⟨_, pss_cons (ps_set (i := 2) scMul.nd rfl (Or.inl rfl) (pe_op op_sub (pe_op op_add (pcall B.exp hr (pass_cx fun _ z => z) (pa_cons (pv 0) pa_nil)) (pcall B.exp hr (pass_cx fun _ z => z) (pa_cons (pv 1) pa_nil))) (pgl N.eo)))
      (pss_one (ps_ret (pcall B.rnd hr (pass_cx fun _ z => z) (pa_cons (pe_op op_and (pe_op op_xor (pv 0) (pv 1)) (pgl N.sign))
        (pa_cons (pe_op op_mul (pcall B.man hr (pass_cx fun _ z => z) (pa_cons (pv 0) pa_nil)) (pcall B.man hr (pass_cx fun _ z => z) (pa_cons (pv 1) pa_nil))) (pa_cons (pv 2) pa_nil)))))), ?_⟩
    refine ⟨_, rfl, x, rfl, _, rfl, y, rfl, _, _, rfl, rfl, _, _, rfl, rfl, ?_⟩
    refine ⟨_, rfl, _, rfl, _, _, rfl, rfl, _, _, rfl, rfl, _, rfl, x, rfl, _, rfl, y, rfl, _, _, rfl, rfl, .inl ⟨by show -(2 ^ 64) < ((maN x : Nat) : Int); omega, by show ((maN x : Nat) : Int) < 2 ^ 64; omega⟩, _, rfl, ?_⟩
    have hlog : (maN x * maN y).log2 < 10000 := by
      refine Nat.lt_trans (log2_bound (k := 106) ?_ (by decide)) (by decide)
      rw [show (2 : Nat) ^ 106 = 2 ^ 53 * 2 ^ 53 from (Nat.pow_add 2 53 53)]
      exact Nat.mul_lt_mul_of_lt_of_lt mx my
    unfold mulN at k
    refine ⟨_, maN x * maN y, (exN x : Int) + (exN y : Int) - 1074, ?_, signBit_cases _, ⟨by omega, by omega⟩, hlog, k⟩
    show [V.int (Builtin.bitAnd (Builtin.bitXor (x : Int) (y : Int)) 9223372036854775808), V.int (((maN x : Nat) : Int) * ((maN y : Nat) : Int)), V.int ((exN x : Int) + (exN y : Int) - 1074)] = _
    rw [xor_and_sign hx hy, ← Int.natCast_mul]
theorem quo_aux (a b P B : Nat) (h : a * P < B) : (if a * P / b * b = a * P then a * P / b else a * P / b ||| 1) < 2 * B := by
  have h2 : a * P / b ≤ a * P := Nat.div_le_self _ _
  generalize a * P / b = m at h2
  generalize a * P = z at h h2
  split
  · omega
  · rw [or_one]; omega
theorem quo_log {a b : Nat} (ha : a < 2 ^ 53) : (quoN a b).log2 < 10000 := by
  refine Nat.lt_trans (log2_bound (k := 164) ?_ (by decide)) (by decide)
  have h1 : a * 2 ^ 110 < 2 ^ 53 * 2 ^ 110 := Nat.mul_lt_mul_of_pos_right ha (Nat.two_pow_pos _)
  rw [← Nat.pow_add] at h1
  have h3 : (2 : Nat) ^ 164 = 2 * 2 ^ (53 + 110) := by rw [show 164 = (53 + 110) + 1 from rfl, Nat.pow_succ, Nat.mul_comm]
  unfold quoN
  rw [h3]
  exact quo_aux a b _ _ h1
theorem scDiv : FnScope ["x", "y", "divisor", "dividend", "whole", "power"] ["x", "y"] (defScope sDiv) := ⟨rfl, rfl, rfl, by decide +kernel, rfl, by decide +kernel, by decide +kernel⟩
theorem ok_div {f : Addr} {fd : FuncData} (F : Fun K "divide" "divide" sDiv f fd) (B : Base P w K mg base C) (xc : XCls K C) (hC : mg "NotFinite" = some (.ref C)) : FnOk P w K mg base (CXN C P w) 2 f fd ["x", "y"] (sp2 C divN) := by
  have N := B.N
  refine F.okX scDiv (fun vs H Q E h => ?_) (fun cdv A outer s H vs Q E hr h => ?_)
  · obtain ⟨x, y, rfl, _⟩ := h
    rfl
  · obtain ⟨x, y, rfl, hx, hy, k⟩ := h
    have ex := exN_lt x
    have ey := exN_lt y
    have mx := maN_lt x
    have my := maN_lt y
    have hql := quo_log (a := maN x) (b := maN y) mx
    unfold divN at k
    -- power = ..; return rounded(..)
    have tail : ∃ t, PSs (cxOf (CXN C P w) P w K mg base ["x", "y", "divisor", "dividend", "whole", "power"] "divide" (defScope sDiv) f cdv A outer s H E) ((defBody sDiv).drop 5) t ∧
        (¬ maN y = 0 → ∀ a b : Option V, t { nx := fun _ H' => Q .non H', rt := Q } [some (nI x), some (nI y), a, b, some (nI (quoN (maN x) (maN y))), none] H) := by
      refine ⟨_, pss_cons (ps_set (i := 5) scDiv.nd rfl (Or.inl rfl) (pe_op op_sub (pe_op op_add (pe_op op_sub (pcall B.exp hr (pass_cx fun _ z => z) (pa_cons (pv 0) pa_nil)) (pcall B.exp hr (pass_cx fun _ z => z) (pa_cons (pv 1) pa_nil))) (pgl N.eo)) (pgl N.qb)))
        (pss_one (ps_ret (pcall B.rnd hr (pass_cx fun _ z => z) (pa_cons (pe_op op_and (pe_op op_xor (pv 0) (pv 1)) (pgl N.sign)) (pa_cons (pv 4) (pa_cons (pv 5) pa_nil)))))), fun hne a b => ?_⟩
      rw [if_neg hne] at k
      refine ⟨_, rfl, x, rfl, _, rfl, y, rfl, _, _, rfl, rfl, _, _, rfl, rfl, _, _, rfl, rfl, ?_⟩
      refine ⟨_, rfl, _, rfl, _, _, rfl, rfl, _, _, rfl, rfl, _, rfl, _, rfl, ?_⟩
      refine ⟨_, quoN (maN x) (maN y), (exN x : Int) - (exN y : Int) + 1074 - 110, ?_, signBit_cases _, ⟨by omega, by omega⟩, hql, k⟩
      show [V.int (Builtin.bitAnd (Builtin.bitXor (x : Int) (y : Int)) 9223372036854775808), nI (quoN (maN x) (maN y)), V.int ((exN x : Int) - (exN y : Int) + 1074 - 110)] = _
      rw [xor_and_sign hx hy]
    obtain ⟨t5, h5, q5⟩ := tail
    refine ⟨_, pss_cons (ps_set (i := 2) scDiv.nd rfl (Or.inl rfl) (pcall B.man hr (pass_cx fun _ z => z) (pa_cons (pv 1) pa_nil)))
      (pss_cons (ps_if (pt_cmpR op_eq (pv 2) pe_int (nomark _)) (pss_one (ps_raise xc hC rfl)) pss_nil)
      (pss_cons (ps_set (i := 3) scDiv.nd rfl (Or.inl rfl) (pe_op op_shl (pcall B.man hr (pass_cx fun _ z => z) (pa_cons (pv 0) pa_nil)) (pgl N.qb)))
      (pss_cons (ps_set (i := 4) scDiv.nd rfl (Or.inl rfl) (pe_op op_fdivB (pv 3) (pv 2)))
      (pss_cons (ps_if (pt_cmpR op_ne (pe_op op_mul (pv 4) (pv 2)) (pv 3) (nomark _)) (pss_one (ps_set (i := 4) scDiv.nd rfl (Or.inl rfl) (pe_op op_or (pv 4) pe_int))) pss_nil) h5)))), ?_⟩
    refine ⟨_, rfl, y, rfl, ?_⟩
    refine ⟨_, rfl, rfl, _, rfl, ?_⟩
    show if decide (V.int ((maN y : Nat) : Int) = V.int 0) = true then _ else _
    rw [decide_eq_decide.mpr (vint (i := ((maN y : Nat) : Int)) (j := 0))]
    refine ite2 (fun h0 => ?_) (fun h0 => ?_)
    · have h0 : maN y = 0 := by have := of_decide_eq_true h0; omega
      rw [if_pos h0] at k
      exact k
    · have h0 : ¬ maN y = 0 := fun z => h0 (decide_eq_true (by omega))
      have q := q5 h0
      have hq0 : quoN (maN x) (maN y) = if maN x * 2 ^ 110 / maN y * maN y = maN x * 2 ^ 110 then maN x * 2 ^ 110 / maN y else maN x * 2 ^ 110 / maN y ||| 1 := by unfold quoN; rfl
      rw [hq0] at q
      clear hq0 k hql
      refine ⟨_, rfl, x, rfl, _, _, rfl, rfl, ⟨by show (0 : Int) ≤ 110; decide, by show (110 : Int) ≤ 1000000; decide, by show ((maN x : Nat) : Int).natAbs < 2 ^ 64; omega⟩, ?_⟩
      have e1 : ((maN x : Nat) : Int) * 2 ^ (110 : Int).toNat = ((maN x * 2 ^ 110 : Nat) : Int) := by
        rw [Int.natCast_mul, Int.natCast_pow]
        rfl
      generalize hz : maN x * 2 ^ 110 = z at e1 q
      have hlb : ((maN y : Nat) : Int).natAbs.log2 < 9000 := by
        rw [Int.natAbs_natCast]
        exact Nat.lt_trans (log2_bound my (by decide)) (by decide)
      refine ⟨_, rfl, _, rfl, _, _, rfl, rfl, ⟨by show ((maN y : Nat) : Int) ≠ 0; omega, hlb⟩, ?_⟩
      have e2 : (((maN x : Nat) : Int) * 2 ^ (110 : Int).toNat).fdiv ((maN y : Nat) : Int) = ((z / maN y : Nat) : Int) := by
        rw [e1, Int.fdiv_eq_ediv_of_nonneg _ (by omega), ← Int.natCast_ediv]
      refine ⟨_, rfl, _, rfl, _, _, rfl, rfl, .inr ⟨by show -(2 ^ 64) < ((maN y : Nat) : Int); omega, by show ((maN y : Nat) : Int) < 2 ^ 64; omega⟩, _, rfl, rfl, _, rfl, ?_⟩
      show if (!decide (V.int ((((maN x : Nat) : Int) * 2 ^ (110 : Int).toNat).fdiv ((maN y : Nat) : Int) * ((maN y : Nat) : Int)) = V.int (((maN x : Nat) : Int) * 2 ^ (110 : Int).toNat))) = true then _ else _
      have ec : (!decide (V.int ((((maN x : Nat) : Int) * 2 ^ (110 : Int).toNat).fdiv ((maN y : Nat) : Int) * ((maN y : Nat) : Int)) = V.int (((maN x : Nat) : Int) * 2 ^ (110 : Int).toNat))) = !decide (z / maN y * maN y = z) := by
        rw [vint_ne, e2, e1, ← Int.natCast_mul, decide_eq_decide.mpr (show ((z / maN y * maN y : Nat) : Int) = ((z : Nat) : Int) ↔ z / maN y * maN y = z by omega)]
      rw [ec]
      refine ite2 (fun hk => ?_) (fun hk => ?_)
      · have hk : ¬ z / maN y * maN y = z := by simpa using hk
        rw [if_neg hk] at q
        refine ⟨_, rfl, _, _, rfl, rfl, ?_⟩
        have q := q (some (nI (maN y))) (some (V.int (((maN x : Nat) : Int) * 2 ^ (110 : Int).toNat)))
        rw [show nI (z / maN y ||| 1) = V.int (Builtin.bitOr ((((maN x : Nat) : Int) * 2 ^ (110 : Int).toNat).fdiv ((maN y : Nat) : Int)) 1) from congrArg V.int (by rw [e2, or_one_int])] at q
        exact q
      · have hk : z / maN y * maN y = z := by simpa using hk
        rw [if_pos hk] at q
        have q := q (some (nI (maN y))) (some (V.int (((maN x : Nat) : Int) * 2 ^ (110 : Int).toNat)))
        rw [show nI (z / maN y) = V.int ((((maN x : Nat) : Int) * 2 ^ (110 : Int).toNat).fdiv ((maN y : Nat) : Int)) from congrArg V.int e2.symm] at q
        exact q
end
end Cf
namespace Cf
open PySem L2
noncomputable abbrev sSpd : Stmt := top 26
noncomputable abbrev sShr : Stmt := top 27
noncomputable abbrev sRest : Stmt := top 28
noncomputable abbrev sRgt : Stmt := top 29
noncomputable abbrev sDwn : Stmt := top 30
noncomputable abbrev sFlow : Stmt := top 31
noncomputable abbrev sEC : Stmt := top 37
noncomputable abbrev sECs : Stmt := top 38
noncomputable abbrev sCS : Stmt := top 39
noncomputable abbrev sAS : Stmt := top 40
noncomputable abbrev sMC : Stmt := top 41
noncomputable abbrev sBS : Stmt := top 42
noncomputable abbrev sSide : Stmt := top 50
noncomputable abbrev sMass : Stmt := top 51
noncomputable abbrev sGrid : Stmt := top 52
noncomputable abbrev sAns : Stmt := top 60
noncomputable abbrev sAnss : Stmt := top 61
theorem same_new {H : Hp} {t : Addr} {o : HO} (h : H t = none) : Same H (upd H t o) := fun b u e => by
  rw [upd_ne (ne_of_none e h)]
  exact e
theorem same_upd {H H' : Hp} {t : Addr} {o : HO} (s : Same H H') (h : H t = none) : Same H (upd H' t o) := fun b u e => by
  rw [upd_ne (ne_of_none e h)]
  exact s b u e
theorem get_map {α : Type} {f : α → V} {l : List α} {i : Nat} {x : V} (h : (l.map f)[i]? = some x) : ∃ n, l[i]? = some n ∧ x = f n := by
  rw [List.getElem?_map] at h
  cases e : l[i]? with
  | none => rw [e] at h; cases h
  | some n => rw [e] at h; exact ⟨n, rfl, (Option.some.inj h).symm⟩
theorem map_get {α : Type} {f : α → V} {l : List α} {i : Nat} {n : α} (h : l[i]? = some n) : (l.map f)[i]? = some (f n) := by
  rw [List.getElem?_map, h]
  rfl
theorem seqT {K : PySem.W.Frag} {H H' : Hp} {a : Addr} {xs : List V} (e : Same H H') (h : SqT K H a xs) : SqT K H' a xs := by
  rcases h with (h | ⟨o, h⟩) | h
  · exact .inl (.inl (e _ _ h))
  · exact .inl (.inr ⟨o, e _ _ h⟩)
  · exact .inr h
noncomputable def resT (C : Addr) (o : Option (List Nat)) (H : Hp) (Q : VK) (E : XK) : Prop := match o with
  | some l => ∀ t H', Same H H' → H' t = some (.tup (l.map nI)) → Q (.ref t) H'
  | none => ∀ H', Same H H' → E (.ref C) none H'
structure Ops (P : Program) (w : World) (K : PySem.W.Frag) (mg : Str → Option Value) (base : Heap) (C : Addr) : Prop where
  N : Ints mg
  add : Ok P w K mg base C 3 "add" ["x", "y"] (sp2 C addN)
  sub : Ok P w K mg base C 3 "subtract" ["x", "y"] (sp2 C subN)
  mul : Ok P w K mg base C 3 "multiply" ["x", "y"] (sp2 C mulN)
  div : Ok P w K mg base C 3 "divide" ["x", "y"] (sp2 C divN)
  opp : Ok P w K mg base C 3 "opposite" ["x"] spOpp
  fin : Ok P w K mg base C 3 "is_finite" ["x"] spFin
structure Bl (mg : Str → Option Value) : Prop where
  tuple : mg "tuple" = none
  zip : mg "zip" = none
  range : mg "range" = none
  len : mg "len" = none
noncomputable def GT (K : PySem.W.Frag) (mg : Str → Option Value) (x : Str) (xs : List V) : Prop := ∃ a, G mg x (.ref a) ∧ ∀ H, SqT K H a xs
theorem lc_zipN {K : PySem.W.Frag} {C a b : Addr} {l m : List Nat} {F : Nat × Nat → Option Nat} {g : TG} {te : TE} {vs : List Nat} {σ : St} {H1 : Hp} {D : Addr} {Qd : Hp → Prop} {EX : XK}
    (hlen : l.length = m.length) (hz : l.length < sizeLine) (hD : H1 D = none)
    (ha : ∀ H2, Same H1 H2 → SqT K H2 a (l.map nI)) (hb : ∀ H2, Same H1 H2 → SqT K H2 b (m.map nI))
    (hs : ∀ (x y : Nat) (T : Addr) (H2 : Hp) (Q' : VK), x ∈ l → y ∈ m → H2 T = none → Same H1 H2 → res C (F (x, y)) (upd H2 T (.tup [nI x, nI y])) Q' EX →
      g (.ref T) (wipe σ vs) (upd H2 T (.tup [nI x, nI y])) fun σ2 H3 => wipe σ2 vs = wipe σ vs ∧ te σ2 H3 Q')
    (he : mapO F (l.zip m) = none → ∀ H2, Same H1 H2 → EX (.ref C) none H2)
    (hd : ∀ (r : List Nat) (H2 : Hp), mapO F (l.zip m) = some r → Same H1 H2 → H2 D = some (.lst (r.map nI)) → Qd H2) :
    ∃ W : Nat → Nat → Hp → Prop, (∃ k, W 0 k (upd H1 D (.lst []))) ∧ ∀ i k H, W i k H →
      ((Itzt K a b).stop i H ∧ Qd H) ∨ ((Itzt K a b).go i H ∧ ∃ Nx : Hp → Prop, (∀ H', Nx H' → ∃ m', m' < k ∧ W (i + 1) m' H') ∧ ∀ x H', (Itzt K a b).yld i H x H' → g x (wipe σ vs) H' fun σ2 H2 => wipe σ2 vs = wipe σ vs ∧ tYes σ2 H2 fun b H3 =>
        if b = true then te σ2 H3 fun y H4 => ∃ acc, H4 D = some (.lst acc) ∧ acc.length < sizeLine ∧ Nx (upd H4 D (.lst (acc ++ [y]))) else Nx H3) := by
  have hzl : (l.zip m).length = l.length := by rw [List.length_zip]; omega
  refine lc_zipt (xs := l.map nI) (ys := m.map nI) (by rw [List.length_map, List.length_map]; exact hlen)
    (fun i H2 => ∃ acc, mapO F ((l.zip m).take i) = some acc ∧ H2 D = some (.lst (acc.map nI)) ∧ Same H1 H2) ⟨[], rfl, upd_same, same_new hD⟩ ?_ ?_ ?_
  · rintro i H2 _ ⟨acc, _, _, s2⟩
    exact ⟨ha H2 s2, hb H2 s2⟩
  · rintro i x y T H2 hx hy hT ⟨acc, e, hD2, s2⟩
    obtain ⟨p, hp, rfl⟩ := get_map hx
    obtain ⟨q, hq, rfl⟩ := get_map hy
    have hpq : (l.zip m)[i]? = some (p, q) := List.getElem?_zip_eq_some.mpr ⟨hp, hq⟩
    have nTD : D ≠ T := ne_of_none hD2 hT
    have hal : acc.length < sizeLine := by
      rw [mapO_len e, List.length_take]
      omega
    obtain ⟨m1, m2⟩ := mapO_take e hpq
    refine hs p q T H2 _ (List.mem_of_getElem? hp) (List.mem_of_getElem? hq) hT s2 ?_
    cases hr : F (p, q) with
    | none => exact he (m2 hr) _ (same_upd s2 (s2.free hT))
    | some r =>
      refine ⟨acc.map nI, by rw [upd_ne nTD]; exact hD2, by rw [List.length_map]; exact hal, acc ++ [r], m1 r hr, ?_, ?_⟩
      · rw [upd_same, List.map_append]
        rfl
      · exact same_upd (same_upd s2 (s2.free hT)) hD
  · rintro H2 ⟨acc, e, hD2, s2⟩
    rw [List.length_map, ← hzl, List.take_length] at e
    exact hd acc H2 e s2 hD2
theorem sumO_take {s : Nat} : ∀ {l : List Nat} {i x r : Nat}, sumO s (l.take i) = some r → l[i]? = some x → (∀ t, addN r x = some t → sumO s (l.take (i + 1)) = some t) ∧ (addN r x = none → sumO s l = none) := by
  intro l
  induction l generalizing s with
  | nil => intro i x r _ e; simp at e
  | cons a l ih =>
    intro i x r h e
    cases i with
    | zero =>
      simp at e
      subst e
      have h : some s = some r := h
      cases h
      refine ⟨fun t ht => ?_, fun hn => ?_⟩
      · show (addN s a).bind _ = _
        rw [ht]
        rfl
      · show (addN s a).bind _ = _
        rw [hn]
        rfl
    | succ i =>
      have h : (addN s a).bind (fun t => sumO t (l.take i)) = some r := h
      cases ha : addN s a with
      | none => rw [ha] at h; cases h
      | some u =>
        rw [ha] at h
        obtain ⟨h1, h2⟩ := ih (s := u) (i := i) (x := x) (r := r) h (by simpa using e)
        refine ⟨fun t ht => ?_, fun hn => ?_⟩
        · show (addN s a).bind (fun t => sumO t (l.take (i + 1))) = _
          rw [ha]
          exact h1 t ht
        · show (addN s a).bind (fun t => sumO t l) = _
          rw [ha]
          exact h2 hn
theorem sumO_lt : ∀ {l : List Nat} {s r : Nat}, s < 2 ^ 64 → sumO s l = some r → r < 2 ^ 64
  | [], s, r, hs, h => by cases h; exact hs
  | a :: l, s, r, hs, h => by
    have h : (addN s a).bind (fun t => sumO t l) = some r := h
    cases ha : addN s a with
    | none => rw [ha] at h; cases h
    | some u => rw [ha] at h; exact sumO_lt (addN_lt ha) h
end Cf
namespace Cf
open PySem L2
section
variable {X : Cx} {es : List Expr} {te : TE} {t : TA}
theorem pa_n {x : Str} {p : Pos} (ha : PE X (.Name x p) te) (hr : PA X es t) : PA X (.Name x p :: es) (tCons te t) := pa_cons ha hr rfl
theorem pa_c {f : Expr} {as : List Expr} {kw : List Keyword} {p : Pos} (ha : PE X (.Call f as kw p) te) (hr : PA X es t) : PA X (.Call f as kw p :: es) (tCons te t) := pa_cons ha hr rfl
end
section
variable {P : Program} {w : World} {K : PySem.W.Frag} {mg : Str → Option Value} {base : Heap} {C : Addr}
noncomputable def spSpd (C : Addr) : Sp := fun vs H Q E => ∃ ux uy, vs = [nI ux, nI uy] ∧ D64 ux ∧ D64 uy ∧ resT C (speedsN ux uy) H Q E
theorem scSpd : FnScope ["ux", "uy", "both"] ["ux", "uy"] (defScope sSpd) := ⟨rfl, rfl, rfl, by decide +kernel, rfl, by decide +kernel, by decide +kernel⟩
theorem ok_spd {f : Addr} {fd : FuncData} (F : Fun K "speeds" "speeds" sSpd f fd) (O : Ops P w K mg base C) : FnOk P w K mg base (CXN C P w) 4 f fd ["ux", "uy"] (spSpd C) := by
  refine F.okX scSpd (fun vs H Q E h => ?_) (fun cdv A outer s H vs Q E hr h => ?_)
  · obtain ⟨x, y, rfl, _⟩ := h
    rfl
  · obtain ⟨ux, uy, rfl, hx, hy, k⟩ := h
    refine ⟨_, pss_cons (ps_set (i := 2) scSpd.nd rfl (Or.inl rfl) (pcall O.add hr (pass_cx fun _ z => z) (pa_n (pv 0) (pa_n (pv 1) pa_nil))))
      (pss_one (ps_ret (pe_tup (pa_n (pgl O.N.zero) (pa_n (pv 0) (pa_n (pv 1) (pa_c (pcall O.opp hr (pass_cx fun _ z => z) (pa_n (pv 0) pa_nil)) (pa_c (pcall O.opp hr (pass_cx fun _ z => z) (pa_n (pv 1) pa_nil))
        (pa_n (pv 2) (pa_c (pcall O.sub hr (pass_cx fun _ z => z) (pa_n (pv 1) (pa_n (pv 0) pa_nil))) (pa_c (pcall O.opp hr (pass_cx fun _ z => z) (pa_n (pv 2) pa_nil)) (pa_c (pcall O.sub hr (pass_cx fun _ z => z) (pa_n (pv 0) (pa_n (pv 1) pa_nil))) pa_nil)))))))))))), ?_⟩
    unfold speedsN at k
    refine ⟨_, rfl, _, rfl, ux, uy, rfl, hx, hy, ?_⟩
    cases ha : addN ux uy with
    | none =>
      rw [ha] at k
      exact k H (Same.refl H)
    | some both =>
      rw [ha, Option.bind_some] at k
      have hb := addN_lt ha
      refine ⟨_, rfl, _, rfl, _, rfl, ux, rfl, hx, _, rfl, uy, rfl, hy, _, rfl, _, rfl, _, rfl, uy, ux, rfl, hy, hx, ?_⟩
      cases h6 : subN uy ux with
      | none =>
        rw [h6] at k
        exact k H (Same.refl H)
      | some d =>
        rw [h6, Option.bind_some] at k
        refine ⟨_, rfl, both, rfl, hb, _, rfl, _, rfl, ux, uy, rfl, hx, hy, ?_⟩
        cases h8 : subN ux uy with
        | none =>
          rw [h8] at k
          exact k H (Same.refl H)
        | some e =>
          rw [h8, Option.bind_some] at k
          exact ⟨by show 9 ≤ sizeLine; decide, fun t ht => k t _ (same_new ht) upd_same⟩
noncomputable def spShr (C : Addr) : Sp := fun vs H Q E => ∃ wt rho sp u, vs = [nI wt, nI rho, nI sp, nI u] ∧ D64 wt ∧ D64 rho ∧ D64 sp ∧ D64 u ∧ res C (shareN wt rho sp u) H Q E
theorem scShr : FnScope ["weight", "rho", "speed", "u", "c", "linear", "square"] ["weight", "rho", "speed", "u"] (defScope sShr) := ⟨rfl, rfl, rfl, by decide +kernel, rfl, by decide +kernel, by decide +kernel⟩
theorem d3 : D64 Sn42.THREE := by decide
theorem d1 : D64 Sn42.ONE := by decide
theorem dh : D64 Sn42.HALF := by decide
theorem doh : D64 Sn42.THREE_HALVES := by decide
theorem ok_shr {f : Addr} {fd : FuncData} (F : Fun K "share_at_rest" "share_at_rest" sShr f fd) (O : Ops P w K mg base C) : FnOk P w K mg base (CXN C P w) 4 f fd ["weight", "rho", "speed", "u"] (spShr C) := by
  refine F.okX scShr (fun vs H Q E h => ?_) (fun cdv A outer s H vs Q E hr h => ?_)
  · obtain ⟨a, b, c, d, rfl, _⟩ := h
    rfl
  · obtain ⟨wt, rho, sp, u, rfl, hw, hrho, hsp, hu, k⟩ := h
    refine ⟨_, pss_cons (ps_set (i := 4) scShr.nd rfl (Or.inl rfl) (pcall O.mul hr (pass_cx fun _ z => z) (pa_n (pgl O.N.three) (pa_n (pv 2) pa_nil))))
      (pss_cons (ps_set (i := 5) scShr.nd rfl (Or.inl rfl) (pcall O.add hr (pass_cx fun _ z => z) (pa_n (pgl O.N.one) (pa_n (pv 4) pa_nil))))
      (pss_cons (ps_set (i := 6) scShr.nd rfl (Or.inl rfl) (pcall O.mul hr (pass_cx fun _ z => z) (pa_c (pcall O.mul hr (pass_cx fun _ z => z) (pa_n (pgl O.N.half) (pa_n (pv 4) pa_nil))) (pa_n (pv 4) pa_nil))))
      (pss_one (ps_ret (pcall O.mul hr (pass_cx fun _ z => z) (pa_c (pcall O.mul hr (pass_cx fun _ z => z) (pa_n (pv 0) (pa_n (pv 1) pa_nil)))
        (pa_c (pcall O.sub hr (pass_cx fun _ z => z) (pa_c (pcall O.add hr (pass_cx fun _ z => z) (pa_n (pv 5) (pa_n (pv 6) pa_nil))) (pa_n (pv 3) pa_nil))) pa_nil))))))), ?_⟩
    unfold shareN at k
    refine ⟨_, rfl, Sn42.THREE, sp, rfl, d3, hsp, ?_⟩
    cases h1 : mulN Sn42.THREE sp with
    | none => rw [h1] at k; exact k
    | some c =>
    rw [h1, Option.bind_some] at k
    have hc := mulN_lt h1
    refine ⟨_, rfl, Sn42.ONE, c, rfl, d1, hc, ?_⟩
    cases h2 : addN Sn42.ONE c with
    | none => rw [h2] at k; exact k
    | some lin =>
    rw [h2, Option.bind_some] at k
    have hlin := addN_lt h2
    refine ⟨_, rfl, Sn42.HALF, c, rfl, dh, hc, ?_⟩
    cases h3 : mulN Sn42.HALF c with
    | none => rw [h3] at k; exact k
    | some hf =>
    rw [h3, Option.bind_some] at k
    have hhf := mulN_lt h3
    refine ⟨_, rfl, hf, c, rfl, hhf, hc, ?_⟩
    cases h4 : mulN hf c with
    | none => rw [h4] at k; exact k
    | some sq =>
    rw [h4, Option.bind_some] at k
    have hsq := mulN_lt h4
    refine ⟨_, rfl, _, rfl, wt, rho, rfl, hw, hrho, ?_⟩
    cases h5 : mulN wt rho with
    | none => rw [h5] at k; exact k
    | some m =>
    rw [h5, Option.bind_some] at k
    have hm := mulN_lt h5
    refine ⟨_, rfl, _, rfl, lin, sq, rfl, hlin, hsq, ?_⟩
    cases h6 : addN lin sq with
    | none => rw [h6] at k; exact k
    | some p =>
    rw [h6, Option.bind_some] at k
    have hp := addN_lt h6
    refine ⟨_, rfl, p, u, rfl, hp, hu, ?_⟩
    cases h7 : subN p u with
    | none => rw [h7] at k; exact k
    | some q =>
    rw [h7, Option.bind_some] at k
    exact ⟨m, q, rfl, hm, subN_lt h7, k⟩
theorem weight_lt : ∀ x ∈ weightsN, x < 2 ^ 64 := by decide
theorem speedsN_ok {ux uy : Nat} {l : List Nat} (hx : ux < 2 ^ 64) (hy : uy < 2 ^ 64) (h : speedsN ux uy = some l) : l.length = 9 ∧ ∀ x ∈ l, x < 2 ^ 64 := by
  unfold speedsN at h
  simp only [Option.bind_eq_some_iff] at h
  obtain ⟨b, hb, d, hd, e, he, h⟩ := h
  cases h
  have h1 := addN_lt hb
  have h2 := subN_lt hd
  have h3 := subN_lt he
  refine ⟨rfl, ?_⟩
  intro x hm
  simp only [List.mem_cons, List.not_mem_nil, or_false] at hm
  rcases hm with rfl | rfl | rfl | rfl | rfl | rfl | rfl | rfl | rfl
  · decide
  · exact hx
  · exact hy
  · exact opp_lt hx
  · exact opp_lt hy
  · exact h1
  · exact h2
  · exact opp_lt h1
  · exact h3
noncomputable def spRest (C : Addr) : Sp := fun vs H Q E => ∃ rho ux uy, vs = [nI rho, nI ux, nI uy] ∧ D64 rho ∧ D64 ux ∧ D64 uy ∧ resT C (restN rho ux uy) H Q E
theorem scRest : FnScope ["rho", "ux", "uy", "u", "along", "weight", "speed"] ["rho", "ux", "uy"] (defScope sRest) := ⟨rfl, rfl, rfl, by decide +kernel, rfl, by decide +kernel, by decide +kernel⟩
theorem ok_rest {f : Addr} {fd : FuncData} (F : Fun K "shares_at_rest" "shares_at_rest" sRest f fd) (O : Ops P w K mg base C) (B : Bl mg) (W : GT K mg "WEIGHTS" (weightsN.map nI)) (os : Ok P w K mg base C 4 "speeds" ["ux", "uy"] (spSpd C)) (oh : Ok P w K mg base C 4 "share_at_rest" ["weight", "rho", "speed", "u"] (spShr C)) :
    FnOk P w K mg base (CXN C P w) 5 f fd ["rho", "ux", "uy"] (spRest C) := by
  obtain ⟨aW, hgW, hW⟩ := W
  refine F.okX scRest (fun vs H Q E h => ?_) (fun cdv A outer s H vs Q E hr h => ?_)
  · obtain ⟨a, b, c, rfl, _⟩ := h
    rfl
  · obtain ⟨rho, ux, uy, rfl, hrho, hx, hy, k⟩ := h
    have hr3 : Room 3 _ := hr.mono (by decide)
    refine ⟨_, pss_cons (ps_set (i := 3) scRest.nd rfl (Or.inr rfl) (pcall O.mul hr3 (pass_cx fun _ z => z) (pa_c (pcall O.add hr3 (pass_cx fun _ z => z) (pa_c (pcall O.mul hr3 (pass_cx fun _ z => z) (pa_n (pv 1) (pa_n (pv 1) pa_nil))) (pa_c (pcall O.mul hr3 (pass_cx fun _ z => z) (pa_n (pv 2) (pa_n (pv 2) pa_nil))) pa_nil))) (pa_n (pgl O.N.oah) pa_nil))))
      (pss_cons (ps_set (i := 4) scRest.nd rfl (Or.inl rfl) (pcall os hr (pass_cx fun _ z => z) (pa_n (pv 1) (pa_n (pv 2) pa_nil))))
      (pss_one (ps_ret (pe_callTy call_tuple_of rfl B.tuple PyProof.Rows.boot_tuple (pa_cons (pe_lcx (own := [("weight", 5), ("speed", 6)]) (g := gTup K 2 (gCons (gName 5) (gCons (gName 6) gNil))) E (fun _ z => z) scRest.nd (pi_zipt rfl B.zip (pa_n (pgl hgW) (pa_n (pv 4) pa_nil))) (blkOk_by (by decide +kernel))
        (by intro _ _ _ _ _; refine pg_tup rfl ?_; exact pgs_cons (pg_name (i := 5) scRest.nd rfl (Or.inl rfl)) (pgs_cons (pg_name (i := 6) scRest.nd rfl (Or.inl rfl)) pgs_nil))
        (by intro _ _ _ _ _ _ hx; exact pcall oh hr hx (pa_n (pv 5) (pa_n (pv 0) (pa_n (pv 6) (pa_n (pv 3) pa_nil)))))) pa_nil))))), ?_⟩
    unfold restN restU at k
    refine ⟨_, rfl, _, rfl, ux, ux, rfl, hx, hx, ?_⟩
    cases h1 : mulN ux ux with
    | none => rw [h1] at k; exact k H (Same.refl H)
    | some a =>
    rw [h1, Option.bind_some] at k
    have ha := mulN_lt h1
    refine ⟨_, rfl, _, rfl, uy, uy, rfl, hy, hy, ?_⟩
    cases h2 : mulN uy uy with
    | none => rw [h2] at k; exact k H (Same.refl H)
    | some b =>
    rw [h2, Option.bind_some] at k
    have hb := mulN_lt h2
    refine ⟨a, b, rfl, ha, hb, ?_⟩
    cases h3 : addN a b with
    | none => rw [h3] at k; exact k H (Same.refl H)
    | some c =>
    rw [h3, Option.bind_some] at k
    have hc := addN_lt h3
    refine ⟨c, Sn42.THREE_HALVES, rfl, hc, doh, ?_⟩
    cases h4 : mulN c Sn42.THREE_HALVES with
    | none => rw [h4] at k; exact k H (Same.refl H)
    | some u =>
    rw [h4, Option.bind_some] at k
    have hu := mulN_lt h4
    refine ⟨_, rfl, _, rfl, ux, uy, rfl, hx, hy, ?_⟩
    cases h5 : speedsN ux uy with
    | none => rw [h5] at k; exact k
    | some al =>
    rw [h5, Option.bind_some] at k
    obtain ⟨hal, hal64⟩ := speedsN_ok hx hy h5
    intro t H1 s1 ht
    refine ⟨_, rfl, aW, t, weightsN.map nI, al.map nI, rfl, hW H1, SqT.of ht, fun D hD => ?_⟩
    refine lc_zipN (C := C) (F := fun p : Nat × Nat => shareN p.1 rho p.2 u) (EX := E) (by rw [hal]; rfl) (by decide) hD (fun H2 _ => hW H2) (fun H2 s2 => SqT.of (s2 t _ ht)) ?_ (fun hn H2 s2 => ?_) (fun r H2 hs s2 hD2 => ?_)
    · intro x y T H2 Q' hxm hym hT s2 hres
      refine ⟨T, _, rfl, SqT.of upd_same, rfl, _, _, rfl, _, _, rfl, rfl, rfl, ?_⟩
      exact ⟨_, rfl, _, rfl, _, rfl, _, rfl, x, rho, y, u, rfl, weight_lt x hxm, hrho, hal64 y hym, hu, hres⟩
    · rw [hn] at k
      exact k H2 (s1.trans s2)
    · rw [hs] at k
      exact ⟨D, r.map nI, rfl, .inl ⟨SqL.of hD2, fun l hl => k l _ (same_upd (s1.trans s2) ((s1.trans s2).free hl)) upd_same⟩⟩
end
end Cf
namespace Cf
open PySem L2
section
variable {P : Program} {w : World} {K : PySem.W.Frag} {mg : Str → Option Value} {base : Heap} {C : Addr}
structure Nine (f : List Nat) : Prop where
  len : f.length = 9
  lt : ∀ x ∈ f, x < 2 ^ 64
theorem Nine.get {f : List Nat} (h : Nine f) (i : Nat) (hi : i < 9) : (f.map nI)[i]? = some (nI (f.getD i 0)) ∧ D64 (f.getD i 0) := by
  have hl : i < f.length := by rw [h.len]; exact hi
  have e : f[i]? = some f[i] := List.getElem?_eq_getElem hl
  have e2 : f.getD i 0 = f[i] := by rw [List.getD_eq_getElem?_getD, e]; rfl
  rw [e2]
  exact ⟨map_get e, h.lt _ (List.getElem_mem hl)⟩
noncomputable def spSum (K : PySem.W.Frag) (C : Addr) (g : List Nat → Option Nat) : Sp := fun vs H Q E => ∃ a f, vs = [.ref a] ∧ SqT K H a (f.map nI) ∧ Nine f ∧ res C (g f) H Q E
theorem scRgt : FnScope ["shares", "straight", "lower", "upper"] ["shares"] (defScope sRgt) := ⟨rfl, rfl, rfl, by decide +kernel, rfl, by decide +kernel, by decide +kernel⟩
theorem ok_rgt {f : Addr} {fd : FuncData} (F : Fun K "rightward" "rightward" sRgt f fd) (O : Ops P w K mg base C) : FnOk P w K mg base (CXN C P w) 4 f fd ["shares"] (spSum K C rightN) := by
  refine F.okX scRgt (fun vs H Q E h => ?_) (fun cdv A outer s H vs Q E hr h => ?_)
  · obtain ⟨a, b, rfl, _⟩ := h
    rfl
  · obtain ⟨a, f, rfl, hS, h9, k⟩ := h
    refine ⟨_, pss_cons (ps_set (i := 1) scRgt.nd rfl (Or.inl rfl) (pcall O.sub hr (pass_cx fun _ z => z) (pa_cons (pe_ix ix_tup (pv 0) pe_int (fun _ _ => rfl)) (pa_cons (pe_ix ix_tup (pv 0) pe_int (fun _ _ => rfl)) pa_nil))))
      (pss_cons (ps_set (i := 2) scRgt.nd rfl (Or.inl rfl) (pcall O.sub hr (pass_cx fun _ z => z) (pa_cons (pe_ix ix_tup (pv 0) pe_int (fun _ _ => rfl)) (pa_cons (pe_ix ix_tup (pv 0) pe_int (fun _ _ => rfl)) pa_nil))))
      (pss_cons (ps_set (i := 3) scRgt.nd rfl (Or.inl rfl) (pcall O.sub hr (pass_cx fun _ z => z) (pa_cons (pe_ix ix_tup (pv 0) pe_int (fun _ _ => rfl)) (pa_cons (pe_ix ix_tup (pv 0) pe_int (fun _ _ => rfl)) pa_nil))))
      (pss_one (ps_ret (pcall O.add hr (pass_cx fun _ z => z) (pa_c (pcall O.add hr (pass_cx fun _ z => z) (pa_n (pv 1) (pa_n (pv 2) pa_nil))) (pa_n (pv 3) pa_nil))))))), ?_⟩
    unfold rightN at k
    obtain ⟨e1, d1⟩ := h9.get 1 (by decide)
    obtain ⟨e3, d3⟩ := h9.get 3 (by decide)
    obtain ⟨e5, d5⟩ := h9.get 5 (by decide)
    obtain ⟨e6, d6⟩ := h9.get 6 (by decide)
    obtain ⟨e7, d7⟩ := h9.get 7 (by decide)
    obtain ⟨e8, d8⟩ := h9.get 8 (by decide)
    refine ⟨_, rfl, a, _, _, _, rfl, rfl, hS, atI_nat e1, _, rfl, a, _, _, _, rfl, rfl, hS, atI_nat e3, _, _, rfl, d1, d3, ?_⟩
    cases h1 : subN (f.getD 1 0) (f.getD 3 0) with
    | none => rw [h1] at k; exact k
    | some p =>
    rw [h1, Option.bind_some] at k
    refine ⟨_, rfl, a, _, _, _, rfl, rfl, hS, atI_nat e5, _, rfl, a, _, _, _, rfl, rfl, hS, atI_nat e6, _, _, rfl, d5, d6, ?_⟩
    cases h2 : subN (f.getD 5 0) (f.getD 6 0) with
    | none => rw [h2] at k; exact k
    | some q =>
    rw [h2, Option.bind_some] at k
    refine ⟨_, rfl, a, _, _, _, rfl, rfl, hS, atI_nat e8, _, rfl, a, _, _, _, rfl, rfl, hS, atI_nat e7, _, _, rfl, d8, d7, ?_⟩
    cases h3 : subN (f.getD 8 0) (f.getD 7 0) with
    | none => rw [h3] at k; exact k
    | some r =>
    rw [h3, Option.bind_some] at k
    refine ⟨_, rfl, _, rfl, p, q, rfl, subN_lt h1, subN_lt h2, ?_⟩
    cases h4 : addN p q with
    | none => rw [h4] at k; exact k
    | some t =>
    rw [h4, Option.bind_some] at k
    exact ⟨_, rfl, t, r, rfl, addN_lt h4, subN_lt h3, k⟩
theorem scDwn : FnScope ["shares", "straight", "right", "left"] ["shares"] (defScope sDwn) := ⟨rfl, rfl, rfl, by decide +kernel, rfl, by decide +kernel, by decide +kernel⟩
theorem ok_dwn {f : Addr} {fd : FuncData} (F : Fun K "downward" "downward" sDwn f fd) (O : Ops P w K mg base C) : FnOk P w K mg base (CXN C P w) 4 f fd ["shares"] (spSum K C downN) := by
  refine F.okX scDwn (fun vs H Q E h => ?_) (fun cdv A outer s H vs Q E hr h => ?_)
  · obtain ⟨a, b, rfl, _⟩ := h
    rfl
  · obtain ⟨a, f, rfl, hS, h9, k⟩ := h
    refine ⟨_, pss_cons (ps_set (i := 1) scDwn.nd rfl (Or.inl rfl) (pcall O.sub hr (pass_cx fun _ z => z) (pa_cons (pe_ix ix_tup (pv 0) pe_int (fun _ _ => rfl)) (pa_cons (pe_ix ix_tup (pv 0) pe_int (fun _ _ => rfl)) pa_nil))))
      (pss_cons (ps_set (i := 2) scDwn.nd rfl (Or.inl rfl) (pcall O.sub hr (pass_cx fun _ z => z) (pa_cons (pe_ix ix_tup (pv 0) pe_int (fun _ _ => rfl)) (pa_cons (pe_ix ix_tup (pv 0) pe_int (fun _ _ => rfl)) pa_nil))))
      (pss_cons (ps_set (i := 3) scDwn.nd rfl (Or.inl rfl) (pcall O.sub hr (pass_cx fun _ z => z) (pa_cons (pe_ix ix_tup (pv 0) pe_int (fun _ _ => rfl)) (pa_cons (pe_ix ix_tup (pv 0) pe_int (fun _ _ => rfl)) pa_nil))))
      (pss_one (ps_ret (pcall O.add hr (pass_cx fun _ z => z) (pa_c (pcall O.add hr (pass_cx fun _ z => z) (pa_n (pv 1) (pa_n (pv 2) pa_nil))) (pa_n (pv 3) pa_nil))))))), ?_⟩
    unfold downN at k
    obtain ⟨e2, d2⟩ := h9.get 2 (by decide)
    obtain ⟨e4, d4⟩ := h9.get 4 (by decide)
    obtain ⟨e5, d5⟩ := h9.get 5 (by decide)
    obtain ⟨e6, d6⟩ := h9.get 6 (by decide)
    obtain ⟨e7, d7⟩ := h9.get 7 (by decide)
    obtain ⟨e8, d8⟩ := h9.get 8 (by decide)
    refine ⟨_, rfl, a, _, _, _, rfl, rfl, hS, atI_nat e2, _, rfl, a, _, _, _, rfl, rfl, hS, atI_nat e4, _, _, rfl, d2, d4, ?_⟩
    cases h1 : subN (f.getD 2 0) (f.getD 4 0) with
    | none => rw [h1] at k; exact k
    | some p =>
    rw [h1, Option.bind_some] at k
    refine ⟨_, rfl, a, _, _, _, rfl, rfl, hS, atI_nat e5, _, rfl, a, _, _, _, rfl, rfl, hS, atI_nat e8, _, _, rfl, d5, d8, ?_⟩
    cases h2 : subN (f.getD 5 0) (f.getD 8 0) with
    | none => rw [h2] at k; exact k
    | some q =>
    rw [h2, Option.bind_some] at k
    refine ⟨_, rfl, a, _, _, _, rfl, rfl, hS, atI_nat e6, _, rfl, a, _, _, _, rfl, rfl, hS, atI_nat e7, _, _, rfl, d6, d7, ?_⟩
    cases h3 : subN (f.getD 6 0) (f.getD 7 0) with
    | none => rw [h3] at k; exact k
    | some r =>
    rw [h3, Option.bind_some] at k
    refine ⟨_, rfl, _, rfl, p, q, rfl, subN_lt h1, subN_lt h2, ?_⟩
    cases h4 : addN p q with
    | none => rw [h4] at k; exact k
    | some t =>
    rw [h4, Option.bind_some] at k
    exact ⟨_, rfl, t, r, rfl, addN_lt h4, subN_lt h3, k⟩
theorem right_lt {f : List Nat} {r : Nat} (h : rightN f = some r) : r < 2 ^ 64 := by
  unfold rightN at h
  simp only [Option.bind_eq_some_iff] at h
  obtain ⟨_, _, _, _, _, _, _, _, h⟩ := h
  exact addN_lt h
theorem down_lt {f : List Nat} {r : Nat} (h : downN f = some r) : r < 2 ^ 64 := by
  unfold downN at h
  simp only [Option.bind_eq_some_iff] at h
  obtain ⟨_, _, _, _, _, _, _, _, h⟩ := h
  exact addN_lt h
noncomputable def spFlow (K : PySem.W.Frag) (C : Addr) : Sp := fun vs H Q E => ∃ a f, vs = [.ref a] ∧ SqT K H a (f.map nI) ∧ Nine f ∧ resT C ((flowN f).map fun w => [w.1, w.2.1, w.2.2]) H Q E
theorem scFlow : FnScope ["shares", "rho", "share"] ["shares"] (defScope sFlow) := ⟨rfl, rfl, rfl, by decide +kernel, rfl, by decide +kernel, by decide +kernel⟩
theorem cut1 {f : List Nat} (h : f.length = 9) : cutV (f.map nI) (some 1) none = (f.drop 1).map nI ∧ ¬ (HT.sIx (f.map nI).length 0 (some 1) = 0 ∧ HT.sIx (f.map nI).length (f.map nI).length none = (f.map nI).length) := by
  match f, h with
  | [f0, f1, f2, f3, f4, f5, f6, f7, f8], _ => exact ⟨rfl, fun z => absurd (show (1 : Nat) = 0 from z.1) (by decide)⟩
theorem ok_flow {f : Addr} {fd : FuncData} (F : Fun K "flow_of" "flow_of" sFlow f fd) (O : Ops P w K mg base C) (og : Ok P w K mg base C 4 "rightward" ["shares"] (spSum K C rightN)) (od : Ok P w K mg base C 4 "downward" ["shares"] (spSum K C downN)) :
    FnOk P w K mg base (CXN C P w) 5 f fd ["shares"] (spFlow K C) := by
  refine F.okX scFlow (fun vs H Q E h => ?_) (fun cdv A outer s H vs Q E hr h => ?_)
  · obtain ⟨a, b, rfl, _⟩ := h
    rfl
  · obtain ⟨a, f, rfl, hS, h9, k⟩ := h
    have hr3 : Room 3 _ := hr.mono (by decide)
    refine ⟨_, pss_cons (ps_set (i := 1) scFlow.nd rfl (Or.inl rfl) (pe_ix ix_tup (pv 0) pe_int (fun _ _ => rfl)))
      (pss_cons (ps_for (own_cx rfl) rfl (pi_tup (pe_slice sl_tup (pv 0) (po_some pe_int) po_none)) (pg_name (i := 2) scFlow.nd rfl (Or.inl rfl))
        (pss_one (ps_set (i := 1) scFlow.nd rfl (Or.inl rfl) (pcall O.add hr3 (pass_cx fun _ z => z) (pa_n (pv 1) (pa_n (pv 2) pa_nil))))))
      (pss_one (ps_ret (pe_tup (pa_n (pv 1) (pa_c (pcall O.div hr3 (pass_cx fun _ z => z) (pa_c (pcall og hr (pass_cx fun _ z => z) (pa_n (pv 0) pa_nil)) (pa_n (pv 1) pa_nil)))
        (pa_c (pcall O.div hr3 (pass_cx fun _ z => z) (pa_c (pcall od hr (pass_cx fun _ z => z) (pa_n (pv 0) pa_nil)) (pa_n (pv 1) pa_nil))) pa_nil))))))), ?_⟩
    obtain ⟨e0, d0⟩ := h9.get 0 (by decide)
    obtain ⟨hcut, hnw⟩ := cut1 h9.len
    unfold flowN at k
    refine ⟨_, rfl, a, _, _, _, rfl, rfl, hS, atI_nat e0, ?_⟩
    refine ⟨_, rfl, _, rfl, a, _, rfl, hS, hnw, fun p hp => ?_⟩
    have hs1 : SqT K (upd H p (.tup (cutV (f.map nI) (some 1) none))) p ((f.drop 1).map nI) := by
      rw [← hcut]
      exact SqT.of upd_same
    refine ⟨p, rfl, ⟨_, hs1⟩, ?_⟩
    refine for_tup (K := K) (a := p) (xs := (f.drop 1).map nI) (fun i σ H2 => ∃ r v, σ = [some (.ref a), some (nI r), v] ∧ sumO (f.getD 0 0) ((f.drop 1).take i) = some r ∧ Same (upd H p (.tup (cutV (f.map nI) (some 1) none))) H2)
      ⟨f.getD 0 0, none, rfl, rfl, Same.refl _⟩ (fun i σ H2 _ ⟨_, _, _, _, s2⟩ => seqT s2 hs1) ?_ ?_
    · rintro i x σ H2 hx ⟨r, v, rfl, hsum, s2⟩
      obtain ⟨y, hy, rfl⟩ := get_map hx
      have hy64 : D64 y := h9.lt y (List.mem_of_mem_drop (List.mem_of_getElem? hy))
      have hr64 : D64 r := sumO_lt d0 hsum
      obtain ⟨m1, m2⟩ := sumO_take hsum hy
      refine ⟨_, rfl, _, rfl, r, y, rfl, hr64, hy64, ?_⟩
      cases h1 : addN r y with
      | none =>
        rw [m2 h1] at k
        exact k H2 ((same_new hp).trans s2)
      | some t => exact ⟨t, _, rfl, m1 t h1, s2⟩
    · rintro σ H2 ⟨rho, v, rfl, hsum, s2⟩
      rw [List.length_map, List.take_length] at hsum
      rw [hsum, Option.bind_some] at k
      have hrho : D64 rho := sumO_lt d0 hsum
      have s3 : Same H H2 := (same_new hp).trans s2
      have hS2 := seqT s3 hS
      refine ⟨_, rfl, _, rfl, a, f, rfl, hS2, h9, ?_⟩
      cases h1 : rightN f with
      | none => rw [h1] at k; exact k H2 s3
      | some mx =>
      rw [h1, Option.bind_some] at k
      refine ⟨_, rfl, mx, rho, rfl, right_lt h1, hrho, ?_⟩
      cases h2 : divN mx rho with
      | none => rw [h2] at k; exact k H2 s3
      | some ux =>
      rw [h2, Option.bind_some] at k
      refine ⟨_, rfl, a, f, rfl, hS2, h9, ?_⟩
      cases h3 : downN f with
      | none => rw [h3] at k; exact k H2 s3
      | some my =>
      rw [h3, Option.bind_some] at k
      refine ⟨_, rfl, my, rho, rfl, down_lt h3, hrho, ?_⟩
      cases h4 : divN my rho with
      | none => rw [h4] at k; exact k H2 s3
      | some uy =>
      rw [h4, Option.bind_some] at k
      exact ⟨by show 3 ≤ sizeLine; decide, fun t ht => k t _ (same_upd s3 (s3.free ht)) upd_same⟩
end
end Cf
namespace Cf
open PySem L2
theorem flowN_lt {f : List Nat} {v : Nat × Nat × Nat} (h9 : Nine f) (h : flowN f = some v) : D64 v.1 ∧ D64 v.2.1 ∧ D64 v.2.2 := by
  unfold flowN at h
  simp only [Option.bind_eq_some_iff] at h
  obtain ⟨rho, h1, mx, _, ux, h2, my, _, uy, h3, h⟩ := h
  cases h
  exact ⟨sumO_lt (h9.get 0 (by decide)).2 h1, divN_lt h2, divN_lt h3⟩
section
variable {P : Program} {w : World} {K : PySem.W.Frag} {mg : Str → Option Value} {base : Heap} {C : Addr}
noncomputable def spEC (K : PySem.W.Frag) (C : Addr) : Sp := fun vs H Q E => ∃ a f om, vs = [.ref a, nI om] ∧ SqT K H a (f.map nI) ∧ Nine f ∧ D64 om ∧ resT C (easedN om f) H Q E
theorem scEC : FnScope ["shares", "omega", "flow", "rest", "f", "r"] ["shares", "omega"] (defScope sEC) := ⟨rfl, rfl, rfl, by decide +kernel, rfl, by decide +kernel, by decide +kernel⟩
theorem ok_ec {f : Addr} {fd : FuncData} (F : Fun K "eased_cell" "eased_cell" sEC f fd) (O : Ops P w K mg base C) (B : Bl mg) (ofl : Ok P w K mg base C 5 "flow_of" ["shares"] (spFlow K C)) (ore : Ok P w K mg base C 5 "shares_at_rest" ["rho", "ux", "uy"] (spRest C)) :
    FnOk P w K mg base (CXN C P w) 6 f fd ["shares", "omega"] (spEC K C) := by
  refine F.okX scEC (fun vs H Q E h => ?_) (fun cdv A outer s H vs Q E hr h => ?_)
  · obtain ⟨a, b, c, rfl, _⟩ := h
    rfl
  · obtain ⟨a, f, om, rfl, hS, h9, hom, k⟩ := h
    have hr3 : Room 3 _ := hr.mono (by decide)
    refine ⟨_, pss_cons (ps_set (i := 2) scEC.nd rfl (Or.inl rfl) (pcall ofl hr (pass_cx fun _ z => z) (pa_n (pv 0) pa_nil)))
      (pss_cons (ps_set (i := 3) scEC.nd rfl (Or.inl rfl) (pcall ore hr (pass_cx fun _ z => z) (pa_cons (pe_ix ix_tup (pv 2) pe_int (fun _ _ => rfl)) (pa_cons (pe_ix ix_tup (pv 2) pe_int (fun _ _ => rfl)) (pa_cons (pe_ix ix_tup (pv 2) pe_int (fun _ _ => rfl)) pa_nil)))))
      (pss_one (ps_ret (pe_callTy call_tuple_of rfl B.tuple PyProof.Rows.boot_tuple (pa_cons (pe_lcx (own := [("f", 4), ("r", 5)]) (g := gTup K 2 (gCons (gName 4) (gCons (gName 5) gNil))) E (fun _ z => z) scEC.nd (pi_zipt rfl B.zip (pa_n (pv 0) (pa_n (pv 3) pa_nil))) (blkOk_by (by decide +kernel))
        (by intro _ _ _ _ _; refine pg_tup rfl ?_; exact pgs_cons (pg_name (i := 4) scEC.nd rfl (Or.inl rfl)) (pgs_cons (pg_name (i := 5) scEC.nd rfl (Or.inl rfl)) pgs_nil))
        (by intro _ _ _ _ _ _ hx; exact pcall O.sub hr3 hx (pa_n (pv 4) (pa_c (pcall O.mul hr3 hx (pa_n (pv 1) (pa_c (pcall O.sub hr3 hx (pa_n (pv 4) (pa_n (pv 5) pa_nil))) pa_nil))) pa_nil)))) pa_nil))))), ?_⟩
    unfold easedN at k
    refine ⟨_, rfl, a, f, rfl, hS, h9, ?_⟩
    cases h1 : flowN f with
    | none => rw [h1] at k; exact k
    | some v =>
    rw [h1, Option.bind_some] at k
    obtain ⟨v1, v2, v3⟩ := flowN_lt h9 h1
    intro t H1 s1 ht
    refine ⟨_, rfl, t, _, _, _, rfl, rfl, SqT.of ht, atI_nat (j := 0) rfl, _, rfl, t, _, _, _, rfl, rfl, SqT.of ht, atI_nat (j := 1) rfl, _, rfl, t, _, _, _, rfl, rfl, SqT.of ht, atI_nat (j := 2) rfl, v.1, v.2.1, v.2.2, rfl, v1, v2, v3, ?_⟩
    cases h2 : restN v.1 v.2.1 v.2.2 with
    | none => rw [h2] at k; exact fun H2 s2 => k H2 (s1.trans s2)
    | some r =>
    rw [h2, Option.bind_some] at k
    have hrl := restN_len h2
    have hr64 := restN_lt h2
    intro t2 H2 s2 ht2
    have hS2 := seqT (s1.trans s2) hS
    refine ⟨_, rfl, _, rfl, a, t2, f.map nI, r.map nI, rfl, hS2, SqT.of ht2, fun D hD => ?_⟩
    refine lc_zipN (C := C) (F := fun p : Nat × Nat => easeN om p.1 p.2) (EX := E) (by rw [hrl, h9.len]) (by rw [h9.len]; decide) hD (fun H3 s3 => seqT s3 hS2) (fun H3 s3 => SqT.of (s3 t2 _ ht2)) ?_ (fun hn H3 s3 => ?_) (fun r' H3 hs s3 hD3 => ?_)
    · intro x y T H3 Q' hxm hym hT s3 hres
      have hx : D64 x := h9.lt x hxm
      have hy : D64 y := hr64 y hym
      refine ⟨T, _, rfl, SqT.of upd_same, rfl, _, _, rfl, _, _, rfl, rfl, rfl, ?_⟩
      refine ⟨_, rfl, _, rfl, _, rfl, _, rfl, x, y, rfl, hx, hy, ?_⟩
      have hres : res C (easeN om x y) (upd H3 T (.tup [nI x, nI y])) Q' E := hres
      unfold easeN at hres
      cases g1 : subN x y with
      | none => rw [g1] at hres; exact hres
      | some d =>
      rw [g1, Option.bind_some] at hres
      refine ⟨om, d, rfl, hom, subN_lt g1, ?_⟩
      cases g2 : mulN om d with
      | none => rw [g2] at hres; exact hres
      | some e =>
      rw [g2, Option.bind_some] at hres
      exact ⟨x, e, rfl, hx, mulN_lt g2, hres⟩
    · rw [hn] at k
      exact k H3 ((s1.trans s2).trans s3)
    · rw [hs] at k
      have s4 := (s1.trans s2).trans s3
      exact ⟨D, r'.map nI, rfl, .inl ⟨SqL.of hD3, fun l hl => k l _ (same_upd s4 (s4.free hl)) upd_same⟩⟩
end
structure Cells (H : Hp) (ts : List Addr) (sh : List (List Nat)) : Prop where
  len : ts.length = sh.length
  at_ : ∀ (i : Nat) (t : Addr) (f : List Nat), ts[i]? = some t → sh[i]? = some f → H t = some (.tup (f.map nI))
theorem Cells.same {H H' : Hp} {ts : List Addr} {sh : List (List Nat)} (c : Cells H ts sh) (s : Same H H') : Cells H' ts sh := ⟨c.len, fun i t f h1 h2 => s _ _ (c.at_ i t f h1 h2)⟩
theorem Cells.nil {H : Hp} : Cells H [] [] := ⟨rfl, fun i t f h => by simp at h⟩
theorem Cells.snoc {H : Hp} {ts : List Addr} {sh : List (List Nat)} {t : Addr} {f : List Nat} (c : Cells H ts sh) (h : H t = some (.tup (f.map nI))) : Cells H (ts ++ [t]) (sh ++ [f]) := by
  refine ⟨by rw [List.length_append, List.length_append, c.len]; rfl, fun i t' f' h1 h2 => ?_⟩
  by_cases hi : i < ts.length
  · rw [List.getElem?_append_left hi] at h1
    rw [List.getElem?_append_left (by rw [← c.len]; exact hi)] at h2
    exact c.at_ i t' f' h1 h2
  · have hl := c.len
    rw [List.getElem?_append_right (by omega)] at h1
    rw [List.getElem?_append_right (by omega)] at h2
    have e : i - ts.length = i - sh.length := by omega
    rw [← e] at h2
    cases hj : i - ts.length with
    | zero =>
      rw [hj] at h1 h2
      cases h1
      cases h2
      exact h
    | succ j =>
      rw [hj] at h1
      simp at h1
theorem Cells.get {H : Hp} {ts : List Addr} {sh : List (List Nat)} {i : Nat} {t : Addr} (c : Cells H ts sh) (h : ts[i]? = some t) : ∃ f, sh[i]? = some f ∧ H t = some (.tup (f.map nI)) := by
  have hi : i < sh.length := by rw [← c.len]; exact (List.getElem?_eq_some_iff.mp h).1
  exact ⟨sh[i], List.getElem?_eq_getElem hi, c.at_ i t _ h (List.getElem?_eq_getElem hi)⟩
noncomputable abbrev wI (b : Bool) : V := .int (if b = true then 1 else 0)
theorem wI_1 (b : Bool) : decide (wI b = V.int 1) = b := by cases b <;> decide
theorem wI_0 (b : Bool) : decide (wI b = V.int 0) = !b := by cases b <;> decide
noncomputable def resC (C : Addr) (o : Option (List (List Nat))) (H : Hp) (Q : VK) (E : XK) : Prop := match o with
  | some l => ∀ e ts H', Same H H' → H e = none → H' e = some (.lst (ts.map V.ref)) → Cells H' ts l → Q (.ref e) H'
  | none => ∀ H', Same H H' → E (.ref C) none H'
noncomputable def keyN (f : List Nat) : List Key := f.map fun (x : Nat) => (Sum.inl (x : Int) : Key)
theorem keyN_kV (f : List Nat) : (keyN f).map kV = f.map nI := by
  unfold keyN
  rw [List.map_map]
  rfl
theorem keyN_inj : ∀ {a b : List Nat}, keyN a = keyN b → a = b
  | [], [], _ => rfl
  | [], _ :: _, h => by cases h
  | _ :: _, [], h => by cases h
  | x :: a, y :: b, h => by
    have h : (Sum.inl (x : Int) : Key) :: keyN a = (Sum.inl (y : Int) : Key) :: keyN b := h
    injection h with h1 h2
    injection h1 with h1
    rw [keyN_inj h2, show x = y by omega]
noncomputable def EasedInv (H : Hp) (sh : List (List Nat)) (ws : List Bool) (om : Nat) (ca wa kn e : Addr) (i : Nat) (σ : St) (H2 : Hp) : Prop := ∃ (kvs : List (List Key × V)) (us : List Addr) (acc : List (List Nat)) (v1 v2 : Option V), σ = [some (.ref ca), some (.ref wa), some (nI om), some (.ref kn), some (.ref e), v1, v2] ∧ Same H H2 ∧ H2 kn = some (.dT kvs) ∧ kvs.length ≤ i ∧ (∀ (f : List Nat) (v : V), valV kvs (keyN f) = some v → ∃ t g, v = .ref t ∧ easedN om f = some g ∧ H2 t = some (.tup (g.map nI))) ∧ H2 e = some (.lst (us.map V.ref)) ∧ Cells H2 us acc ∧ mapO (fun p : List Nat × Bool => if p.2 = true then some p.1 else easedN om p.1) ((sh.zip ws).take i) = some acc
section
variable {P : Program} {w : World} {K : PySem.W.Frag} {mg : Str → Option Value} {base : Heap} {C : Addr}
noncomputable def spECs (C : Addr) : Sp := fun vs H Q E => ∃ ca wa ts sh ws om, vs = [.ref ca, .ref wa, nI om] ∧ H ca = some (.lst (ts.map V.ref)) ∧ Cells H ts sh ∧ (∀ f ∈ sh, Nine f) ∧ H wa = some (.lst (ws.map wI)) ∧ ws.length = sh.length ∧ sh.length ≤ 65536 ∧ D64 om ∧ resC C (easedAll om ws sh) H Q E
theorem scECs : FnScope ["cells", "walls", "omega", "known", "eased", "shares", "is_wall"] ["cells", "walls", "omega"] (defScope sECs) := ⟨rfl, rfl, rfl, by decide +kernel, rfl, by decide +kernel, by decide +kernel⟩
theorem ok_ecs {f : Addr} {fd : FuncData} (F : Fun K "eased_cells" "eased_cells" sECs f fd) (B : Bl mg) (oe : Ok P w K mg base C 6 "eased_cell" ["shares", "omega"] (spEC K C)) :
    FnOk P w K mg base (CXN C P w) 7 f fd ["cells", "walls", "omega"] (spECs C) := by
  refine F.okX scECs (fun vs H Q E h => ?_) (fun cdv A outer s H vs Q E hr h => ?_)
  · obtain ⟨ca, wa, ts, sh, ws, om, rfl, _⟩ := h
    rfl
  · obtain ⟨ca, wa, ts, sh, ws, om, rfl, hca, hcs, h9, hwa, hwl, hsz, hom, k⟩ := h
    have hu := hu_of hr
    refine ⟨_, pss_cons (ps_set (i := 3) scECs.nd rfl (Or.inl rfl) pe_dnewT)
      (pss_cons (ps_set (i := 4) scECs.nd rfl (Or.inl rfl) (pe_lst pa_nil))
      (pss_cons (ps_for (own_cx rfl) rfl (pi_zip rfl B.zip (pa_n (pv 0) (pa_n (pv 1) pa_nil))) (pg_tup rfl (pgs_cons (pg_name (i := 5) scECs.nd rfl (Or.inl rfl)) (pgs_cons (pg_name (i := 6) scECs.nd rfl (Or.inl rfl)) pgs_nil)))
        (pss_one (ps_if (pt_cmpR op_eq (pv 6) pe_int (nomark _))
          (pss_one (ps_expr (pe_bm PySem.F.plainAttrs_list PySem.F.slot_list_append PySem.F.type_list_append mt_append (pv 4) (pa_n (pv 5) pa_nil))))
          (pss_cons (ps_if (pt_cmp (pc_dnotin hu (pv 5) (pv 3))) (pss_one (ps_dput hu (pv 3) (pv 5) (pcall oe hr (pass_cx fun _ z => z) (pa_n (pv 5) (pa_n (pv 2) pa_nil))) rfl)) pss_nil)
            (pss_one (ps_expr (pe_bm PySem.F.plainAttrs_list PySem.F.slot_list_append PySem.F.type_list_append mt_append (pv 4) (pa_cons (pe_dget hu (pv 3) (pv 5) (fun _ _ => rfl)) pa_nil))))))))
      (pss_one (ps_ret (pv 4))))), ?_⟩
    intro kn hkn
    refine ⟨by show 0 ≤ sizeLine; decide, fun e he => ?_⟩
    have hen : H e = none := (same_new hkn).free he
    have hke : kn ≠ e := ne_of_none (o := .dT []) upd_same he
    have hzl : (sh.zip ws).length = sh.length := by rw [List.length_zip]; omega
    have s0 : Same H (upd (upd H kn (.dT [])) e (.lst [])) := same_upd (same_new hkn) hen
    refine ⟨_, rfl, _, rfl, ca, wa, _, _, rfl, SqL.of (s0 _ _ hca), SqL.of (s0 _ _ hwa), ?_⟩
    unfold easedAll at k
    refine for_zip (K := K) (xs := ts.map V.ref) (ys := ws.map wI) (by rw [List.length_map, List.length_map, hcs.len, hwl])
      (EasedInv H sh ws om ca wa kn e)
      ⟨[], [], [], none, none, rfl, s0, by rw [upd_ne hke, upd_same], Nat.le_refl _, (fun f v z => by cases z), upd_same, Cells.nil, rfl⟩ ?_ ?_ ?_
    · rintro i σ H2 _ ⟨_, _, _, _, _, _, s2, _⟩
      exact ⟨SqL.of (s2 _ _ hca), SqL.of (s2 _ _ hwa)⟩
    · rintro i x y T σ H2 hx hy hT ⟨kvs, us, acc, v1, v2, rfl, s2, hk2, hkl, hkv, he2, hus, hm⟩
      obtain ⟨t, ht, rfl⟩ := get_map hx
      obtain ⟨b, hb, rfl⟩ := get_map hy
      obtain ⟨f, hf, hft⟩ := hcs.get ht
      have h9f : Nine f := h9 f (List.mem_of_getElem? hf)
      have hpq : (sh.zip ws)[i]? = some (f, b) := List.getElem?_zip_eq_some.mpr ⟨hf, hb⟩
      obtain ⟨m1, m2⟩ := mapO_take hm hpq
      have hil : i < sh.length := (List.getElem?_eq_some_iff.mp hf).1
      have hacc : us.length < sizeLine := by
        rw [hus.len, mapO_len hm, List.length_take, PySem.sizeLine_eq]
        omega
      have nkT : kn ≠ T := ne_of_none hk2 hT
      have neT : e ≠ T := ne_of_none he2 hT
      have s3 : Same H2 (upd H2 T (.tup [.ref t, wI b])) := same_new hT
      refine ⟨T, _, rfl, SqT.of upd_same, rfl, _, _, rfl, _, _, rfl, rfl, ?_⟩
      generalize hH3 : upd H2 T (.tup [.ref t, wI b]) = H3 at s3
      have hft3 : H3 t = some (.tup (f.map nI)) := s3 _ _ (s2 _ _ hft)
      have hk3 := s3 _ _ hk2
      have he3 := s3 _ _ he2
      refine ⟨_, rfl, rfl, _, rfl, ?_⟩
      show if decide (wI b = V.int 1) = true then _ else _
      rw [wI_1]
      refine ite2 (fun hbt => ?_) (fun hbf => ?_)
      · -- a wall keeps its shares
        refine ⟨_, rfl, .inl ⟨rfl, _, SqL.of he3⟩, _, rfl, e, _, _, rfl, rfl, he3, by rw [List.length_map]; exact hacc, ?_⟩
        have s4 : ∀ b o, b ≠ e → H3 b = some o → upd H3 e (.lst (us.map V.ref ++ [.ref t])) b = some o := fun b o hb z => by rw [upd_ne hb]; exact z
        have nte : t ≠ e := ne_of hft3 he3 (by intro z; cases z)
        refine ⟨kvs, us ++ [t], acc ++ [f], _, _, rfl, same_upd (s2.trans s3) hen, s4 _ _ hke hk3, by omega, fun f' v z => ?_, by rw [upd_same, List.map_append]; rfl, ?_, m1 f (by show (if b = true then _ else _) = _; rw [if_pos hbt])⟩
        · obtain ⟨t', g, rfl, h1, h2⟩ := hkv f' v z
          exact ⟨t', g, rfl, h1, s4 _ _ (ne_of (s3 _ _ h2) he3 (by intro z; cases z)) (s3 _ _ h2)⟩
        · refine Cells.snoc ⟨hus.len, fun j u f' h1 h2 => ?_⟩ (s4 _ _ nte hft3)
          have z := s3 _ _ (hus.at_ j u f' h1 h2)
          exact s4 _ _ (ne_of z he3 (by intro z; cases z)) z
      · -- no wall
        have hft3' : H3 t = some (.tup ((keyN f).map kV)) := by rw [keyN_kV]; exact hft3
        have m1' : ∀ g, easedN om f = some g → mapO (fun p : List Nat × Bool => if p.2 = true then some p.1 else easedN om p.1) ((sh.zip ws).take (i + 1)) = some (acc ++ [g]) := fun g hg => m1 g (by show (if b = true then _ else _) = _; rw [if_neg hbf]; exact hg)
        -- eased.append(known[shares])
        have fin : ∀ (kvs' : List (List Key × V)) (H5 : Hp) (tg : Addr) (g : List Nat), Same H H5 → H5 kn = some (.dT kvs') → kvs'.length ≤ i + 1 → (∀ (f : List Nat) (v : V), valV kvs' (keyN f) = some v → ∃ t g, v = .ref t ∧ easedN om f = some g ∧ H5 t = some (.tup (g.map nI))) →
            H5 e = some (.lst (us.map V.ref)) → Cells H5 us acc → easedN om f = some g → H5 tg = some (.tup (g.map nI)) →
            EasedInv H sh ws om ca wa kn e (i + 1) [some (.ref ca), some (.ref wa), some (nI om), some (.ref kn), some (.ref e), some (.ref t), some (wI b)] (upd H5 e (.lst (us.map V.ref ++ [.ref tg]))) := by
          intro kvs' H5 tg g s5 hk5 hkl5 hkv5 he5 hus5 hg htg
          have s4 : ∀ b o, b ≠ e → H5 b = some o → upd H5 e (.lst (us.map V.ref ++ [.ref tg])) b = some o := fun b o hb z => by rw [upd_ne hb]; exact z
          refine ⟨kvs', us ++ [tg], acc ++ [g], some (.ref t), some (wI b), rfl, same_upd s5 hen, s4 _ _ hke hk5, hkl5, fun f' v z => ?_, by rw [upd_same, List.map_append]; rfl, ?_, m1' g hg⟩
          · obtain ⟨t', g', rfl, h1, h2⟩ := hkv5 f' v z
            exact ⟨t', g', rfl, h1, s4 _ _ (ne_of h2 he5 (by intro z; cases z)) h2⟩
          · refine Cells.snoc ⟨hus5.len, fun j u f' h1 h2 => ?_⟩ (s4 _ _ (ne_of htg he5 (by intro z; cases z)) htg)
            have z := hus5.at_ j u f' h1 h2
            exact s4 _ _ (ne_of z he5 (by intro z; cases z)) z
        refine ⟨_, rfl, _, rfl, kn, _, rfl, DGet.t hk3 hft3', _, rfl, ?_⟩
        cases ev : valV kvs (keyN f) with
        | some v =>
          refine iteF ?_
          obtain ⟨tg, g, rfl, hg, htg⟩ := hkv f v ev
          refine ⟨_, rfl, .inl ⟨rfl, _, SqL.of he3⟩, _, rfl, _, rfl, kn, .ref tg, rfl, by rw [← ev]; exact DGet.t hk3 hft3', e, _, _, rfl, rfl, he3, by rw [List.length_map]; exact hacc, ?_⟩
          exact fin kvs H3 tg g (s2.trans s3) hk3 (by omega) (fun f' v z => let ⟨t', g', a1, a2, a3⟩ := hkv f' v z; ⟨t', g', a1, a2, s3 _ _ a3⟩) he3 (hus.same s3) hg (s3 _ _ htg)
        | none =>
          refine iteT ?_
          refine ⟨_, rfl, _, rfl, t, f, om, rfl, SqT.of hft3, h9f, hom, ?_⟩
          cases hg : easedN om f with
          | none =>
            rw [m2 (by show (if b = true then _ else _) = _; rw [if_neg hbf]; exact hg)] at k
            exact fun H4 s4 => k H4 ((s2.trans s3).trans s4)
          | some g =>
            intro tg H4 s4 htg
            have hk4 := s4 _ _ hk3
            have he4 := s4 _ _ he3
            have hft4' := s4 _ _ hft3'
            have hknl : kvs.length < sizeLine := by rw [PySem.sizeLine_eq]; omega
            refine ⟨_, rfl, _, rfl, kn, _, rfl, DPut.t hk4 hft4' hknl, ?_⟩
            have s5 : ∀ b o, b ≠ kn → H4 b = some o → upd H4 kn (.dT (putK kvs (keyN f) (.ref tg))) b = some o := fun b o hb z => by rw [upd_ne hb]; exact z
            have nt : ∀ {q : Addr} {l : List V}, H4 q = some (.tup l) → q ≠ kn := fun z => ne_of z hk4 (by intro z; cases z)
            have he5 := s5 _ _ hke.symm he4
            have eput : valV (putK kvs (keyN f) (.ref tg)) (keyN f) = some (.ref tg) := by rw [valV_put, if_pos rfl]
            have hft5' := s5 _ _ (nt hft4') hft4'
            refine ⟨_, rfl, .inl ⟨rfl, _, SqL.of he5⟩, _, rfl, _, rfl, kn, .ref tg, rfl, by rw [← eput]; exact DGet.t upd_same hft5', e, _, _, rfl, rfl, he5, by rw [List.length_map]; exact hacc, ?_⟩
            refine fin _ _ tg g (same_upd ((s2.trans s3).trans s4) hkn) upd_same (Nat.le_trans (length_putK _ _ _) (by omega)) (fun f' v z => ?_) he5 ⟨hus.len, fun j u f' h1 h2 => ?_⟩ hg (s5 _ _ (nt htg) htg)
            · rw [valV_put] at z
              by_cases hkk : keyN f' = keyN f
              · rw [if_pos hkk] at z
                cases z
                rw [keyN_inj hkk]
                exact ⟨tg, g, rfl, hg, s5 _ _ (nt htg) htg⟩
              · rw [if_neg hkk] at z
                obtain ⟨t', g', a1, a2, a3⟩ := hkv f' v z
                have a4 := s4 _ _ (s3 _ _ a3)
                exact ⟨t', g', a1, a2, s5 _ _ (nt a4) a4⟩
            · have z := s4 _ _ (s3 _ _ (hus.at_ j u f' h1 h2))
              exact s5 _ _ (nt z) z
    · rintro σ H2 ⟨kvs, us, acc, v1, v2, rfl, s2, hk2, hkl, hkv, he2, hus, hm⟩
      rw [List.length_map, hcs.len, ← hzl, List.take_length] at hm
      rw [hm] at k
      exact ⟨_, rfl, k e us H2 s2 hen he2 hus⟩
end
end Cf
namespace Cf
open PySem L2
structure Srcs (H : Hp) (rs : List Addr) (ls : List (List Nat)) : Prop where
  len : rs.length = ls.length
  at_ : ∀ (i : Nat) (r : Addr) (l : List Nat), rs[i]? = some r → ls[i]? = some l → H r = some (.lst (l.map nI))
theorem Srcs.same {H H' : Hp} {rs : List Addr} {ls : List (List Nat)} (c : Srcs H rs ls) (s : Same H H') : Srcs H' rs ls := ⟨c.len, fun i t f h1 h2 => s _ _ (c.at_ i t f h1 h2)⟩
theorem Srcs.nil {H : Hp} : Srcs H [] [] := ⟨rfl, fun i t f h => by simp at h⟩
theorem Srcs.snoc {H : Hp} {rs : List Addr} {ls : List (List Nat)} {t : Addr} {f : List Nat} (c : Srcs H rs ls) (h : H t = some (.lst (f.map nI))) : Srcs H (rs ++ [t]) (ls ++ [f]) := by
  refine ⟨by rw [List.length_append, List.length_append, c.len]; rfl, fun i t' f' h1 h2 => ?_⟩
  by_cases hi : i < rs.length
  · rw [List.getElem?_append_left hi] at h1
    rw [List.getElem?_append_left (by rw [← c.len]; exact hi)] at h2
    exact c.at_ i t' f' h1 h2
  · have hl := c.len
    rw [List.getElem?_append_right (by omega)] at h1
    rw [List.getElem?_append_right (by omega)] at h2
    have e : i - rs.length = i - ls.length := by omega
    rw [← e] at h2
    cases hj : i - rs.length with
    | zero =>
      rw [hj] at h1 h2
      cases h1
      cases h2
      exact h
    | succ j =>
      rw [hj] at h1
      simp at h1
noncomputable def dxs : List Int := [0, 1, 0, -1, 0, 1, -1, -1, 1]
noncomputable def dys : List Int := [0, 0, 1, 0, -1, 1, 1, -1, -1]
noncomputable def backs : List Nat := [0, 3, 4, 1, 2, 7, 8, 5, 6]
theorem ways_get : ∀ i, i < 9 → dxs[i]? = some (Sn42.ways.getD i (0, 0)).1 ∧ dys[i]? = some (Sn42.ways.getD i (0, 0)).2 ∧ backs[i]? = some (Sn42.back i) := by decide
structure Ways (K : PySem.W.Frag) (mg : Str → Option Value) : Prop where
  wc : G mg "WAY_COUNT" (.int 9)
  rw : GT K mg "RIGHTWARD" (dxs.map V.int)
  dw : GT K mg "DOWNWARD" (dys.map V.int)
  wb : GT K mg "WAYS_BACK" (backs.map nI)
theorem source_at {g : Sn42.Grid} {x y : Nat} (hx : x < g.cols) (hy : y < g.rows) (i : Nat) :
    ((y : Int) - (Sn42.ways.getD i (0, 0)).2) % (g.rows : Int) * (g.cols : Int) + ((x : Int) - (Sn42.ways.getD i (0, 0)).1) % (g.cols : Int) = ((Sn42.source g (y * g.cols + x) i : Nat) : Int) := by
  unfold Sn42.source
  simp only []
  have e1 : (y * g.cols + x) % g.cols = x := by
    rw [Nat.mul_comm, Nat.mul_add_mod, Nat.mod_eq_of_lt hx]
  have e2 : (y * g.cols + x) / g.cols = y := by
    rw [Nat.mul_comm, Nat.mul_add_div (by omega), Nat.div_eq_of_lt hx, Nat.add_zero]
  rw [e1, e2, Int.natCast_add, Int.natCast_mul]
  have a := Int.emod_nonneg ((y : Int) - (Sn42.ways.getD i (0, 0)).2) (b := (g.rows : Int)) (by omega)
  have b := Int.emod_nonneg ((x : Int) - (Sn42.ways.getD i (0, 0)).1) (b := (g.cols : Int)) (by omega)
  rw [Int.toNat_of_nonneg a, Int.toNat_of_nonneg b]
theorem walls_get {g : Sn42.Grid} {n : Nat} (hl : n < g.walls.length) : (g.walls.map wI)[n]? = some (wI (g.wall n)) := by
  have e : g.walls[n]? = some g.walls[n] := List.getElem?_eq_getElem hl
  rw [map_get e]
  unfold Sn42.Grid.wall
  rw [List.getD_eq_getElem?_getD, e]
  rfl
theorem take_snoc {α : Type} {l : List α} {i : Nat} {x : α} (h : l[i]? = some x) : l.take (i + 1) = l.take i ++ [x] := by
  rw [List.take_add_one, h]
  rfl
theorem srcN_wall {g : Sn42.Grid} {k i : Nat} (hw : g.wall k = true) (hi : i < 9) : (srcN g k)[i]? = some (k * 9 + i) := by
  unfold srcN
  rw [if_pos hw, List.getElem?_map, List.getElem?_range hi]
  rfl
theorem srcN_free {g : Sn42.Grid} {k i : Nat} (hw : ¬ g.wall k = true) (hi : i < 9) : (srcN g k)[i]? = some (if g.wall (Sn42.source g k i) = true then k * 9 + Sn42.back i else Sn42.source g k i * 9 + i) := by
  unfold srcN
  rw [if_neg hw, List.getElem?_map, List.getElem?_range hi]
  rfl
theorem cell_lt {c r x y : Nat} (hx : x < c) (hy : y < r) : y * c + x < c * r := by
  have h : (y + 1) * c ≤ r * c := Nat.mul_le_mul_right _ hy
  rw [Nat.add_mul, Nat.one_mul, Nat.mul_comm r] at h
  omega
section
variable {P : Program} {w : World} {K : PySem.W.Frag} {mg : Str → Option Value} {base : Heap} {C : Addr}
noncomputable def spCS : Sp := fun vs H Q _ => ∃ (g : Sn42.Grid) (wa : Addr) (x y : Nat), vs = [nI g.cols, nI g.rows, .ref wa, nI x, nI y] ∧ WF g ∧ H wa = some (.lst (g.walls.map wI)) ∧ x < g.cols ∧ y < g.rows ∧
  ∀ l H', Same H H' → H l = none → H' l = some (.lst ((srcN g (y * g.cols + x)).map nI)) → Q (.ref l) H'
theorem scCS : FnScope ["cols", "rows", "walls", "x", "y", "here", "way", "sources", "there"] ["cols", "rows", "walls", "x", "y"] (defScope sCS) := ⟨rfl, rfl, rfl, by decide +kernel, rfl, by decide +kernel, by decide +kernel⟩
noncomputable def CsInv (H : Hp) (g : Sn42.Grid) (wa l : Addr) (x y kk : Nat) (i : Nat) (σ : St) (H2 : Hp) : Prop := ∃ v6 v8, σ = [some (nI g.cols), some (nI g.rows), some (.ref wa), some (nI x), some (nI y), some (.int ((y : Int) * (g.cols : Int) + (x : Int))), v6, some (.ref l), v8] ∧ H2 l = some (.lst (((srcN g kk).take i).map nI)) ∧ Same H H2
theorem ok_cs {f : Addr} {fd : FuncData} (F : Fun K "cell_sources" "cell_sources" sCS f fd) (B : Bl mg) (Wy : Ways K mg) : FnOk P w K mg base (CXN C P w) 1 f fd ["cols", "rows", "walls", "x", "y"] spCS := by
  obtain ⟨wc, ⟨aR, gR, hR⟩, ⟨aD, gD, hD⟩, ⟨aB, gB, hB⟩⟩ := Wy
  refine F.okX scCS (fun vs H Q E h => ?_) (fun cdv A outer s H vs Q E hr h => ?_)
  · obtain ⟨g, wa, x, y, rfl, _⟩ := h
    rfl
  · obtain ⟨g, wa, x, y, rfl, W, hwa, hx, hy, k⟩ := h
    have c1 := W.c1
    have c2 := W.c2
    have r1 := W.r1
    have r2 := W.r2
    have hkl := cell_lt hx hy
    have hcr : g.cols * g.rows ≤ 256 * 256 := Nat.mul_le_mul c2 r2
    refine ⟨_, pss_cons (ps_set (i := 5) scCS.nd rfl (Or.inr rfl) (pe_op op_add (pe_op op_mul (pv 4) (pv 0)) (pv 3)))
      (pss_cons (ps_if (pt_cmpR op_eq (pe_ix ix_list (pv 2) (pv 5) (fun _ _ => rfl)) pe_int (nomark _))
        (pss_one (ps_ret (pe_lcn (own := [("way", 6)]) rfl scCS.nd (pi_range1 rfl B.range (pa_n (pgl wc) pa_nil)) (blkOk_by (N := ["cols", "rows", "walls", "x", "y", "here", "way", "sources", "there"]) (sc := defScope sCS) (by decide +kernel)) (by intro _ _ _ _ _; exact pg_name (i := 6) scCS.nd rfl (Or.inl rfl))
          (by intro _ _ _ _ _ _; exact pe_op op_add (pe_op op_mul (pv 5) (pgl wc)) (pv 6))))) pss_nil)
      (pss_cons (ps_set (i := 7) scCS.nd rfl (Or.inl rfl) (pe_lst pa_nil))
      (pss_cons (ps_for (own_cx rfl) rfl (pi_range1 rfl B.range (pa_n (pgl wc) pa_nil)) (pg_name (i := 6) scCS.nd rfl (Or.inl rfl))
        (pss_cons (ps_set (i := 8) scCS.nd rfl (Or.inl rfl) (pe_op op_add (pe_op op_mul (pe_op op_mod (pe_op op_sub (pv 4) (pe_ix ix_tup (pgl gD) (pv 6) (fun _ _ => rfl))) (pv 1)) (pv 0)) (pe_op op_mod (pe_op op_sub (pv 3) (pe_ix ix_tup (pgl gR) (pv 6) (fun _ _ => rfl))) (pv 0))))
        (pss_one (ps_if (pt_cmpR op_eq (pe_ix ix_list (pv 2) (pv 8) (fun _ _ => rfl)) pe_int (nomark _))
          (pss_one (ps_expr (pe_bm PySem.F.plainAttrs_list PySem.F.slot_list_append PySem.F.type_list_append mt_append (pv 7) (pa_cons (pe_op op_add (pe_op op_mul (pv 5) (pgl wc)) (pe_ix ix_tup (pgl gB) (pv 6) (fun _ _ => rfl))) pa_nil))))
          (pss_one (ps_expr (pe_bm PySem.F.plainAttrs_list PySem.F.slot_list_append PySem.F.type_list_append mt_append (pv 7) (pa_cons (pe_op op_add (pe_op op_mul (pv 8) (pgl wc)) (pv 6)) pa_nil))))))))
      (pss_one (ps_ret (pv 7)))))), ?_⟩
    have ek : ((y : Int) * (g.cols : Int) + (x : Int)) = (((y * g.cols + x : Nat)) : Int) := by rw [Int.natCast_add, Int.natCast_mul]
    generalize hk : y * g.cols + x = kk at k ek hkl
    refine ⟨_, rfl, _, rfl, _, _, rfl, rfl, .inl ⟨by show -(2 ^ 64) < ((y : Nat) : Int); omega, by show ((y : Nat) : Int) < 2 ^ 64; omega⟩, _, rfl, _, _, rfl, rfl, ?_⟩
    have hwk := walls_get (g := g) (n := kk) (by rw [W.wl]; exact hkl)
    refine ⟨_, rfl, _, rfl, wa, _, _, _, rfl, rfl, SqL.of hwa, at_of ek hwk, rfl, _, rfl, ?_⟩
    show if decide (wI (g.wall kk) = V.int 1) = true then _ else _
    rw [wI_1]
    refine ite2 (fun hw => ?_) (fun hw => ?_)
    · refine ⟨9, rfl, by decide, by decide, fun D hDn => ?_⟩
      refine lc_range (lo := 0) (n := 9) (fun i H2 => H2 D = some (.lst (((srcN g kk).take i).map nI)) ∧ Same H H2) ⟨upd_same, same_new hDn⟩ ?_ ?_
      · rintro i H2 hi ⟨hD2, s2⟩
        refine ⟨rfl, ?_⟩
        refine ⟨_, rfl, _, _, rfl, rfl, .inr ⟨by decide, by decide⟩, _, rfl, _, _, rfl, rfl, _, hD2, ?_, ?_, same_upd s2 hDn⟩
        · rw [List.length_map, List.length_take, srcN_len, PySem.sizeLine_eq]
          omega
        · rw [upd_same, take_snoc (srcN_wall hw hi), List.map_append]
          show some (HO.lst (_ ++ [V.int (((y : Int) * (g.cols : Int) + (x : Int)) * 9 + (0 + (i : Int)))])) = some (HO.lst (_ ++ [nI (kk * 9 + i)]))
          rw [ek, show ((kk : Int) * 9 + (0 + (i : Int))) = ((kk * 9 + i : Nat) : Int) by omega]
      · rintro H2 ⟨hD2, s2⟩
        rw [show (srcN g kk).take 9 = srcN g kk by rw [← srcN_len g kk, List.take_length]] at hD2
        exact k D H2 s2 hDn hD2
    · refine ⟨by show 0 ≤ sizeLine; decide, fun l hl => ?_⟩
      refine ⟨9, rfl, by decide, by decide, ?_⟩
      refine for_range (lo := 0) (n := 9) (CsInv H g wa l x y kk)
        ⟨none, none, rfl, upd_same, same_new hl⟩ ?_ ?_
      · rintro i σ H2 hi ⟨v6, v8, rfl, hl2, s2⟩
        obtain ⟨wx, wy, wb⟩ := ways_get i hi
        have hsl := source_lt g c1 r1 kk i
        have esrc := source_at hx hy i
        rw [hk] at esrc
        have ei : (0 + (i : Int)) = ((i : Nat) : Int) := by omega
        have hlen : (((srcN g kk).take i).map nI).length < sizeLine := by
          rw [List.length_map, List.length_take, srcN_len, PySem.sizeLine_eq]
          omega
        refine ⟨_, rfl, _, rfl, aD, _, _, _, rfl, rfl, hD H2, at_of ei (map_get wy), _, _, rfl, rfl, _, rfl, _, _, rfl, rfl, (by show (0 : Int) < ((g.rows : Nat) : Int); omega), _, rfl, _, _, rfl, rfl, .inr ⟨by show -(2 ^ 64) < ((g.cols : Nat) : Int); omega, by show ((g.cols : Nat) : Int) < 2 ^ 64; omega⟩,
          _, rfl, _, rfl, aR, _, _, _, rfl, rfl, hR H2, at_of ei (map_get wx), _, _, rfl, rfl, _, rfl, _, _, rfl, rfl, (by show (0 : Int) < ((g.cols : Nat) : Int); omega), _, _, rfl, rfl, ?_⟩
        have hws := walls_get (g := g) (n := Sn42.source g kk i) (by rw [W.wl]; exact hsl)
        refine ⟨_, rfl, _, rfl, wa, _, _, _, rfl, rfl, SqL.of (s2 _ _ hwa), at_of esrc hws, rfl, _, rfl, ?_⟩
        show if decide (wI (g.wall (Sn42.source g kk i)) = V.int 1) = true then _ else _
        rw [wI_1]
        have hsn := srcN_free (i := i) hw hi
        refine ite2 (fun hb => ?_) (fun hb => ?_)
        · rw [if_pos hb] at hsn
          refine ⟨_, rfl, .inl ⟨rfl, _, SqL.of hl2⟩, _, rfl, _, _, rfl, rfl, .inr ⟨by decide, by decide⟩, _, rfl, aB, _, _, _, rfl, rfl, hB H2, at_of ei (map_get wb), _, _, rfl, rfl, l, _, _, rfl, rfl, hl2, hlen, ?_⟩
          refine ⟨_, _, rfl, ?_, same_upd s2 hl⟩
          rw [upd_same, take_snoc hsn, List.map_append]
          show some (HO.lst (_ ++ [V.int (((y : Int) * (g.cols : Int) + (x : Int)) * 9 + ((Sn42.back i : Nat) : Int))])) = some (HO.lst (_ ++ [nI (kk * 9 + Sn42.back i)]))
          rw [ek, show ((kk : Int) * 9 + ((Sn42.back i : Nat) : Int)) = ((kk * 9 + Sn42.back i : Nat) : Int) by omega]
        · rw [if_neg hb] at hsn
          refine ⟨_, rfl, .inl ⟨rfl, _, SqL.of hl2⟩, _, rfl, _, _, rfl, rfl, .inr ⟨by decide, by decide⟩, _, rfl, _, _, rfl, rfl, l, _, _, rfl, rfl, hl2, hlen, ?_⟩
          refine ⟨_, _, rfl, ?_, same_upd s2 hl⟩
          rw [upd_same, take_snoc hsn, List.map_append]
          show some (HO.lst (_ ++ [V.int ((((y : Int) - (Sn42.ways.getD i (0, 0)).2) % (g.rows : Int) * (g.cols : Int) + ((x : Int) - (Sn42.ways.getD i (0, 0)).1) % (g.cols : Int)) * 9 + (0 + (i : Int)))])) = some (HO.lst (_ ++ [nI (Sn42.source g kk i * 9 + i)]))
          rw [esrc, show (((Sn42.source g kk i : Nat) : Int) * 9 + (0 + (i : Int))) = ((Sn42.source g kk i * 9 + i : Nat) : Int) by omega]
      · rintro σ H2 ⟨v6, v8, rfl, hl2, s2⟩
        rw [show (srcN g kk).take 9 = srcN g kk by rw [← srcN_len g kk, List.take_length]] at hl2
        exact ⟨_, rfl, k l H2 s2 hl hl2⟩
noncomputable def spAS : Sp := fun vs H Q _ => ∃ (g : Sn42.Grid) (wa : Addr), vs = [nI g.cols, nI g.rows, .ref wa] ∧ WF g ∧ H wa = some (.lst (g.walls.map wI)) ∧
  ∀ l rs H', Same H H' → H l = none → H' l = some (.lst (rs.map V.ref)) → Srcs H' rs (srcsN g) → Q (.ref l) H'
theorem scAS : FnScope ["cols", "rows", "walls", "sources", "y", "x"] ["cols", "rows", "walls"] (defScope sAS) := ⟨rfl, rfl, rfl, by decide +kernel, rfl, by decide +kernel, by decide +kernel⟩
theorem srcs_get {g : Sn42.Grid} {k : Nat} (h : k < g.cols * g.rows) : (srcsN g)[k]? = some (srcN g k) := by
  unfold srcsN
  rw [List.getElem?_map, List.getElem?_range h]
  rfl
theorem srcs_len (g : Sn42.Grid) : (srcsN g).length = g.cols * g.rows := by
  unfold srcsN
  rw [List.length_map, List.length_range]
theorem ok_as {f : Addr} {fd : FuncData} (F : Fun K "all_sources" "all_sources" sAS f fd) (B : Bl mg) (oc : Ok P w K mg base C 1 "cell_sources" ["cols", "rows", "walls", "x", "y"] spCS) : FnOk P w K mg base (CXN C P w) 2 f fd ["cols", "rows", "walls"] spAS := by
  refine F.okX scAS (fun vs H Q E h => ?_) (fun cdv A outer s H vs Q E hr h => ?_)
  · obtain ⟨g, wa, rfl, _⟩ := h
    rfl
  · obtain ⟨g, wa, rfl, W, hwa, k⟩ := h
    have c2 := W.c2
    have r2 := W.r2
    have hcr : g.cols * g.rows ≤ 256 * 256 := Nat.mul_le_mul c2 r2
    refine ⟨_, pss_cons (ps_set (i := 3) scAS.nd rfl (Or.inl rfl) (pe_lst pa_nil))
      (pss_cons (ps_for (own_cx rfl) rfl (pi_range1 rfl B.range (pa_n (pv 1) pa_nil)) (pg_name (i := 4) scAS.nd rfl (Or.inl rfl))
        (pss_one (ps_for (own_cx rfl) rfl (pi_range1 rfl B.range (pa_n (pv 0) pa_nil)) (pg_name (i := 5) scAS.nd rfl (Or.inl rfl))
          (pss_one (ps_expr (pe_bm PySem.F.plainAttrs_list PySem.F.slot_list_append PySem.F.type_list_append mt_append (pv 3) (pa_c (pcall oc hr (pass_cx fun _ z => z) (pa_n (pv 0) (pa_n (pv 1) (pa_n (pv 2) (pa_n (pv 5) (pa_n (pv 4) pa_nil)))))) pa_nil)))))))
      (pss_one (ps_ret (pv 3)))), ?_⟩
    refine ⟨by show 0 ≤ sizeLine; decide, fun l hl => ?_⟩
    refine ⟨_, rfl, (g.rows : Int), rfl, by omega, by omega, ?_⟩
    refine for_range (lo := 0) (n := g.rows) (fun i σ H2 => ∃ rs v4 v5, σ = [some (nI g.cols), some (nI g.rows), some (.ref wa), some (.ref l), v4, v5] ∧ Same H H2 ∧ H2 l = some (.lst (rs.map V.ref)) ∧ Srcs H2 rs ((srcsN g).take (i * g.cols)))
      ⟨[], none, none, rfl, same_new hl, upd_same, by rw [Nat.zero_mul]; exact Srcs.nil⟩ ?_ ?_
    · rintro i σ H2 hi ⟨rs, v4, v5, rfl, s2, hl2, hrs⟩
      refine ⟨_, rfl, (g.cols : Int), rfl, by omega, by omega, ?_⟩
      refine for_range (lo := 0) (n := g.cols) (fun j σ H2 => ∃ rs v5, σ = [some (nI g.cols), some (nI g.rows), some (.ref wa), some (.ref l), some (.int (0 + (i : Int))), v5] ∧ Same H H2 ∧ H2 l = some (.lst (rs.map V.ref)) ∧ Srcs H2 rs ((srcsN g).take (i * g.cols + j)))
        ⟨rs, v5, rfl, s2, hl2, hrs⟩ ?_ ?_
      · rintro j σ H3 hj ⟨rs, v5, rfl, s3, hl3, hrs⟩
        have hkl := cell_lt hj hi
        refine ⟨_, rfl, .inl ⟨rfl, _, SqL.of hl3⟩, _, rfl, _, rfl, _, rfl, _, rfl, _, rfl, g, wa, j, i, ?_, W, s3 _ _ hwa, hj, hi, fun r H4 s4 hr4 hr4' => ?_⟩
        · show [nI g.cols, nI g.rows, V.ref wa, V.int (0 + (j : Int)), V.int (0 + (i : Int))] = _
          rw [Int.zero_add, Int.zero_add]
        · have hl4 := s4 _ _ hl3
          have nrl : r ≠ l := (ne_of_none hl3 hr4).symm
          have hlen : (rs.map V.ref).length < sizeLine := by
            rw [List.length_map, hrs.len, List.length_take, srcs_len, PySem.sizeLine_eq]
            omega
          refine ⟨l, _, _, rfl, rfl, hl4, hlen, ?_⟩
          refine ⟨rs ++ [r], _, rfl, same_upd (s3.trans s4) hl, by rw [upd_same, List.map_append]; rfl, ?_⟩
          rw [show i * g.cols + (j + 1) = i * g.cols + j + 1 from rfl, take_snoc (srcs_get hkl)]
          refine Srcs.snoc ⟨hrs.len, fun q u f' h1 h2 => ?_⟩ (by rw [upd_ne nrl]; exact hr4')
          by_cases hul : u = l
          · subst hul
            have z := hrs.at_ q u f' h1 h2
            rw [hl3] at z
            have hf9 : f'.length = 9 := by
              have hm := List.mem_of_mem_take (List.mem_of_getElem? h2)
              unfold srcsN at hm
              obtain ⟨k', _, rfl⟩ := List.mem_map.mp hm
              exact srcN_len g k'
            injection z with z
            injection z with z
            match f', hf9, z with
            | a :: f'', _, z =>
              match rs, z with
              | [], z => cases z
              | b :: rs', z =>
                injection z with z1 _
                cases z1
          · rw [upd_ne hul]
            exact s4 _ _ (hrs.at_ q u f' h1 h2)
      · rintro σ H3 ⟨rs, v5, rfl, s3, hl3, hrs⟩
        refine ⟨rs, _, v5, rfl, s3, hl3, ?_⟩
        rw [Nat.add_mul, Nat.one_mul]
        exact hrs
    · rintro σ H2 ⟨rs, v4, v5, rfl, s2, hl2, hrs⟩
      rw [show (srcsN g).take (g.rows * g.cols) = srcsN g by rw [Nat.mul_comm, ← srcs_len g, List.take_length]] at hrs
      exact ⟨_, rfl, k l rs H2 s2 hl hl2 hrs⟩
end
end Cf
namespace Cf
open PySem L2
noncomputable def iD (x : Nat) : PyData := .int (x : Int)
noncomputable def dF (f : List Nat) : PyData := .tuple (f.map iD)
noncomputable def dC (sh : List (List Nat)) : PyData := .list (sh.map dF)
theorem can_ints : ∀ f : List Nat, PyData.canLayAll0 (f.map iD) = true ∧ PyData.depthAll (f.map iD) = 0
  | [] => by simp [PyData.canLayAll0, PyData.depthAll]
  | x :: f => by
    obtain ⟨h1, h2⟩ := can_ints f
    rw [List.map_cons]
    refine ⟨?_, ?_⟩
    · simp only [PyData.canLayAll0, iD, PyData.canLay0, h1]
      simpa [iD] using h1
    · simp only [PyData.depthAll, iD, PyData.depth]
      have h2' : PyData.depthAll (List.map (fun x : Nat => PyData.int (x : Int)) f) = 0 := h2
      first
        | (rw [h2]; rfl)
        | (show max 0 (PyData.depthAll (List.map iD f)) = 0; rw [h2]; rfl)
theorem can_cells : ∀ sh : List (List Nat), PyData.canLayAll0 (sh.map dF) = true ∧ PyData.depthAll (sh.map dF) ≤ 1
  | [] => by simp [PyData.canLayAll0, PyData.depthAll]
  | f :: sh => by
    obtain ⟨h1, h2⟩ := can_cells sh
    obtain ⟨g1, g2⟩ := can_ints f
    rw [List.map_cons]
    refine ⟨?_, ?_⟩
    · unfold PyData.canLayAll0
      rw [h1, Bool.and_true]
      unfold dF PyData.canLay0
      exact g1
    · unfold PyData.depthAll
      have e : PyData.depth (dF f) = 1 := by
        unfold dF PyData.depth
        rw [g2]
      rw [e]
      omega
theorem shaped_dC (sh : List (List Nat)) : SeqAt.shaped (dC sh) = true := by
  obtain ⟨h1, h2⟩ := can_cells sh
  unfold SeqAt.shaped
  rw [Bool.and_eq_true]
  refine ⟨?_, decide_eq_true ?_⟩
  · unfold dC PyData.canLay0
    exact h1
  · have e : PyData.depth (dC sh) = PyData.depthAll (sh.map dF) + 1 := by
      unfold dC
      rw [PyData.depth]
    rw [e]
    omega
theorem eqv_ints : ∀ f g : List Nat, PyData.eqvAll (f.map iD) (g.map iD) = true → f = g
  | [], [], _ => rfl
  | [], y :: g, h => by rw [List.map_nil, List.map_cons, PyData.eqvAll] at h; cases h
  | x :: f, [], h => by rw [List.map_nil, List.map_cons, PyData.eqvAll] at h; cases h
  | x :: f, y :: g, h => by
    rw [List.map_cons, List.map_cons, PyData.eqvAll, Bool.and_eq_true] at h
    obtain ⟨h1, h2⟩ := h
    have h1 : PyData.eqv (.int (x : Int)) (.int (y : Int)) = true := h1
    rw [PyData.eqv] at h1
    have e : (x : Int) = (y : Int) := eq_of_beq h1
    rw [eqv_ints f g h2, show x = y by omega]
theorem eqv_cells : ∀ a b : List (List Nat), PyData.eqvAll (a.map dF) (b.map dF) = true → a = b
  | [], [], _ => rfl
  | [], y :: g, h => by rw [List.map_nil, List.map_cons, PyData.eqvAll] at h; cases h
  | x :: f, [], h => by rw [List.map_nil, List.map_cons, PyData.eqvAll] at h; cases h
  | x :: f, y :: g, h => by
    rw [List.map_cons, List.map_cons, PyData.eqvAll, Bool.and_eq_true] at h
    obtain ⟨h1, h2⟩ := h
    have h1 : PyData.eqv (.tuple (x.map iD)) (.tuple (y.map iD)) = true := h1
    rw [PyData.eqv] at h1
    rw [eqv_cells f g h2, eqv_ints x y h1]
theorem eqv_dC {a b : List (List Nat)} (h : PyData.eqv (dC a) (dC b) = true) : a = b := by
  unfold dC at h
  rw [PyData.eqv] at h
  exact eqv_cells a b h
theorem dp_ints {K : PySem.W.Frag} {H : Hp} : ∀ f : List Nat, DpAll K H (f.map nI) (f.map iD)
  | [] => .nil
  | x :: f => .cons (.int (x : Int)) (dp_ints f)
theorem Cells.tail {H : Hp} {t : Addr} {ts : List Addr} {f : List Nat} {sh : List (List Nat)} (c : Cells H (t :: ts) (f :: sh)) : H t = some (.tup (f.map nI)) ∧ Cells H ts sh :=
  ⟨c.at_ 0 t f rfl rfl, by have := c.len; simpa using this, fun i u g h1 h2 => c.at_ (i + 1) u g h1 h2⟩
theorem dp_cells {K : PySem.W.Frag} {H : Hp} : ∀ (ts : List Addr) (sh : List (List Nat)), Cells H ts sh → DpAll K H (ts.map V.ref) (sh.map dF)
  | [], [], _ => .nil
  | [], _ :: _, c => absurd c.len (by simp)
  | _ :: _, [], c => absurd c.len (by simp)
  | t :: ts, f :: sh, c => by
    obtain ⟨h1, h2⟩ := c.tail
    exact .cons (.tup (SqT.of h1) (dp_ints f)) (dp_cells ts sh h2)
theorem dp_list {K : PySem.W.Frag} {H : Hp} {a : Addr} {ts : List Addr} {sh : List (List Nat)} (h : H a = some (.lst (ts.map V.ref))) (c : Cells H ts sh) : Dp K H (.ref a) (dC sh) := .lst (SqL.of h) (dp_cells ts sh c)
section
variable {P : Program} {w : World} {K : PySem.W.Frag} {mg : Str → Option Value} {base : Heap} {C : Addr}
noncomputable def rTupOf (K : PySem.W.Frag) : List V → Hp → VK → Prop := fun xs H Q => ∃ p ys, xs = [.ref p] ∧ ((SqL K H p ys ∧ ∀ l, H l = none → Q (.ref l) (upd H l (.tup ys))) ∨ (SqT K H p ys ∧ Q (.ref p) H))
noncomputable def spMC : Sp := fun vs H Q _ => ∃ (ca so : Addr) (ts : List Addr) (l : List (List Nat)) (rs : List Addr) (srcs : List (List Nat)), vs = [.ref ca, .ref so] ∧ H ca = some (.lst (ts.map V.ref)) ∧ Cells H ts l ∧ (∀ f ∈ l, f.length = 9) ∧ l.length ≤ 65536 ∧
  H so = some (.lst (rs.map V.ref)) ∧ Srcs H rs srcs ∧ (∀ pl ∈ srcs, pl.length = 9 ∧ ∀ p ∈ pl, p < l.flatten.length) ∧ srcs.length ≤ 65536 ∧
  ∀ e us H', Same H H' → H e = none → H' e = some (.lst (us.map V.ref)) → Cells H' us (movedN l srcs) → Q (.ref e) H'
theorem scMC : FnScope ["cells", "sources", "every_share", "shares", "places", "place"] ["cells", "sources"] (defScope sMC) := ⟨rfl, rfl, rfl, by decide +kernel, rfl, by decide +kernel, by decide +kernel⟩
theorem flat_take {l : List (List Nat)} {i : Nat} {f : List Nat} (h : l[i]? = some f) : (l.take (i + 1)).flatten = (l.take i).flatten ++ f := by
  rw [take_snoc h, List.flatten_append]
  simp
theorem ok_mc {f : Addr} {fd : FuncData} (F : Fun K "moved_cells" "moved_cells" sMC f fd) (B : Bl mg) : FnOk P w K mg base (CXN C P w) 1 f fd ["cells", "sources"] spMC := by
  refine F.okX scMC (fun vs H Q E h => ?_) (fun cdv A outer s H vs Q E hr h => ?_)
  · obtain ⟨ca, so, ts, l, rs, srcs, rfl, _⟩ := h
    rfl
  · obtain ⟨ca, so, ts, l, rs, srcs, rfl, hca, hcs, h9, hll, hso, hrs, hpl, hsl, k⟩ := h
    refine ⟨_, pss_cons (ps_set (i := 2) scMC.nd rfl (Or.inr rfl) (pe_lst pa_nil))
      (pss_cons (ps_for (own_cx rfl) rfl (pi_list (pv 0)) (pg_name (i := 3) scMC.nd rfl (Or.inl rfl))
        (pss_one (ps_expr (pe_bm PySem.F.plainAttrs_list PySem.F.slot_list_extend PySem.F.type_list_extend mt_extT (pv 2) (pa_n (pv 3) pa_nil)))))
      (pss_one (ps_ret (pe_lcn (own := [("places", 4)]) (te := tCB (rTupOf K) (tCons (tLc (iList K (tVar 4)) (gName 5) tYes (tOp (rIxL K) (tVar 2) (tVar 5)) [5]) tNil)) rfl scMC.nd (pi_list (pv 1)) (blkOk_by (N := ["cells", "sources", "every_share", "shares", "places", "place"]) (sc := defScope sMC) (by decide +kernel)) (by intro _ _ _ _ _; exact pg_name (i := 4) scMC.nd rfl (Or.inl rfl))
        (by intro _ _ _ _ _ _; exact pe_callTy call_tuple_of rfl B.tuple PyProof.Rows.boot_tuple (pa_cons (pe_lcn (own := [("place", 5)]) (te := tOp (rIxL K) (tVar 2) (tVar 5)) rfl scMC.nd (pi_list (pv 4)) (blkOk_by rfl) (by intro _ _ _ _ _; exact pg_name (i := 5) scMC.nd rfl (Or.inl rfl))
          (by intro _ _ _ _ _ _; exact pe_ix ix_list (pv 2) (pv 5) (fun _ _ => rfl))) pa_nil)))))), ?_⟩
    refine ⟨by show 0 ≤ sizeLine; decide, fun es hes => ?_⟩
    have s0 : Same H (upd H es (.lst [])) := same_new hes
    refine ⟨_, rfl, ca, rfl, ⟨_, SqL.of (s0 _ _ hca)⟩, ?_⟩
    refine for_list (K := K) (a := ca) (xs := ts.map V.ref) (fun i σ H2 => ∃ v3, σ = [some (.ref ca), some (.ref so), some (.ref es), v3, none, none] ∧ Same H H2 ∧ H2 es = some (.lst ((l.take i).flatten.map nI)))
      ⟨none, rfl, s0, upd_same⟩ (fun i σ H2 _ ⟨_, _, s2, _⟩ => SqL.of (s2 _ _ hca)) ?_ ?_
    · rintro i x σ H2 hx ⟨v3, rfl, s2, he2⟩
      obtain ⟨t, ht, rfl⟩ := get_map hx
      obtain ⟨f, hf, hft⟩ := hcs.get ht
      have hil : i < l.length := (List.getElem?_eq_some_iff.mp hf).1
      have hfl := flat_len (l.take (i + 1)) fun q hq => h9 q (List.mem_of_mem_take hq)
      rw [flat_take hf, List.length_append, List.length_take] at hfl
      refine ⟨_, rfl, .inl ⟨rfl, _, SqL.of he2⟩, _, rfl, es, t, _, _, rfl, rfl, he2, SqT.of (s2 _ _ hft), ?_, ?_⟩
      · rw [List.length_map, List.length_map, PySem.sizeLine_eq]
        omega
      · refine ⟨_, rfl, same_upd s2 hes, ?_⟩
        rw [upd_same, flat_take hf, List.map_append]
    · rintro σ H2 ⟨v3, rfl, s2, he2⟩
      rw [List.length_map, hcs.len, List.take_length] at he2
      refine ⟨_, rfl, so, rfl, ⟨_, SqL.of (s2 _ _ hso)⟩, fun D hD => ?_⟩
      have hDn : H D = none := s2.free hD
      refine lc_list (K := K) (a := so) (xs := rs.map V.ref) (fun i H3 => ∃ us, H3 D = some (.lst (us.map V.ref)) ∧ Same H2 H3 ∧ Cells H3 us ((movedN l srcs).take i))
        ⟨[], upd_same, same_new hD, Cells.nil⟩ (fun i H3 _ ⟨_, _, s3, _⟩ => SqL.of (s3 _ _ (s2 _ _ hso))) ?_ ?_
      · rintro i x H3 hx ⟨us, hD3, s3, hus⟩
        obtain ⟨r, hr', rfl⟩ := get_map hx
        have hil : i < srcs.length := by rw [← hrs.len]; exact (List.getElem?_eq_some_iff.mp hr').1
        have hpi : srcs[i]? = some srcs[i] := List.getElem?_eq_getElem hil
        generalize srcs[i] = pl at hpi
        have hr3 : H3 r = some (.lst (pl.map nI)) := s3 _ _ (s2 _ _ (hrs.at_ i r pl hr' hpi))
        obtain ⟨hp9, hpf⟩ := hpl pl (List.mem_of_getElem? hpi)
        have hmi : (movedN l srcs)[i]? = some (pl.map fun p => l.flatten.getD p 0) := by
          unfold movedN
          rw [List.getElem?_map, hpi]
          rfl
        refine ⟨rfl, ?_⟩
        refine ⟨_, rfl, r, rfl, ⟨_, SqL.of hr3⟩, fun D2 hD2 => ?_⟩
        have nDD : D ≠ D2 := ne_of_none hD3 hD2
        refine lc_list (K := K) (a := r) (xs := pl.map nI) (fun j H4 => H4 D2 = some (.lst (((pl.take j).map fun p => l.flatten.getD p 0).map nI)) ∧ Same H3 H4)
          ⟨upd_same, same_new hD2⟩ (fun j H4 _ ⟨_, s4⟩ => SqL.of (s4 _ _ hr3)) ?_ ?_
        · rintro j y H4 hy ⟨hD4, s4⟩
          obtain ⟨p, hp, rfl⟩ := get_map hy
          have hpx : (l.flatten.map nI)[p]? = some (nI (l.flatten.getD p 0)) := by
            have hlt := hpf p (List.mem_of_getElem? hp)
            rw [map_get (List.getElem?_eq_getElem hlt), List.getD_eq_getElem?_getD, List.getElem?_eq_getElem hlt]
            rfl
          refine ⟨rfl, ?_⟩
          refine ⟨_, rfl, _, rfl, es, _, _, _, rfl, rfl, SqL.of (s4 _ _ (s3 _ _ he2)), atI_nat hpx, _, hD4, ?_, ?_, same_upd s4 hD2⟩
          · rw [List.length_map, List.length_map, List.length_take, PySem.sizeLine_eq]
            omega
          · rw [upd_same, take_snoc hp, List.map_append, List.map_append]
            rfl
        · rintro H4 ⟨hD4, s4⟩
          rw [List.length_map, List.take_length] at hD4
          refine ⟨D2, _, rfl, .inl ⟨SqL.of hD4, fun t ht => ?_⟩⟩
          have hD5 := s4 _ _ hD3
          have nDt : D ≠ t := ne_of_none hD5 ht
          have s5 : Same H4 (upd H4 t (.tup ((pl.map fun p => l.flatten.getD p 0).map nI))) := same_new ht
          refine ⟨_, s5 _ _ hD5, ?_, us ++ [t], by rw [upd_same, List.map_append]; rfl, same_upd ((s3.trans s4).trans s5) hD, ?_⟩
          · rw [List.length_map, hus.len, List.length_take, PySem.sizeLine_eq]
            omega
          · rw [take_snoc hmi]
            have nt : ∀ {q : Addr} {z : List V}, (upd H4 t (.tup ((pl.map fun p => l.flatten.getD p 0).map nI))) q = some (.tup z) → q ≠ D := fun z => ne_of z (s5 _ _ hD5) (by intro z; cases z)
            refine Cells.snoc ⟨hus.len, fun q u g h1 h2 => ?_⟩ (by rw [upd_ne nDt.symm, upd_same])
            have z := s5 _ _ (s4 _ _ (hus.at_ q u g h1 h2))
            rw [upd_ne (nt z)]
            exact z
      · rintro H3 ⟨us, hD3, s3, hus⟩
        have hml : (movedN l srcs).length = srcs.length := by unfold movedN; rw [List.length_map]
        rw [List.length_map, hrs.len, ← hml, List.take_length] at hus
        exact k D us H3 (s2.trans s3) hDn hD3 hus
end
end Cf
namespace Cf
open PySem L2
noncomputable def resI (C ca : Addr) (o : Option (List (List Nat))) (H : Hp) (Q : VK) (E : XK) : Prop := match o with
  | some l => ∀ e ts H', Same H H' → (e = ca ∨ H e = none) → H' e = some (.lst (ts.map V.ref)) → Cells H' ts l → Q (.ref e) H'
  | none => ∀ H', Same H H' → E (.ref C) none H'
noncomputable def leftOf : St → Nat
  | [_, _, _, _, _, _, _, _, some (.int i)] => i.toNat
  | _ => 0
noncomputable def StepsInv (g : Sn42.Grid) (St : List (List Nat) → Option (List (List Nat))) (H : Hp) (ca wa so : Addr) (n : Nat) (σ : L2.St) (H2 : Hp) : Prop := ∃ (cc : Addr) (cts : List Addr) (sh : List (List Nat)) (se : Addr) (sts : List Addr) (sh2 : List (List Nat)) (since left : Nat) (si dist li : Int), σ = [some (.ref cc), some (.ref wa), some (nI g.omega), some (.ref so), some (nI n), some (.ref se), some (.int si), some (.int dist), some (.int li)] ∧ si = (since : Int) ∧ li = (left : Int) ∧ Same H H2 ∧ (cc = ca ∨ H cc = none) ∧ H2 cc = some (.lst (cts.map V.ref)) ∧ Cells H2 cts sh ∧ WF { g with shares := sh } ∧ H2 se = some (.lst (sts.map V.ref)) ∧ Cells H2 sts sh2 ∧ itN St since sh2 = some sh ∧ itN St left sh = itN St n g.shares
section
variable {P : Program} {w : World} {K : PySem.W.Frag} {mg : Str → Option Value} {base : Heap} {C : Addr}
noncomputable def spBS (C : Addr) : Sp := fun vs H Q E => ∃ (g : Sn42.Grid) (ca wa so : Addr) (ts rs : List Addr) (n : Nat), vs = [.ref ca, .ref wa, nI g.omega, .ref so, nI n] ∧ WF g ∧ H ca = some (.lst (ts.map V.ref)) ∧ Cells H ts g.shares ∧ H wa = some (.lst (g.walls.map wI)) ∧
  H so = some (.lst (rs.map V.ref)) ∧ Srcs H rs (srcsN g) ∧ resI C ca (itN (stepN g.omega g.walls (srcsN g)) n g.shares) H Q E
theorem scBS : FnScope ["cells", "walls", "omega", "sources", "count", "seen", "since", "distance", "left"] ["cells", "walls", "omega", "sources", "count"] (defScope sBS) := ⟨rfl, rfl, rfl, by decide +kernel, rfl, by decide +kernel, by decide +kernel⟩
theorem ok_bs {f : Addr} {fd : FuncData} (F : Fun K "behind_steps" "behind_steps" sBS f fd) (oe : Ok P w K mg base C 7 "eased_cells" ["cells", "walls", "omega"] (spECs C)) (om : Ok P w K mg base C 7 "moved_cells" ["cells", "sources"] spMC) :
    FnOk P w K mg base (CXN C P w) 8 f fd ["cells", "walls", "omega", "sources", "count"] (spBS C) := by
  refine F.okX scBS (fun vs H Q E h => ?_) (fun cdv A outer s H vs Q E hr h => ?_)
  · obtain ⟨g, ca, wa, so, ts, rs, n, rfl, _⟩ := h
    rfl
  · obtain ⟨g, ca, wa, so, ts, rs, n, rfl, W, hca, hcs, hwa, hso, hrs, k⟩ := h
    have hu := hr.units
    have hcr : g.cols * g.rows ≤ 256 * 256 := Nat.mul_le_mul W.c2 W.r2
    refine ⟨_, pss_cons (ps_set (i := 5) scBS.nd rfl (Or.inl rfl) (pv 0))
      (pss_cons (ps_set (i := 6) scBS.nd rfl (Or.inl rfl) pe_int)
      (pss_cons (ps_set (i := 7) scBS.nd rfl (Or.inl rfl) pe_int)
      (pss_cons (ps_set (i := 8) scBS.nd rfl (Or.inl rfl) (pv 4))
      (pss_cons (ps_while (own_cx rfl) (pt_cmpR op_gt (pv 8) pe_int (nomark _))
        (pss_cons (ps_set (i := 0) scBS.nd rfl (Or.inl rfl) (pcall om hr (pass_cx fun _ z => z) (pa_c (pcall oe hr (pass_cx fun _ z => z) (pa_n (pv 0) (pa_n (pv 1) (pa_n (pv 2) pa_nil)))) (pa_n (pv 3) pa_nil))))
        (pss_cons (ps_set (i := 8) scBS.nd rfl (Or.inl rfl) (pe_op op_sub (pv 8) pe_int))
        (pss_cons (ps_set (i := 6) scBS.nd rfl (Or.inl rfl) (pe_op op_add (pv 6) pe_int))
        (pss_one (ps_if (pt_cmpR (op_eqD hu) (pv 0) (pv 5) (nomark _)) (pss_one (ps_set (i := 8) scBS.nd rfl (Or.inl rfl) (pe_op op_mod (pv 8) (pv 6))))
          (pss_one (ps_if (pt_cmpR op_eq (pv 6) (pv 7) (nomark _)) (pss_cons (ps_set (i := 5) scBS.nd rfl (Or.inl rfl) (pv 0)) (pss_cons (ps_set (i := 6) scBS.nd rfl (Or.inl rfl) pe_int) (pss_one (ps_set (i := 7) scBS.nd rfl (Or.inl rfl) (pe_op op_mul (pv 7) pe_int))))) pss_nil))))))))
      (pss_one (ps_ret (pv 0))))))), ?_⟩
    generalize hF : stepN g.omega g.walls (srcsN g) = St at k
    refine ⟨_, rfl, _, rfl, ?_⟩
    refine while_by (StepsInv g St H ca wa so n)
      (fun σ _ => leftOf σ) ⟨ca, ts, g.shares, ca, ts, g.shares, 0, n, 0, 1, (n : Int), rfl, rfl, rfl, Same.refl H, .inl rfl, hca, hcs, W, hca, hcs, rfl, rfl⟩ ?_ fun σ H Q Q' hQ ⟨v, e, i, j, h1, h2, b, h3, q⟩ => ⟨v, e, i, j, h1, h2, b, h3, hQ _ _ q⟩
    rintro σ H2 ⟨cc, cts, sh, se, sts, sh2, since, left, si, dist, li, rfl, hsi, hli, s2, hcn, hcc, hcl, W2, hse, hsc, hit, hrun⟩
    refine ⟨_, rfl, _, _, rfl, rfl, _, rfl, ?_⟩
    show if decide ((0 : Int) < li) = true then _ else _
    refine ite2 (fun hl => ?_) (fun hl => ?_)
    · have hl := of_decide_eq_true hl
      obtain ⟨m, rfl⟩ : ∃ m, left = m + 1 := ⟨left - 1, by omega⟩
      have hst : St sh = (easedAll g.omega g.walls sh).map fun l => movedN l (srcsN g) := by rw [← hF]; rfl
      have hrun' : (St sh).bind (itN St m) = itN St n g.shares := hrun
      have hsl : sh.length = g.cols * g.rows := W2.sl
      have h9 : ∀ f ∈ sh, Nine f := fun f hf => ⟨(W2.s9 f hf).1, (W2.s9 f hf).2⟩
      refine ⟨_, rfl, _, rfl, _, rfl, cc, wa, cts, sh, g.walls, g.omega, rfl, hcc, hcl, h9, s2 _ _ hwa, by rw [W.wl, hsl], by omega, W.om, ?_⟩
      cases hea : easedAll g.omega g.walls sh with
      | none =>
        rw [hst, hea] at hrun'
        have hn : itN St n g.shares = none := hrun'.symm
        rw [hn] at k
        exact fun H3 s3 => k H3 (s2.trans s3)
      | some l =>
        rw [hea] at hst
        have hst : St sh = some (movedN l (srcsN g)) := hst
        rw [hst] at hrun'
        have hrun' : itN St m (movedN l (srcsN g)) = itN St n g.shares := hrun'
        obtain ⟨hll, hl9⟩ := easedAll_len hea W2.s9 (by rw [W.wl, hsl])
        have hfl : l.flatten.length = 9 * (g.cols * g.rows) := by rw [flat_len l fun f hf => (hl9 f hf).1, hll, hsl]
        intro e ets H3 s3 hen he3 hec
        refine ⟨_, rfl, e, so, ets, l, rs, srcsN g, rfl, he3, hec, fun f hf => (hl9 f hf).1, by omega, s3 _ _ (s2 _ _ hso), (hrs.same s2).same s3, fun pl hp => ?_, by rw [srcs_len]; omega, fun e2 us H4 s4 hen2 he4 hus => ?_⟩
        · unfold srcsN at hp
          obtain ⟨q, hq, rfl⟩ := List.mem_map.mp hp
          exact ⟨srcN_len g q, fun p hp => by rw [hfl]; exact srcN_lt W.c1 W.r1 (List.mem_range.mp hq) p hp⟩
        · have s24 := (s2.trans s3).trans s4
          have hen2' : H e2 = none := (s2.trans s3).free hen2
          have hse4 := s4 _ _ (s3 _ _ hse)
          have hsc4 := (hsc.same s3).same s4
          have W3 : WF { g with shares := movedN l (srcsN g) } := stepN_wf W2 (show stepN g.omega g.walls (srcsN g) sh = some (movedN l (srcsN g)) by rw [hF]; exact hst)
          have hit' : itN St (since + 1) sh2 = some (movedN l (srcsN g)) := by
            rw [it_add, hit]
            show (St sh).bind _ = _
            rw [hst]
            rfl
          generalize movedN l (srcsN g) = sh' at hst hrun' hus W3 hit'
          refine ⟨_, rfl, _, _, rfl, rfl, ?_⟩
          refine ⟨_, rfl, _, _, rfl, rfl, ?_⟩
          refine ⟨_, rfl, _, rfl, dC sh', dC sh2, dp_list he4 hus, dp_list hse4 hsc4, shaped_dC _, shaped_dC _, _, rfl, ?_⟩
          refine ite2 (fun heq => ?_) (fun heq => ?_)
          · have heq := eqv_dC heq
            refine ⟨_, rfl, _, rfl, _, _, rfl, rfl, (by show (0 : Int) < si + 1; omega), ?_⟩
            have hro := it_round St (c := since + 1) (s := sh') (by rw [heq] at hit' ⊢; exact hit') m
            have hml : m % (since + 1) ≤ m := Nat.mod_le _ _
            refine ⟨⟨e2, us, sh', se, sts, sh2, since + 1, m % (since + 1), si + 1, dist, (li - 1) % (si + 1), rfl, by omega, ?_, s24, .inr hen2', he4, hus, W3, hse4, hsc4, hit', by rw [← hro]; exact hrun'⟩, ?_⟩
            · rw [show li - 1 = ((m : Nat) : Int) by omega, show si + 1 = ((since + 1 : Nat) : Int) by omega, Int.natCast_emod]
            · show ((li - 1) % (si + 1)).toNat < li.toNat
              rw [show li - 1 = ((m : Nat) : Int) by omega, show si + 1 = ((since + 1 : Nat) : Int) by omega, ← Int.natCast_emod]
              omega
          · refine ⟨_, rfl, _, rfl, rfl, _, rfl, ?_⟩
            refine ite2 (fun _ => ?_) (fun _ => ?_)
            · refine ⟨_, rfl, _, rfl, _, _, rfl, rfl, .inr ⟨by decide, by decide⟩, ?_⟩
              refine ⟨⟨e2, us, sh', e2, us, sh', 0, m, 0, dist * 2, li - 1, rfl, rfl, by omega, s24, .inr hen2', he4, hus, W3, he4, hus, rfl, hrun'⟩, ?_⟩
              show (li - 1).toNat < li.toNat
              omega
            · refine ⟨⟨e2, us, sh', se, sts, sh2, since + 1, m, si + 1, dist, li - 1, rfl, by omega, by omega, s24, .inr hen2', he4, hus, W3, hse4, hsc4, hit', hrun'⟩, ?_⟩
              show (li - 1).toNat < li.toNat
              omega
    · have hl : ¬ (0 < li) := fun z => hl (decide_eq_true z)
      have h0 : left = 0 := by omega
      subst h0
      have hrun : some sh = itN St n g.shares := hrun
      rw [← hrun] at k
      exact ⟨_, rfl, k cc cts H2 s2 hcn hcc hcl⟩
end
end Cf
namespace Cf
open PySem L2
theorem massN_take {t : Nat} : ∀ {l : List (List Nat × Bool)} {i r : Nat} {f : List Nat} {b : Bool}, massN t (l.take i) = some r → l[i]? = some (f, b) →
    (b = true → massN t (l.take (i + 1)) = some r) ∧ (b = false → (∀ s, sumO r f = some s → massN t (l.take (i + 1)) = some s) ∧ (sumO r f = none → massN t l = none)) := by
  intro l
  induction l generalizing t with
  | nil => intro i r f b _ e; simp at e
  | cons p l ih =>
    intro i r f b h e
    obtain ⟨f', b'⟩ := p
    cases i with
    | zero =>
      simp at e
      obtain ⟨rfl, rfl⟩ := e
      have h : some t = some r := h
      cases h
      refine ⟨fun hb => ?_, fun hb => ⟨fun s hs => ?_, fun hn => ?_⟩⟩
      · show (if b' = true then some t else _) = _
        rw [if_pos hb]
      · show (if b' = true then _ else (sumO t f').bind fun t' => some t') = _
        rw [if_neg (by rw [hb]; decide), hs]
        rfl
      · show (if b' = true then _ else (sumO t f').bind fun t' => massN t' l) = _
        rw [if_neg (by rw [hb]; decide), hn]
        rfl
    | succ i =>
      have e : l[i]? = some (f, b) := by simpa using e
      have h : (if b' = true then massN t (l.take i) else (sumO t f').bind fun t' => massN t' (l.take i)) = some r := h
      by_cases hb' : b' = true
      · rw [if_pos hb'] at h
        obtain ⟨h1, h2⟩ := ih h e
        refine ⟨fun hb => ?_, fun hb => ⟨fun s hs => ?_, fun hn => ?_⟩⟩
        · show (if b' = true then massN t (l.take (i + 1)) else _) = _
          rw [if_pos hb']
          exact h1 hb
        · show (if b' = true then massN t (l.take (i + 1)) else _) = _
          rw [if_pos hb']
          exact (h2 hb).1 s hs
        · show (if b' = true then massN t l else _) = _
          rw [if_pos hb']
          exact (h2 hb).2 hn
      · rw [if_neg hb'] at h
        cases hs' : sumO t f' with
        | none => rw [hs'] at h; cases h
        | some u =>
          rw [hs'] at h
          have h : massN u (l.take i) = some r := h
          obtain ⟨h1, h2⟩ := ih h e
          refine ⟨fun hb => ?_, fun hb => ⟨fun s hs => ?_, fun hn => ?_⟩⟩
          · show (if b' = true then _ else (sumO t f').bind fun t' => massN t' (l.take (i + 1))) = _
            rw [if_neg hb', hs']
            exact h1 hb
          · show (if b' = true then _ else (sumO t f').bind fun t' => massN t' (l.take (i + 1))) = _
            rw [if_neg hb', hs']
            exact (h2 hb).1 s hs
          · show (if b' = true then _ else (sumO t f').bind fun t' => massN t' l) = _
            rw [if_neg hb', hs']
            exact (h2 hb).2 hn
noncomputable def resM (C : Addr) (o : Option Nat) (H : Hp) (Q : VK) (E : XK) : Prop := match o with
  | some m => ∀ H', Same H H' → D64 m → Q (nI m) H'
  | none => ∀ H', Same H H' → E (.ref C) none H'
structure Nums (mg : Str → Option Value) : Prop where
  done : G mg "DONE" (.int 0)
  oor : G mg "OUT_OF_RANGE" (.int (-2))
  nf : G mg "NOT_FINITE" (.int (-3))
  fail : G mg "FAILED" (.int (-4))
  side : G mg "MOST_SIDE" (.int 256)
  steps : G mg "MOST_STEPS" (.int 1000000)
section
variable {P : Program} {w : World} {K : PySem.W.Frag} {mg : Str → Option Value} {base : Heap} {C : Addr}
noncomputable def spSide : Sp := fun vs H Q _ => ∃ i : Int, vs = [.int i] ∧ Q (.bl (Sn42.within i 1 Sn42.SIDE)) H
theorem scSide : FnScope ["count"] ["count"] (defScope sSide) := ⟨rfl, rfl, rfl, by decide +kernel, rfl, by decide +kernel, by decide +kernel⟩
theorem ok_side {f : Addr} {fd : FuncData} (F : Fun K "is_side" "is_side" sSide f fd) (N : Nums mg) : FnOk P w K mg base (CXN C P w) 1 f fd ["count"] spSide := by
  refine F.okX scSide (fun vs H Q E h => ?_) (fun cdv A outer s H vs Q E hr h => ?_)
  · obtain ⟨i, rfl, _⟩ := h
    rfl
  · obtain ⟨i, rfl, k⟩ := h
    refine ⟨_, pss_one (ps_ret (pe_chain op_le op_le pe_int (pv 0) (pgl N.side))), ?_⟩
    have ew : Sn42.within i 1 Sn42.SIDE = (decide ((1 : Int) ≤ i) && decide (i ≤ (256 : Int))) := rfl
    rw [ew] at k
    refine ⟨_, rfl, _, _, rfl, rfl, _, rfl, ?_⟩
    show if decide ((1 : Int) ≤ i) = true then _ else _
    refine ite2 (fun h1 => ?_) (fun h1 => ?_)
    · rw [h1, Bool.true_and] at k
      exact ⟨_, _, rfl, rfl, k⟩
    · rw [show decide ((1 : Int) ≤ i) = false by simpa using h1, Bool.false_and] at k
      exact k
noncomputable def spMass (C : Addr) : Sp := fun vs H Q E => ∃ (ca wa : Addr) (ts : List Addr) (sh : List (List Nat)) (ws : List Bool), vs = [.ref ca, .ref wa] ∧ H ca = some (.lst (ts.map V.ref)) ∧ Cells H ts sh ∧ (∀ f ∈ sh, Nine f) ∧ H wa = some (.lst (ws.map wI)) ∧ ws.length = sh.length ∧ resM C (massN 0 (sh.zip ws)) H Q E
theorem scMass : FnScope ["cells", "walls", "total", "shares", "is_wall", "share"] ["cells", "walls"] (defScope sMass) := ⟨rfl, rfl, rfl, by decide +kernel, rfl, by decide +kernel, by decide +kernel⟩
theorem ok_mass {f : Addr} {fd : FuncData} (F : Fun K "mass_of" "mass_of" sMass f fd) (O : Ops P w K mg base C) (B : Bl mg) : FnOk P w K mg base (CXN C P w) 4 f fd ["cells", "walls"] (spMass C) := by
  refine F.okX scMass (fun vs H Q E h => ?_) (fun cdv A outer s H vs Q E hr h => ?_)
  · obtain ⟨ca, wa, ts, sh, ws, rfl, _⟩ := h
    rfl
  · obtain ⟨ca, wa, ts, sh, ws, rfl, hca, hcs, h9, hwa, hwl, k⟩ := h
    refine ⟨_, pss_cons (ps_set (i := 2) scMass.nd rfl (Or.inl rfl) (pgl O.N.zero))
      (pss_cons (ps_for (own_cx rfl) rfl (pi_zip rfl B.zip (pa_n (pv 0) (pa_n (pv 1) pa_nil))) (pg_tup rfl (pgs_cons (pg_name (i := 3) scMass.nd rfl (Or.inl rfl)) (pgs_cons (pg_name (i := 4) scMass.nd rfl (Or.inl rfl)) pgs_nil)))
        (pss_one (ps_if (pt_cmpR op_eq (pv 4) pe_int (nomark _))
          (pss_one (ps_for (own_cx rfl) rfl (pi_tup (pv 3)) (pg_name (i := 5) scMass.nd rfl (Or.inl rfl)) (pss_one (ps_set (i := 2) scMass.nd rfl (Or.inl rfl) (pcall O.add hr (pass_cx fun _ z => z) (pa_n (pv 2) (pa_n (pv 5) pa_nil))))))) pss_nil)))
      (pss_one (ps_ret (pv 2)))), ?_⟩
    have hzl : (sh.zip ws).length = sh.length := by rw [List.length_zip]; omega
    refine ⟨_, rfl, _, rfl, ca, wa, _, _, rfl, SqL.of hca, SqL.of hwa, ?_⟩
    refine for_zip (K := K) (xs := ts.map V.ref) (ys := ws.map wI) (by rw [List.length_map, List.length_map, hcs.len, hwl])
      (fun i σ H2 => ∃ (r : Nat) (v3 v4 v5 : Option V), σ = [some (.ref ca), some (.ref wa), some (nI r), v3, v4, v5] ∧ massN 0 ((sh.zip ws).take i) = some r ∧ D64 r ∧ Same H H2)
      ⟨0, none, none, none, rfl, rfl, by decide, Same.refl H⟩ ?_ ?_ ?_
    · rintro i σ H2 _ ⟨_, _, _, _, _, _, _, s2⟩
      exact ⟨SqL.of (s2 _ _ hca), SqL.of (s2 _ _ hwa)⟩
    · rintro i x y T σ H2 hx hy hT ⟨r, v3, v4, v5, rfl, hm, hr64, s2⟩
      obtain ⟨t, ht, rfl⟩ := get_map hx
      obtain ⟨b, hb, rfl⟩ := get_map hy
      obtain ⟨f, hf, hft⟩ := hcs.get ht
      have h9f : Nine f := h9 f (List.mem_of_getElem? hf)
      have hpq : (sh.zip ws)[i]? = some (f, b) := List.getElem?_zip_eq_some.mpr ⟨hf, hb⟩
      obtain ⟨m1, m2⟩ := massN_take hm hpq
      have s3 : Same H (upd H2 T (.tup [.ref t, wI b])) := s2.trans (same_new hT)
      refine ⟨T, _, rfl, SqT.of upd_same, rfl, _, _, rfl, _, _, rfl, rfl, ?_⟩
      generalize upd H2 T (.tup [.ref t, wI b]) = H3 at s3
      refine ⟨_, rfl, rfl, _, rfl, ?_⟩
      show if decide (wI b = V.int 0) = true then _ else _
      rw [wI_0]
      refine ite2 (fun hbf => ?_) (fun hbt => ?_)
      · have hbf : b = false := by simpa using hbf
        obtain ⟨m3, m4⟩ := m2 hbf
        have hft3 := s3 _ _ hft
        refine ⟨_, rfl, t, rfl, ⟨_, SqT.of hft3⟩, ?_⟩
        refine for_tup (K := K) (a := t) (xs := f.map nI) (fun j σ H4 => ∃ (q : Nat) (v5 : Option V), σ = [some (.ref ca), some (.ref wa), some (nI q), some (.ref t), some (wI b), v5] ∧ sumO r (f.take j) = some q ∧ Same H3 H4)
          ⟨r, v5, rfl, rfl, Same.refl _⟩ (fun j σ H4 _ ⟨_, _, _, _, s4⟩ => SqT.of (s4 _ _ hft3)) ?_ ?_
        · rintro j x σ H4 hx ⟨q, v5, rfl, hsum, s4⟩
          obtain ⟨y, hy, rfl⟩ := get_map hx
          have hy64 : D64 y := h9f.lt y (List.mem_of_getElem? hy)
          have hq64 : D64 q := sumO_lt hr64 hsum
          obtain ⟨n1, n2⟩ := sumO_take hsum hy
          refine ⟨_, rfl, _, rfl, q, y, rfl, hq64, hy64, ?_⟩
          cases ha : addN q y with
          | none =>
            rw [m4 (n2 ha)] at k
            exact k H4 (s3.trans s4)
          | some u => exact ⟨u, _, rfl, n1 u ha, s4⟩
        · rintro σ H4 ⟨q, v5, rfl, hsum, s4⟩
          rw [List.length_map, List.take_length] at hsum
          exact ⟨q, _, _, _, rfl, m3 q hsum, sumO_lt hr64 hsum, s3.trans s4⟩
      · have hbt : b = true := by simpa using hbt
        exact ⟨r, _, _, _, rfl, m1 hbt, hr64, s3⟩
    · rintro σ H2 ⟨r, v3, v4, v5, rfl, hm, hr64, s2⟩
      rw [List.length_map, hcs.len, ← hzl, List.take_length] at hm
      rw [hm] at k
      exact ⟨_, rfl, k H2 s2 hr64⟩
end
end Cf
namespace L2
open PySem PySem.Spec PyProof.Rows
structure MOk (P : Program) (w : World) (K : PySem.W.Frag) (mg : Str → Option Value) (base : Heap) (C Cg : Addr) (k : Nat) (m : Str) (ps : List Str) (sp : Sp) : Prop where
  ex : ∃ f fd, FnOk P w K mg base (CXN C P w) k f fd ps sp ∧ Meth K Cg m f ∧ Binds K fd ps []
section
variable {X : Cx} {C Cg : Addr} {k : Nat} {m : Str} {ps : List Str} {sp : Sp} {E : XK} {o e : Expr} {es : List Expr} {ta : TE} {t : TA} {apos pos : Pos}
theorem pmeth {pl : Sem Bool} (M : MOk X.prog X.w X.K X.mg X.base C Cg k m ps sp) (c : Cls X.K Cg) (he : PE X o ta) (hr : Room k X.A) (hx : Passes (CXN C X.prog X.w) X E) (ha : PA X (e :: es) t)
    (hst : starEach (e :: es) X.env = (false, eval e X.env) :: starEach es X.env := by rfl) (hpl : (backTo pos (starEach es X.env)).any (·.1) = false := by rfl)
    (ht : eval (.Call (.Attribute o m apos) (e :: es) [] pos) X.env = (do
      let ov ← eval o X.env
      standAt apos.atName
      let (f, first) ← holding [ov] (getMethod ov m pl)
      callWith pos f first (backTo pos (starEach (e :: es) X.env)) (backToKw pos (keywordEach [] X.env))) := by rfl) :
    PE X (.Call (.Attribute o m apos) (e :: es) [] pos) (tMeth Cg m sp [] E ta t) := by
  obtain ⟨f, fd, F, hm, hb⟩ := M.ex
  exact pe_meth (pl := pl) he c hm F hr hb .nil hx ha hst hpl ht
theorem pmeth0 {pl : Sem Bool} (M : MOk X.prog X.w X.K X.mg X.base C Cg k m ps sp) (c : Cls X.K Cg) (he : PE X o ta) (hr : Room k X.A) (hx : Passes (CXN C X.prog X.w) X E)
    (ht : eval (.Call (.Attribute o m apos) [] [] pos) X.env = (do
      let ov ← eval o X.env
      standAt apos.atName
      let (f, first) ← holding [ov] (getMethod ov m pl)
      callWith pos f first (backTo pos (starEach [] X.env)) (backToKw pos (keywordEach [] X.env))) := by rfl) :
    PE X (.Call (.Attribute o m apos) [] [] pos) (tMeth Cg m sp [] E ta tNil) := by
  obtain ⟨f, fd, F, hm, hb⟩ := M.ex
  exact pe_meth0 (pl := pl) he c hm F hr hb .nil hx ht
end
end L2
namespace Cf
open PySem L2
noncomputable abbrev mInit : Stmt := inClass sGrid 0
noncomputable abbrev mHas : Stmt := inClass sGrid 1
noncomputable abbrev mPlace : Stmt := inClass sGrid 2
noncomputable abbrev mBegin : Stmt := inClass sGrid 3
noncomputable abbrev mWall : Stmt := inClass sGrid 4
noncomputable abbrev mSet : Stmt := inClass sGrid 5
noncomputable abbrev mStep : Stmt := inClass sGrid 6
noncomputable abbrev mGet : Stmt := inClass sGrid 7
noncomputable abbrev mMass : Stmt := inClass sGrid 8
noncomputable def flds (c r o : V) (wa sa : Addr) : List (Str × V) := [("cols", c), ("rows", r), ("omega", o), ("walls", .ref wa), ("shares", .ref sa)]
section
variable {c r o v : V} {wa sa a : Addr}
theorem l_cols : (flds c r o wa sa).lookup ("cols" : Str) = some c := rfl
theorem l_rows : (flds c r o wa sa).lookup ("rows" : Str) = some r := rfl
theorem l_om : (flds c r o wa sa).lookup ("omega" : Str) = some o := rfl
theorem l_w : (flds c r o wa sa).lookup ("walls" : Str) = some (.ref wa) := rfl
theorem l_s : (flds c r o wa sa).lookup ("shares" : Str) = some (.ref sa) := rfl
theorem p_cols : putF "cols" v (flds c r o wa sa) = flds v r o wa sa := rfl
theorem p_rows : putF "rows" v (flds c r o wa sa) = flds c v o wa sa := rfl
theorem p_om : putF "omega" v (flds c r o wa sa) = flds c r v wa sa := rfl
theorem p_w : putF "walls" (.ref a) (flds c r o wa sa) = flds c r o a sa := rfl
theorem p_s : putF "shares" (.ref a) (flds c r o wa sa) = flds c r o wa a := rfl
end
noncomputable def GridAt (Cg : Addr) (H : Hp) (p wa sa : Addr) : Sn42.St → Prop
  | none => (∃ dx, H p = some (.ins Cg dx (flds (.int 0) (.int 0) (.int 0) wa sa))) ∧ H wa = some (.lst []) ∧ H sa = some (.lst [])
  | some g => (∃ dx, H p = some (.ins Cg dx (flds (nI g.cols) (nI g.rows) (nI g.omega) wa sa))) ∧ WF g ∧ H wa = some (.lst (g.walls.map wI)) ∧ ∃ ts, H sa = some (.lst (ts.map V.ref)) ∧ Cells H ts g.shares
theorem GridAt.obj {Cg : Addr} {H : Hp} {p wa sa : Addr} {st : Sn42.St} (h : GridAt Cg H p wa sa st) : ∃ dx c r o, H p = some (.ins Cg dx (flds c r o wa sa)) := by
  cases st with
  | none => obtain ⟨⟨dx, h⟩, _⟩ := h; exact ⟨dx, _, _, _, h⟩
  | some g => obtain ⟨⟨dx, h⟩, _⟩ := h; exact ⟨dx, _, _, _, h⟩
structure Kept (H H' : Hp) (p wa sa wa' sa' : Addr) : Prop where
  fr : ∀ b u, H b = some u → b ≠ p → b ≠ wa → b ≠ sa → H' b = some u
  w : wa' = wa ∨ H wa' = none
  s : sa' = sa ∨ H sa' = none
theorem Kept.refl {H : Hp} {p wa sa : Addr} : Kept H H p wa sa wa sa := ⟨fun _ _ e _ _ _ => e, .inl rfl, .inl rfl⟩
theorem Kept.same {H H' : Hp} {p wa sa : Addr} (s : Same H H') : Kept H H' p wa sa wa sa := ⟨fun b u e _ _ _ => s b u e, .inl rfl, .inl rfl⟩
theorem GridAt.same {Cg : Addr} {H H' : Hp} {p wa sa : Addr} {st : Sn42.St} (s : Same H H') (h : GridAt Cg H p wa sa st) : GridAt Cg H' p wa sa st := by
  cases st with
  | none =>
    obtain ⟨⟨dx, h1⟩, h2, h3⟩ := h
    exact ⟨⟨dx, s _ _ h1⟩, s _ _ h2, s _ _ h3⟩
  | some g =>
    obtain ⟨⟨dx, h1⟩, h2, h3, ts, h4, h5⟩ := h
    exact ⟨⟨dx, s _ _ h1⟩, h2, s _ _ h3, ts, s _ _ h4, h5.same s⟩
structure GCls (K : PySem.W.Frag) (Cg : Addr) : Prop where
  cl : Cls K Cg
  nC : NoAttr K Cg "cols"
  nR : NoAttr K Cg "rows"
  nO : NoAttr K Cg "omega"
  nW : NoAttr K Cg "walls"
  nS : NoAttr K Cg "shares"
section
variable {P : Program} {w : World} {K : PySem.W.Frag} {mg : Str → Option Value} {base : Heap} {C Cg : Addr}
noncomputable def spInit (Cg : Addr) : Sp := fun vs H Q _ => ∃ (p dx : Addr), vs = [.ref p] ∧ H p = some (.ins Cg dx []) ∧ ∀ (wa sa : Addr) (H' : Hp), H wa = none → H sa = none → GridAt Cg H' p wa sa none → (∀ b u, H b = some u → b ≠ p → H' b = some u) → Q .non H'
theorem scInit : FnScope ["self"] ["self"] (defScope mInit) := ⟨rfl, rfl, rfl, by decide +kernel, rfl, by decide +kernel, by decide +kernel⟩
theorem ok_init {f : Addr} {fd : FuncData} (F : Fun K "__init__" "Grid.__init__" mInit f fd) (N : Ints mg) (T : GCls K Cg) : FnOk P w K mg base (CXN C P w) 1 f fd ["self"] (spInit Cg) := by
  refine F.okX scInit (fun vs H Q E h => ?_) (fun cdv A outer s H vs Q E hr h => ?_)
  · obtain ⟨p, dx, rfl, _⟩ := h
    rfl
  · obtain ⟨p, dx, rfl, hp, k⟩ := h
    refine ⟨_, pss_cons (ps_fld (pv 0) pe_int rfl) (pss_cons (ps_fld (pv 0) pe_int rfl) (pss_cons (ps_fld (pv 0) (pgl N.zero) rfl) (pss_cons (ps_fld (pv 0) (pe_lst pa_nil) rfl) (pss_one (ps_fld (pv 0) (pe_lst pa_nil) rfl))))), ?_⟩
    refine ⟨_, rfl, p, Cg, dx, _, rfl, hp, T.cl, T.nC, (by show 0 < 1000; decide), ?_⟩
    refine ⟨_, rfl, p, Cg, dx, _, rfl, upd_same, T.cl, T.nR, (by show 1 < 1000; decide), ?_⟩
    refine ⟨_, rfl, p, Cg, dx, _, rfl, upd_same, T.cl, T.nO, (by show 2 < 1000; decide), ?_⟩
    rw [upd_upd, upd_upd]
    refine ⟨by show 0 ≤ sizeLine; decide, fun wa hwa => ?_⟩
    have npw : p ≠ wa := fun z => by rw [← z, upd_same] at hwa; cases hwa
    have hwn : H wa = none := by rw [upd_ne npw.symm] at hwa; exact hwa
    refine ⟨_, rfl, p, Cg, dx, _, rfl, by rw [upd_ne npw, upd_same], T.cl, T.nW, (by show 3 < 1000; decide), ?_⟩
    refine ⟨by show 0 ≤ sizeLine; decide, fun sa hsa => ?_⟩
    have nps : p ≠ sa := fun z => by rw [← z, upd_same] at hsa; cases hsa
    have nws : wa ≠ sa := fun z => by rw [← z, upd_ne npw.symm, upd_same] at hsa; cases hsa
    have hsn : H sa = none := by rw [upd_ne nps.symm, upd_ne nws.symm, upd_ne nps.symm] at hsa; exact hsa
    refine ⟨_, rfl, p, Cg, dx, _, rfl, by rw [upd_ne nps, upd_same], T.cl, T.nS, (by show 4 < 1000; decide), ?_⟩
    refine k wa sa _ hwn hsn ⟨⟨dx, upd_same⟩, ?_, ?_⟩ fun b u e hb => ?_
    · rw [upd_ne npw.symm, upd_ne nws, upd_ne npw.symm, upd_same]
    · rw [upd_ne nps.symm, upd_same]
    · rw [upd_ne hb, upd_ne (ne_of_none e hsn), upd_ne hb, upd_ne (ne_of_none e hwn), upd_ne hb]
      exact e
noncomputable def spHas (Cg : Addr) : Sp := fun vs H Q _ => ∃ (p dx : Addr) (c r : Int) (o : V) (wa sa : Addr) (x y : Int), vs = [.ref p, .int x, .int y] ∧ H p = some (.ins Cg dx (flds (.int c) (.int r) o wa sa)) ∧
  Q (.bl (decide (0 ≤ x) && (decide (x < c) && (decide (0 ≤ y) && decide (y < r))))) H
theorem scHas : FnScope ["self", "x", "y"] ["self", "x", "y"] (defScope mHas) := ⟨rfl, rfl, rfl, by decide +kernel, rfl, by decide +kernel, by decide +kernel⟩
theorem ok_has {f : Addr} {fd : FuncData} (F : Fun K "has_cell" "Grid.has_cell" mHas f fd) (T : GCls K Cg) : FnOk P w K mg base (CXN C P w) 1 f fd ["self", "x", "y"] (spHas Cg) := by
  refine F.okX scHas (fun vs H Q E h => ?_) (fun cdv A outer s H vs Q E hr h => ?_)
  · obtain ⟨p, dx, c, r, o, wa, sa, x, y, rfl, _⟩ := h
    rfl
  · obtain ⟨p, dx, c, r, o, wa, sa, x, y, rfl, hp, k⟩ := h
    refine ⟨_, pss_one (ps_ret (pe_and (pe_chain op_le op_lt pe_int (pv 1) (pe_fld (pv 0) rfl)) (pe_one (pe_chain op_le op_lt pe_int (pv 2) (pe_fld (pv 0) rfl))))), ?_⟩
    refine ⟨_, rfl, _, _, rfl, rfl, _, rfl, ?_⟩
    show if decide ((0 : Int) ≤ x) = true then _ else _
    refine ite2 (fun h1 => ?_) (fun h1 => ?_)
    · rw [h1, Bool.true_and] at k
      refine ⟨_, rfl, p, Cg, dx, _, _, rfl, hp, T.cl, T.nC, l_cols, _, _, rfl, rfl, _, rfl, ?_⟩
      show if decide (x < c) = true then _ else _
      refine ite2 (fun h2 => ?_) (fun h2 => ?_)
      · rw [h2, Bool.true_and] at k
        refine ⟨_, rfl, _, _, rfl, rfl, _, rfl, ?_⟩
        show if decide ((0 : Int) ≤ y) = true then _ else _
        refine ite2 (fun h3 => ?_) (fun h3 => ?_)
        · rw [h3, Bool.true_and] at k
          exact ⟨_, rfl, p, Cg, dx, _, _, rfl, hp, T.cl, T.nR, l_rows, _, _, rfl, rfl, k⟩
        · rw [show decide ((0 : Int) ≤ y) = false by simpa using h3, Bool.false_and] at k
          exact k
      · rw [show decide (x < c) = false by simpa using h2, Bool.false_and] at k
        exact k
    · rw [show decide ((0 : Int) ≤ x) = false by simpa using h1, Bool.false_and] at k
      exact ⟨_, rfl, iteF k⟩
noncomputable def spPlace (Cg : Addr) : Sp := fun vs H Q _ => ∃ (p dx : Addr) (c : Int) (r o : V) (wa sa : Addr) (x y : Int), vs = [.ref p, .int x, .int y] ∧ H p = some (.ins Cg dx (flds (.int c) r o wa sa)) ∧ (-(2 ^ 64) < y ∧ y < 2 ^ 64) ∧ Q (.int (y * c + x)) H
theorem scPlace : FnScope ["self", "x", "y"] ["self", "x", "y"] (defScope mPlace) := ⟨rfl, rfl, rfl, by decide +kernel, rfl, by decide +kernel, by decide +kernel⟩
theorem ok_place {f : Addr} {fd : FuncData} (F : Fun K "place" "Grid.place" mPlace f fd) (T : GCls K Cg) : FnOk P w K mg base (CXN C P w) 1 f fd ["self", "x", "y"] (spPlace Cg) := by
  refine F.okX scPlace (fun vs H Q E h => ?_) (fun cdv A outer s H vs Q E hr h => ?_)
  · obtain ⟨p, dx, c, r, o, wa, sa, x, y, rfl, _⟩ := h
    rfl
  · obtain ⟨p, dx, c, r, o, wa, sa, x, y, rfl, hp, hy, k⟩ := h
    refine ⟨_, pss_one (ps_ret (pe_op op_add (pe_op op_mul (pv 2) (pe_fld (pv 0) rfl)) (pv 1))), ?_⟩
    exact ⟨_, rfl, _, rfl, p, Cg, dx, _, _, rfl, hp, T.cl, T.nC, l_cols, _, _, rfl, rfl, .inl hy, _, rfl, _, _, rfl, rfl, k⟩
end
theorem still_some : restN Sn42.ONE 0 0 = some Sn42.still := by
  rw [← settled_eq]
  have h : (Sn42.settled ⟨Sn42.ONE, 0, 0⟩).isSome = true := by decide +kernel
  unfold Sn42.still
  cases e : Sn42.settled ⟨Sn42.ONE, 0, 0⟩ with
  | none => rw [e] at h; cases h
  | some l => rfl
theorem flat_one {α : Type} (x : α) : ∀ n : Nat, (List.replicate n [x]).flatten = List.replicate n x
  | 0 => rfl
  | n + 1 => by rw [List.replicate_succ, List.flatten_cons, flat_one x n]; rfl
theorem Cells.rep {H : Hp} {t : Addr} {f : List Nat} (n : Nat) (h : H t = some (.tup (f.map nI))) : Cells H (List.replicate n t) (List.replicate n f) := by
  refine ⟨by rw [List.length_replicate, List.length_replicate], fun i t' f' h1 h2 => ?_⟩
  have e1 : t' = t := List.eq_of_mem_replicate (List.mem_of_getElem? h1)
  have e2 : f' = f := List.eq_of_mem_replicate (List.mem_of_getElem? h2)
  rw [e1, e2]
  exact h
section
variable {P : Program} {w : World} {K : PySem.W.Frag} {mg : Str → Option Value} {base : Heap} {C Cg : Addr}
noncomputable def spBegin (Cg : Addr) : Sp := fun vs H Q _ => ∃ (p wa sa : Addr) (st : Sn42.St) (c r : Int) (o : Nat), vs = [.ref p, .int c, .int r, nI o] ∧ D64 o ∧ GridAt Cg H p wa sa st ∧
  ∀ (wa' sa' : Addr) (H' : Hp), Kept H H' p wa sa wa' sa' → GridAt Cg H' p wa' sa' (Sn42.step st (.begin_ c r o)).1 → Q (.int (Sn42.step st (.begin_ c r o)).2.value) H'
theorem scBegin : FnScope ["self", "cols", "rows", "omega"] ["self", "cols", "rows", "omega"] (defScope mBegin) := ⟨rfl, rfl, rfl, by decide +kernel, rfl, by decide +kernel, by decide +kernel⟩
theorem begin_eq (st : Sn42.St) (c r : Int) (o : Nat) : Sn42.step st (.begin_ c r o) = if Sn42.within c 1 Sn42.SIDE = false ∨ Sn42.within r 1 Sn42.SIDE = false then (st, ⟨-2, []⟩) else if Sn42.finite o = false then (st, ⟨-3, []⟩) else
    (some ⟨c.toNat, r.toNat, o, List.replicate (c.toNat * r.toNat) false, List.replicate (c.toNat * r.toNat) Sn42.still⟩, ⟨0, []⟩) := by cases st <;> rfl
theorem within_iff {i : Int} : Sn42.within i 1 Sn42.SIDE = true ↔ 1 ≤ i ∧ i ≤ 256 := by
  show (decide ((1 : Int) ≤ i) && decide (i ≤ (256 : Int))) = true ↔ _
  rw [Bool.and_eq_true, decide_eq_true_eq, decide_eq_true_eq]
theorem ok_begin {f : Addr} {fd : FuncData} (F : Fun K "begin" "Grid.begin" mBegin f fd) (O : Ops P w K mg base C) (N : Nums mg) (T : GCls K Cg) (oi : Ok P w K mg base C 1 "is_side" ["count"] spSide) (ore : Ok P w K mg base C 5 "shares_at_rest" ["rho", "ux", "uy"] (spRest C)) :
    FnOk P w K mg base (CXN C P w) 6 f fd ["self", "cols", "rows", "omega"] (spBegin Cg) := by
  refine F.okX scBegin (fun vs H Q E h => ?_) (fun cdv A outer s H vs Q E hr h => ?_)
  · obtain ⟨p, wa, sa, st, c, r, o, rfl, _⟩ := h
    rfl
  · obtain ⟨p, wa, sa, st, c, r, o, rfl, ho, hG, k⟩ := h
    have hr1 : Room 1 _ := hr.mono (by decide)
    have hr3 : Room 3 _ := hr.mono (by decide)
    refine ⟨_, pss_cons (ps_if (pw_or (pt_not (pt_val (pcall oi hr1 (pass_cx fun _ z => z) (pa_n (pv 1) pa_nil)))) (pw_or1 (pt_not (pt_val (pcall oi hr1 (pass_cx fun _ z => z) (pa_n (pv 2) pa_nil)))))).pt (pss_one (ps_ret (pgl N.oor))) pss_nil)
      (pss_cons (ps_if (pt_not (pt_val (pcall O.fin hr3 (pass_cx fun _ z => z) (pa_n (pv 3) pa_nil)))) (pss_one (ps_ret (pgl N.nf))) pss_nil)
      (pss_cons (ps_fld (pv 0) (pv 1) rfl)
      (pss_cons (ps_fld (pv 0) (pv 2) rfl)
      (pss_cons (ps_fld (pv 0) (pv 3) rfl)
      (pss_cons (ps_fld (pv 0) (pe_op op_rep (pe_lst (pa_cons pe_int pa_nil)) (pe_op op_mul (pv 1) (pv 2))) rfl)
      (pss_cons (ps_fld (pv 0) (pe_op op_rep (pe_lst (pa_cons (pcall ore hr (pass_cx fun _ z => z) (pa_n (pgl O.N.one) (pa_n (pgl O.N.zero) (pa_n (pgl O.N.zero) pa_nil)))) pa_nil)) (pe_op op_mul (pv 1) (pv 2))) rfl)
      (pss_one (ps_ret (pgl N.done))))))))), ?_⟩
    have es := begin_eq st c r o
    have oor : (Sn42.within c 1 Sn42.SIDE = false ∨ Sn42.within r 1 Sn42.SIDE = false) → Q (.int (-2)) H := fun hh => by
      rw [es, if_pos hh] at k
      exact k wa sa H Kept.refl hG
    refine ⟨_, rfl, c, rfl, _, rfl, ?_⟩
    refine ite2 (fun h1 => iteT ?_) (fun h1 => ?_)
    · exact oor (.inl (by simpa using h1))
    refine ⟨_, rfl, r, rfl, _, rfl, ?_⟩
    refine ite2 (fun h2 => ?_) (fun h2 => ?_)
    · exact oor (.inr (by simpa using h2))
    have h1 : Sn42.within c 1 Sn42.SIDE = true := by simpa using h1
    have h2 : Sn42.within r 1 Sn42.SIDE = true := by simpa using h2
    rw [es, if_neg (by rw [h1, h2]; decide)] at k
    refine ⟨_, rfl, o, rfl, _, rfl, ?_⟩
    refine ite2 (fun h3 => ?_) (fun h3 => ?_)
    · have h3 : Sn42.finite o = false := by simpa using h3
      rw [if_pos h3] at k
      exact k wa sa H Kept.refl hG
    have h3 : ¬ Sn42.finite o = false := by simpa using h3
    rw [if_neg h3] at k
    obtain ⟨c1, c2⟩ := within_iff.mp h1
    obtain ⟨r1, r2⟩ := within_iff.mp h2
    obtain ⟨cn, rfl⟩ : ∃ cn : Nat, c = (cn : Int) := ⟨c.toNat, by omega⟩
    obtain ⟨rn, rfl⟩ : ∃ rn : Nat, r = (rn : Int) := ⟨r.toNat, by omega⟩
    rw [Int.toNat_natCast, Int.toNat_natCast] at k
    have hcr : cn * rn ≤ 256 * 256 := Nat.mul_le_mul (by omega) (by omega)
    have em : ((cn : Int) * (rn : Int)) = ((cn * rn : Nat) : Int) := by rw [Int.natCast_mul]
    obtain ⟨dx, c0, r0, o0, hp⟩ := hG.obj
    refine ⟨_, rfl, _, rfl, p, Cg, dx, _, rfl, hp, T.cl, T.nC, (by show 5 < 1000; decide), ?_⟩
    refine ⟨_, rfl, _, rfl, p, Cg, dx, _, rfl, upd_same, T.cl, T.nR, (by show 5 < 1000; decide), ?_⟩
    refine ⟨_, rfl, _, rfl, p, Cg, dx, _, rfl, upd_same, T.cl, T.nO, (by show 5 < 1000; decide), ?_⟩
    have h3p : (upd (upd (upd H p (.ins Cg dx (putF "cols" (nI cn) (flds c0 r0 o0 wa sa)))) p (.ins Cg dx (putF "rows" (nI rn) (putF "cols" (nI cn) (flds c0 r0 o0 wa sa))))) p (.ins Cg dx (putF "omega" (nI o) (putF "rows" (nI rn) (putF "cols" (nI cn) (flds c0 r0 o0 wa sa)))))) =
        upd H p (.ins Cg dx (flds (nI cn) (nI rn) (nI o) wa sa)) := by rw [upd_upd, upd_upd, p_cols, p_rows, p_om]
    have fr3 : ∀ b u, H b = some u → b ≠ p → upd H p (.ins Cg dx (flds (nI cn) (nI rn) (nI o) wa sa)) b = some u := fun b u e hb => by rw [upd_ne hb]; exact e
    have hp3 : upd H p (.ins Cg dx (flds (nI cn) (nI rn) (nI o) wa sa)) p = some (.ins Cg dx (flds (nI cn) (nI rn) (nI o) wa sa)) := upd_same
    have fn3 : ∀ b, upd H p (.ins Cg dx (flds (nI cn) (nI rn) (nI o) wa sa)) b = none → H b = none := fun b e => by
      have nb : b ≠ p := fun z => by rw [z, hp3] at e; cases e
      rw [upd_ne nb] at e
      exact e
    rw [h3p]
    clear h3p
    generalize upd H p (.ins Cg dx (flds (nI cn) (nI rn) (nI o) wa sa)) = H3 at fr3 hp3 fn3
    -- self.walls = [0] * (cols * rows)
    refine ⟨by show 1 ≤ sizeLine; decide, fun l1 hl1 => ?_⟩
    refine ⟨_, rfl, _, rfl, _, _, rfl, rfl, .inl ⟨by show -(2 ^ 64) < ((cn : Nat) : Int); omega, by show ((cn : Nat) : Int) < 2 ^ 64; omega⟩, ?_⟩
    refine ⟨l1, _, _, rfl, rfl, upd_same, ?_, ?_, ?_, fun wa' hwa' => ?_⟩
    · show -(2 ^ 63) ≤ ((cn : Int) * (rn : Int)); rw [em]; omega
    · show ((cn : Int) * (rn : Int)) < 2 ^ 63; rw [em]; omega
    · show 1 * ((cn : Int) * (rn : Int)).toNat ≤ sizeLine
      rw [em, Int.toNat_natCast, PySem.sizeLine_eq]; omega
    have n1 : p ≠ l1 := ne_of_none hp3 hl1
    have hwa3 : H3 wa' = none := (same_new hl1).free hwa'
    have n2 : p ≠ wa' := ne_of_none hp3 hwa3
    refine ⟨_, rfl, p, Cg, dx, _, rfl, by rw [upd_ne n2, upd_ne n1]; exact hp3, T.cl, T.nW, (by show 5 < 1000; decide), ?_⟩
    -- the heap there
    have e5 : (List.replicate ((cn : Int) * (rn : Int)).toNat [V.int 0]).flatten = (List.replicate (cn * rn) false).map wI := by
      rw [em, Int.toNat_natCast, flat_one, List.map_replicate]
      rfl
    rw [e5, p_w]
    have s5 : Same H3 (upd (upd H3 l1 (.lst [.int 0])) wa' (.lst ((List.replicate (cn * rn) false).map wI))) := same_upd (same_new hl1) hwa3
    have hw5 : (upd (upd H3 l1 (.lst [.int 0])) wa' (.lst ((List.replicate (cn * rn) false).map wI))) wa' = some (.lst ((List.replicate (cn * rn) false).map wI)) := upd_same
    generalize upd (upd H3 l1 (.lst [.int 0])) wa' (.lst ((List.replicate (cn * rn) false).map wI)) = H5 at s5 hw5
    have hp6 : (upd H5 p (.ins Cg dx (flds (nI cn) (nI rn) (nI o) wa' sa))) p = some (.ins Cg dx (flds (nI cn) (nI rn) (nI o) wa' sa)) := upd_same
    have fr6 : ∀ b u, H5 b = some u → b ≠ p → (upd H5 p (.ins Cg dx (flds (nI cn) (nI rn) (nI o) wa' sa))) b = some u := fun b u e hb => by rw [upd_ne hb]; exact e
    generalize upd H5 p (.ins Cg dx (flds (nI cn) (nI rn) (nI o) wa' sa)) = H6 at hp6 fr6
    -- self.shares = [shares_at_rest(ONE, ZERO, ZERO)] * (cols * rows)
    refine ⟨Sn42.ONE, 0, 0, rfl, d1, by decide, by decide, ?_⟩
    rw [still_some]
    intro t H7 s7 ht
    refine ⟨by show 1 ≤ sizeLine; decide, fun l2 hl2 => ?_⟩
    refine ⟨_, rfl, _, rfl, _, _, rfl, rfl, .inl ⟨by show -(2 ^ 64) < ((cn : Nat) : Int); omega, by show ((cn : Nat) : Int) < 2 ^ 64; omega⟩, ?_⟩
    refine ⟨l2, _, _, rfl, rfl, upd_same, ?_, ?_, ?_, fun sa' hsa' => ?_⟩
    · show -(2 ^ 63) ≤ ((cn : Int) * (rn : Int)); rw [em]; omega
    · show ((cn : Int) * (rn : Int)) < 2 ^ 63; rw [em]; omega
    · show 1 * ((cn : Int) * (rn : Int)).toNat ≤ sizeLine
      rw [em, Int.toNat_natCast, PySem.sizeLine_eq]; omega
    have hp7 := s7 _ _ hp6
    have n3 : p ≠ l2 := ne_of_none hp7 hl2
    have hsa7 : H7 sa' = none := (same_new hl2).free hsa'
    have n4 : p ≠ sa' := ne_of_none hp7 hsa7
    refine ⟨_, rfl, p, Cg, dx, _, rfl, by rw [upd_ne n4, upd_ne n3]; exact hp7, T.cl, T.nS, (by show 5 < 1000; decide), ?_⟩
    have e9 : (List.replicate ((cn : Int) * (rn : Int)).toNat [V.ref t]).flatten = (List.replicate (cn * rn) t).map V.ref := by
      rw [em, Int.toNat_natCast, flat_one, List.map_replicate]
    show Q (.int 0) (upd (upd (upd H7 l2 (.lst [.ref t])) sa' (.lst (List.replicate ((cn : Int) * (rn : Int)).toNat [V.ref t]).flatten)) p (.ins Cg dx (putF "shares" (.ref sa') (flds (nI cn) (nI rn) (nI o) wa' sa))))
    rw [e9, p_s]
    have hwp : wa' ≠ p := n2.symm
    have hw7 : H7 wa' = some (.lst ((List.replicate (cn * rn) false).map wI)) := s7 _ _ (fr6 _ _ hw5 hwp)
    have nws : wa' ≠ sa' := ne_of_none hw7 hsa7
    have nwl : wa' ≠ l2 := ne_of_none hw7 hl2
    have frA : ∀ b u, H b = some u → b ≠ p → H7 b = some u := fun b u e hb => s7 _ _ (fr6 _ _ (s5 _ _ (fr3 b u e hb)) hb)
    have hsn : H sa' = none := by
      cases z : H sa' with
      | none => rfl
      | some u => rw [frA _ _ z n4.symm] at hsa7; cases hsa7
    have ntp : t ≠ p := ne_of ht hp7 (by intro z; cases z)
    have nts : t ≠ sa' := ne_of_none ht hsa7
    have ntl : t ≠ l2 := ne_of_none ht hl2
    refine k wa' sa' _ ⟨fun b u e hb _ _ => ?_, .inr (fn3 _ hwa3), .inr hsn⟩ ⟨⟨dx, upd_same⟩, ⟨?_, ?_, ?_, ?_, ho, ?_, ?_, fun q hq => ?_⟩, ?_, List.replicate (cn * rn) t, ?_, Cells.rep _ ?_⟩
    · have z := frA b u e hb
      rw [upd_ne hb, upd_ne (ne_of_none z hsa7), upd_ne (ne_of_none z hl2)]
      exact z
    · show 1 ≤ cn; omega
    · show cn ≤ 256; omega
    · show 1 ≤ rn; omega
    · show rn ≤ 256; omega
    · show (List.replicate (cn * rn) false).length = _
      rw [List.length_replicate]
    · show (List.replicate (cn * rn) Sn42.still).length = _
      rw [List.length_replicate]
    · have e : q = Sn42.still := List.eq_of_mem_replicate hq
      rw [e]
      exact ⟨restN_len still_some, restN_lt still_some⟩
    · rw [upd_ne hwp, upd_ne nws, upd_ne nwl]
      exact hw7
    · rw [upd_ne n4.symm, upd_same]
    · rw [upd_ne ntp, upd_ne nts, upd_ne ntl]
      exact ht
end
end Cf
namespace L2
open PySem PySem.Spec PyProof.Rows
theorem pass_no {X : Cx} {C : Addr} {P : Program} {w : World} : Passes (CXN C P w) X (fun _ _ _ => False) := fun _ _ _ _ _ _ _ h => by
  obtain ⟨_, _, _, _, _, _, _, q⟩ := h
  exact q.elim
end L2
namespace Cf
open PySem L2
theorem ptry {X : Cx} {C : Addr} {k : Nat} {ps : List Str} {sp : Sp} {i : Nat} {y fx nx : Str} {e : Expr} {es : List Expr} {ta : TA} {th : TS} {b0 : Stmt} {suite : List Stmt} {py p cpos apos np hpos tpos : Pos}
    (O : Ok X.prog X.w X.K X.mg X.base C k fx ps sp) (hr : Room k X.A) (hst : X.stack = X.env :: X.outer) (hfr : X.env.frame = some X.env.locals)
    (hN : X.N.Nodup) (hi : X.N[i]? = some y) (hx : Loc X.env.scope y) (hg : Gl X fx) (ha : PA X.nox (e :: es) ta)
    (xc : XCls X.K C) (hgn : Gl X nx) (hmn : X.mg nx = some (.ref C)) (hth : ∀ v, PSs (X.hand v) (b0 :: suite) th)
    (hdb : (fx == ("__debug__" : Str)) = false := by decide) (hdn : (nx == ("__debug__" : Str)) = false := by decide) (hf : X.fn y = true ∨ X.env.scope.names.lookup y = some .local := by first | exact .inl rfl | exact .inr rfl | assumption)
    (he : starEach (e :: es) X.env = (false, eval e X.env) :: starEach es X.env := by rfl) (hpl : (backTo cpos (starEach es X.env)).any (·.1) = false := by rfl)
    (hsw : swapsWith (.Call (.Name fx p) (e :: es) [] cpos) (some (.Name y py)) apos.line X.env = pure false := by rfl) :
    PS X (.Try [.Assign [.Name y py] (.Call (.Name fx p) (e :: es) [] cpos) apos] [.ExceptHandler (some (.Name nx np)) none (b0 :: suite) hpos] [] [] tpos) (tTry sp i ta th) := by
  obtain ⟨f, fd, F, hm, hk, hb⟩ := O.ex
  exact ps_try F hr hst hfr hN hi hx hg hm hk hb ha xc hgn hmn hth hdb hdn hf he hpl hsw
theorem ixN_nat {n k : Nat} (h : k < n) : ixN n (k : Int) = some k := by
  unfold ixN
  rw [if_pos (by omega), if_pos (by omega), Int.toNat_natCast]
theorem on_iff {g : Sn42.Grid} {x y : Int} (h : Sn42.onGrid g x y = true) : ∃ xn yn : Nat, x = (xn : Int) ∧ y = (yn : Int) ∧ xn < g.cols ∧ yn < g.rows := by
  unfold Sn42.onGrid at h
  simp only [Bool.and_eq_true, decide_eq_true_eq] at h
  obtain ⟨h1, h2, h3, h4⟩ := h
  exact ⟨x.toNat, y.toNat, by omega, by omega, by omega, by omega⟩
theorem place_eq {g : Sn42.Grid} (xn yn : Nat) : ((yn : Int) * (g.cols : Int) + (xn : Int)) = ((Sn42.cellAt g xn yn : Nat) : Int) := by
  unfold Sn42.cellAt
  rw [Int.natCast_add, Int.natCast_mul]
theorem in01 (on : Int) : inV (V.int on) [V.int 0, V.int 1] = Sn42.within on 0 1 := by
  show (((0 : Int) == on) || (((1 : Int) == on) || false)) = (decide ((0 : Int) ≤ on) && decide (on ≤ (1 : Int)))
  by_cases h0 : on = 0
  · subst h0; decide
  · by_cases h1 : on = 1
    · subst h1; decide
    · have e0 : ((0 : Int) == on) = false := by simpa using fun z => h0 z.symm
      have e1 : ((1 : Int) == on) = false := by simpa using fun z => h1 z.symm
      rw [e0, e1]
      by_cases hl : 0 ≤ on
      · rw [decide_eq_false (show ¬ on ≤ 1 by omega), Bool.and_false]
        rfl
      · rw [decide_eq_false hl]
        rfl
theorem ne_ws {H : Hp} {wa sa : Addr} {ws : List Bool} {ts : List Addr} (hw : H wa = some (.lst (ws.map wI))) (hs : H sa = some (.lst (ts.map V.ref))) (hn : 0 < ws.length) : wa ≠ sa := by
  refine ne_of hw hs fun z => ?_
  injection z with z
  match ws, hn, z with
  | b :: ws', _, z =>
    match ts, z with
    | [], z => cases z
    | t :: ts', z =>
      injection z with z1 _
      cases z1
theorem Cells.set {H : Hp} {ts : List Addr} {sh : List (List Nat)} {t : Addr} {f : List Nat} (c : Cells H ts sh) (j : Nat) (h : H t = some (.tup (f.map nI))) : Cells H (ts.set j t) (sh.set j f) := by
  refine ⟨by rw [List.length_set, List.length_set, c.len], fun i t' f' h1 h2 => ?_⟩
  by_cases hj : j = i
  · subst hj
    have hi : j < ts.length := by
      have := (List.getElem?_eq_some_iff.mp h1).1
      rwa [List.length_set] at this
    rw [List.getElem?_set_self hi] at h1
    rw [List.getElem?_set_self (by rw [← c.len]; exact hi)] at h2
    cases h1
    cases h2
    exact h
  · rw [List.getElem?_set_ne hj] at h1 h2
    exact c.at_ i t' f' h1 h2
noncomputable def ansV (a : Sn42.Ans) : List V := V.int a.value :: a.out.map nI
section
variable {P : Program} {w : World} {K : PySem.W.Frag} {mg : Str → Option Value} {base : Heap} {C Cg : Addr}
noncomputable def spWall (Cg : Addr) : Sp := fun vs H Q _ => ∃ (p wa sa : Addr) (g : Sn42.Grid) (x y on : Int), vs = [.ref p, .int x, .int y, .int on] ∧ GridAt Cg H p wa sa (some g) ∧
  ∀ (H' : Hp), Kept H H' p wa sa wa sa → GridAt Cg H' p wa sa (Sn42.step (some g) (.wall x y on)).1 → Q (.int (Sn42.step (some g) (.wall x y on)).2.value) H'
theorem scWall : FnScope ["self", "x", "y", "on"] ["self", "x", "y", "on"] (defScope mWall) := ⟨rfl, rfl, rfl, by decide +kernel, rfl, by decide +kernel, by decide +kernel⟩
theorem wall_eq (g : Sn42.Grid) (x y on : Int) : Sn42.step (some g) (.wall x y on) = if Sn42.onGrid g x y = false ∨ Sn42.within on 0 1 = false then (some g, ⟨-2, []⟩) else (some { g with walls := g.walls.set (Sn42.cellAt g x.toNat y.toNat) (on == 1) }, ⟨0, []⟩) := rfl
theorem ok_wall {f : Addr} {fd : FuncData} (F : Fun K "wall" "Grid.wall" mWall f fd) (N : Nums mg) (T : GCls K Cg) (oh : MOk P w K mg base C Cg 1 "has_cell" ["self", "x", "y"] (spHas Cg)) (op : MOk P w K mg base C Cg 1 "place" ["self", "x", "y"] (spPlace Cg)) :
    FnOk P w K mg base (CXN C P w) 2 f fd ["self", "x", "y", "on"] (spWall Cg) := by
  refine F.okX scWall (fun vs H Q E h => ?_) (fun cdv A outer s H vs Q E hr h => ?_)
  · obtain ⟨p, wa, sa, g, x, y, on, rfl, _⟩ := h
    rfl
  · obtain ⟨p, wa, sa, g, x, y, on, rfl, hG, k⟩ := h
    refine ⟨_, pss_cons (ps_if (pw_or (pt_not (pt_val (pmeth oh T.cl (pv 0) hr (pass_cx fun _ z => z) (pa_n (pv 1) (pa_n (pv 2) pa_nil))))) (pw_or1 (pt_cmpR op_notIn_seq (pv 3) (pe_tup (pa_cons pe_int (pa_cons pe_int pa_nil))) (by with_unfolding_all rfl)))).pt (pss_one (ps_ret (pgl N.oor))) pss_nil)
      (pss_cons (ps_asg (pv 3) (pg_sub (pe_fld (pv 0) rfl) (pmeth op T.cl (pv 0) hr (pass_cx fun _ z => z) (pa_n (pv 1) (pa_n (pv 2) pa_nil))) set_list))
      (pss_one (ps_ret (pgl N.done)))), ?_⟩
    have es := wall_eq g x y on
    have hG0 := hG
    obtain ⟨⟨dx, hp⟩, W, hw, ts, hs, hc⟩ := hG
    refine ⟨_, rfl, p, dx, _, rfl, hp, rfl, _, rfl, _, rfl, p, dx, _, _, _, _, _, x, y, rfl, hp, _, rfl, ?_⟩
    show if (!Sn42.onGrid g x y) = true then _ else _
    refine ite2 (fun h1 => iteT ?_) (fun h1 => ?_)
    · have h1 : Sn42.onGrid g x y = false := by simpa using h1
      rw [es, if_pos (.inl h1)] at k
      exact k H Kept.refl hG0
    have h1 : Sn42.onGrid g x y = true := by simpa using h1
    refine ⟨_, rfl, by show 2 ≤ sizeLine; decide, fun t ht => ?_⟩
    refine ⟨t, _, rfl, .inr (SqT.of upd_same), rfl, rfl, _, rfl, ?_⟩
    have s1 : Same H (upd H t (.tup [.int 0, .int 1])) := same_new ht
    show if (!inV (V.int on) [V.int 0, V.int 1]) = true then _ else _
    rw [in01]
    refine ite2 (fun h2 => ?_) (fun h2 => ?_)
    · have h2 : Sn42.within on 0 1 = false := by simpa using h2
      rw [es, if_pos (.inr h2)] at k
      exact k _ (Kept.same s1) (GridAt.same s1 hG0)
    have h2 : Sn42.within on 0 1 = true := by simpa using h2
    rw [es, if_neg (by rw [h1, h2]; decide)] at k
    obtain ⟨xn, yn, rfl, rfl, hx, hy⟩ := on_iff h1
    rw [Int.toNat_natCast, Int.toNat_natCast] at k
    have hon : wI (on == 1) = V.int on := by
      have h2 : (decide ((0 : Int) ≤ on) && decide (on ≤ (1 : Int))) = true := h2
      simp only [Bool.and_eq_true, decide_eq_true_eq] at h2
      by_cases z : on = 1
      · subst z; rfl
      · have : on = 0 := by omega
        subst this; rfl
    have hcl : Sn42.cellAt g xn yn < g.walls.length := by rw [W.wl]; exact cell_lt hx hy
    have r2 := W.r2
    generalize hj : Sn42.cellAt g xn yn = j at k hcl
    have hp1 := s1 _ _ hp
    have hw1 := s1 _ _ hw
    have hs1 := s1 _ _ hs
    have hc1 := hc.same s1
    generalize upd H t (.tup [.int 0, .int 1]) = H1 at s1 hp1 hw1 hs1 hc1
    refine ⟨_, rfl, _, rfl, p, Cg, dx, _, _, rfl, hp1, T.cl, T.nW, l_w, _, rfl, p, dx, _, rfl, hp1, rfl, _, rfl, _, rfl, p, dx, _, _, _, _, _, (xn : Int), (yn : Int), rfl, hp1, ⟨by omega, by omega⟩, wa, _, _, j, rfl, rfl, hw1, ?_, ?_⟩
    · rw [place_eq, hj, List.length_map]
      exact ixN_nat hcl
    have hwl : 0 < g.walls.length := by omega
    have nws := ne_ws hw1 hs1 hwl
    have npw : p ≠ wa := ne_of hp1 hw1 (by intro z; cases z)
    have frw : ∀ b u, b ≠ wa → H1 b = some u → upd H1 wa (.lst ((g.walls.map wI).set j (.int on))) b = some u := fun b u hb e => by rw [upd_ne hb]; exact e
    refine k _ ⟨fun b u e _ hb _ => frw b u hb (s1 _ _ e), .inl rfl, .inl rfl⟩ ⟨⟨dx, frw _ _ npw hp1⟩, ⟨W.c1, W.c2, W.r1, W.r2, W.om, ?_, W.sl, W.s9⟩, ?_, ts, frw _ _ nws.symm hs1, ⟨hc1.len, fun i u q a b => ?_⟩⟩
    · show (g.walls.set j (on == 1)).length = _
      rw [List.length_set]
      exact W.wl
    · show upd H1 wa _ wa = some (.lst ((g.walls.set j (on == 1)).map wI))
      rw [upd_same, List.map_set, hon]
    · have z := hc1.at_ i u q a b
      exact frw _ _ (ne_of z hw1 (by intro z; cases z)) z
noncomputable def spSet (Cg : Addr) : Sp := fun vs H Q _ => ∃ (p wa sa : Addr) (g : Sn42.Grid) (x y : Int) (r u v : Nat), vs = [.ref p, .int x, .int y, nI r, nI u, nI v] ∧ D64 r ∧ D64 u ∧ D64 v ∧ GridAt Cg H p wa sa (some g) ∧
  ∀ (H' : Hp), Kept H H' p wa sa wa sa → GridAt Cg H' p wa sa (Sn42.step (some g) (.set x y r u v)).1 → Q (.int (Sn42.step (some g) (.set x y r u v)).2.value) H'
theorem scSet : FnScope ["self", "x", "y", "rho", "ux", "uy", "shares"] ["self", "x", "y", "rho", "ux", "uy"] (defScope mSet) := ⟨rfl, rfl, rfl, by decide +kernel, rfl, by decide +kernel, by decide +kernel⟩
theorem set_eq (g : Sn42.Grid) (x y : Int) (r u v : Nat) : Sn42.step (some g) (.set x y r u v) = if Sn42.onGrid g x y = false then (some g, ⟨-2, []⟩) else if Sn42.finite r = false ∨ Sn42.finite u = false ∨ Sn42.finite v = false then (some g, ⟨-3, []⟩) else (match restN r u v with
    | none => (some g, ⟨-4, []⟩)
    | some f => (some (g.put (Sn42.cellAt g x.toNat y.toNat) f), ⟨0, []⟩)) := by
  rw [← settled_eq]
  rfl
theorem ok_set {f : Addr} {fd : FuncData} (F : Fun K "set_flow" "Grid.set_flow" mSet f fd) (O : Ops P w K mg base C) (N : Nums mg) (T : GCls K Cg) (xc : XCls K C) (hC : mg "NotFinite" = some (.ref C)) (ore : Ok P w K mg base C 5 "shares_at_rest" ["rho", "ux", "uy"] (spRest C))
    (oh : MOk P w K mg base C Cg 1 "has_cell" ["self", "x", "y"] (spHas Cg)) (op : MOk P w K mg base C Cg 1 "place" ["self", "x", "y"] (spPlace Cg)) :
    FnOk P w K mg base (CXN C P w) 6 f fd ["self", "x", "y", "rho", "ux", "uy"] (spSet Cg) := by
  refine F.okX scSet (fun vs H Q E h => ?_) (fun cdv A outer s H vs Q E hr h => ?_)
  · obtain ⟨p, wa, sa, g, x, y, r, u, v, rfl, _⟩ := h
    rfl
  · obtain ⟨p, wa, sa, g, x, y, r, u, v, rfl, hr64, hu64, hv64, hG, k⟩ := h
    have hr1 : Room 1 _ := hr.mono (by decide)
    have hr3 : Room 3 _ := hr.mono (by decide)
    refine ⟨_, pss_cons (ps_if (pt_not (pt_val (pmeth oh T.cl (pv 0) hr1 (pass_cx fun _ z => z) (pa_n (pv 1) (pa_n (pv 2) pa_nil))))) (pss_one (ps_ret (pgl N.oor))) pss_nil)
      (pss_cons (ps_if (pw_or (pt_not (pt_val (pcall O.fin hr3 (pass_cx fun _ z => z) (pa_n (pv 3) pa_nil)))) (pw_or (pt_not (pt_val (pcall O.fin hr3 (pass_cx fun _ z => z) (pa_n (pv 4) pa_nil)))) (pw_or1 (pt_not (pt_val (pcall O.fin hr3 (pass_cx fun _ z => z) (pa_n (pv 5) pa_nil))))))).pt (pss_one (ps_ret (pgl N.nf))) pss_nil)
      (pss_cons (ptry (i := 6) ore hr rfl rfl scSet.nd rfl (Or.inl rfl) rfl (pa_n (pv 3) (pa_n (pv 4) (pa_n (pv 5) pa_nil))) xc rfl hC (fun _ => pss_one (ps_ret (pgl N.fail))))
      (pss_cons (ps_asg (pv 6) (pg_sub (pe_fld (pv 0) rfl) (pmeth op T.cl (pv 0) hr1 (pass_cx fun _ z => z) (pa_n (pv 1) (pa_n (pv 2) pa_nil))) set_list))
      (pss_one (ps_ret (pgl N.done)))))), ?_⟩
    have es := set_eq g x y r u v
    have hG0 := hG
    obtain ⟨⟨dx, hp⟩, W, hw, ts, hs, hc⟩ := hG
    refine ⟨_, rfl, p, dx, _, rfl, hp, rfl, _, rfl, _, rfl, p, dx, _, _, _, _, _, x, y, rfl, hp, _, rfl, ?_⟩
    show if (!Sn42.onGrid g x y) = true then _ else _
    refine ite2 (fun h1 => ?_) (fun h1 => ?_)
    · have h1 : Sn42.onGrid g x y = false := by simpa using h1
      rw [es, if_pos h1] at k
      exact k H Kept.refl hG0
    have h1 : Sn42.onGrid g x y = true := by simpa using h1
    rw [es, if_neg (by rw [h1]; decide)] at k
    have nfin : (Sn42.finite r = false ∨ Sn42.finite u = false ∨ Sn42.finite v = false) → Q (.int (-3)) H := fun hh => by
      rw [if_pos hh] at k
      exact k H Kept.refl hG0
    refine ⟨_, rfl, r, rfl, _, rfl, ?_⟩
    refine ite2 (fun h2 => iteT (nfin (.inl (by simpa using h2)))) (fun h2 => ?_)
    refine ⟨_, rfl, u, rfl, _, rfl, ?_⟩
    refine ite2 (fun h3 => iteT (nfin (.inr (.inl (by simpa using h3))))) (fun h3 => ?_)
    refine ⟨_, rfl, v, rfl, _, rfl, ?_⟩
    refine ite2 (fun h4 => nfin (.inr (.inr (by simpa using h4)))) (fun h4 => ?_)
    have h2 : Sn42.finite r = true := by simpa using h2
    have h3 : Sn42.finite u = true := by simpa using h3
    have h4 : Sn42.finite v = true := by simpa using h4
    rw [if_neg (by rw [h2, h3, h4]; decide)] at k
    clear nfin
    refine ⟨_, rfl, _, rfl, _, rfl, r, u, v, rfl, hr64, hu64, hv64, ?_⟩
    cases hre : restN r u v with
    | none =>
      rw [hre] at k
      exact fun H1 s1 => k H1 (Kept.same s1) (GridAt.same s1 hG0)
    | some l =>
      rw [hre] at k
      have hll := restN_len hre
      have hl64 := restN_lt hre
      intro t H1 s1 ht
      obtain ⟨xn, yn, rfl, rfl, hx, hy⟩ := on_iff h1
      rw [Int.toNat_natCast, Int.toNat_natCast] at k
      have hcl : Sn42.cellAt g xn yn < ts.length := by rw [hc.len, W.sl]; exact cell_lt hx hy
      have r2 := W.r2
      generalize hj : Sn42.cellAt g xn yn = j at k hcl
      have hp1 := s1 _ _ hp
      have hw1 := s1 _ _ hw
      have hs1 := s1 _ _ hs
      have hc1 := hc.same s1
      refine ⟨_, rfl, _, rfl, p, Cg, dx, _, _, rfl, hp1, T.cl, T.nS, l_s, _, rfl, p, dx, _, rfl, hp1, rfl, _, rfl, _, rfl, p, dx, _, _, _, _, _, (xn : Int), (yn : Int), rfl, hp1, ⟨by omega, by omega⟩, sa, _, _, j, rfl, rfl, hs1, ?_, ?_⟩
      · rw [place_eq, hj, List.length_map]
        exact ixN_nat hcl
      have hwl : 0 < g.walls.length := by rw [W.wl, ← W.sl, ← hc.len]; omega
      have nws := ne_ws hw1 hs1 hwl
      have nps : p ≠ sa := ne_of hp1 hs1 (by intro z; cases z)
      have frw : ∀ b z, b ≠ sa → H1 b = some z → upd H1 sa (.lst ((ts.map V.ref).set j (.ref t))) b = some z := fun b z hb e => by rw [upd_ne hb]; exact e
      have nt : ∀ {q : Addr} {z : List V}, H1 q = some (.tup z) → q ≠ sa := fun z => ne_of z hs1 (by intro z; cases z)
      refine k _ ⟨fun b z e _ _ hb => frw b z hb (s1 _ _ e), .inl rfl, .inl rfl⟩ ⟨⟨dx, frw _ _ nps hp1⟩, ⟨W.c1, W.c2, W.r1, W.r2, W.om, W.wl, ?_, fun q hq => ?_⟩, frw _ _ nws hw1, ts.set j t, ?_, Cells.set ⟨hc1.len, fun i u q a b => ?_⟩ j (frw _ _ (nt ht) ht)⟩
      · show (g.shares.set j l).length = _
        rw [List.length_set]
        exact W.sl
      · have hq : q ∈ g.shares.set j l := hq
        rcases List.mem_or_eq_of_mem_set hq with hq | rfl
        · exact W.s9 q hq
        · exact ⟨hll, hl64⟩
      · rw [upd_same, List.map_set]
      · have z := hc1.at_ i u q a b
        exact frw _ _ (nt z) z
noncomputable def spStep (Cg : Addr) : Sp := fun vs H Q _ => ∃ (p wa sa : Addr) (g : Sn42.Grid) (n : Int), vs = [.ref p, .int n] ∧ GridAt Cg H p wa sa (some g) ∧
  ∀ (sa' : Addr) (H' : Hp), Kept H H' p wa sa wa sa' → GridAt Cg H' p wa sa' (Sn42.step (some g) (.step n)).1 → Q (.int (Sn42.step (some g) (.step n)).2.value) H'
theorem scStep : FnScope ["self", "count", "sources", "shares"] ["self", "count"] (defScope mStep) := ⟨rfl, rfl, rfl, by decide +kernel, rfl, by decide +kernel, by decide +kernel⟩
theorem step_eq (g : Sn42.Grid) (n : Int) : Sn42.step (some g) (.step n) = if Sn42.within n 0 1000000 = false then (some g, ⟨-2, []⟩) else (match Sn42.steps n.toNat g with
    | none => (some g, ⟨-4, []⟩)
    | some h => (some h, ⟨0, []⟩)) := rfl
theorem ok_step {f : Addr} {fd : FuncData} (F : Fun K "step" "Grid.step" mStep f fd) (N : Nums mg) (T : GCls K Cg) (xc : XCls K C) (hC : mg "NotFinite" = some (.ref C)) (oa : Ok P w K mg base C 2 "all_sources" ["cols", "rows", "walls"] spAS) (ob : Ok P w K mg base C 8 "behind_steps" ["cells", "walls", "omega", "sources", "count"] (spBS C)) :
    FnOk P w K mg base (CXN C P w) 9 f fd ["self", "count"] (spStep Cg) := by
  refine F.okX scStep (fun vs H Q E h => ?_) (fun cdv A outer s H vs Q E hr h => ?_)
  · obtain ⟨p, wa, sa, g, n, rfl, _⟩ := h
    rfl
  · obtain ⟨p, wa, sa, g, n, rfl, hG, k⟩ := h
    have hr2 : Room 2 _ := hr.mono (by decide)
    refine ⟨_, pss_cons (ps_if (pt_not (pt_chain op_le op_le pe_int (pv 1) (pgl N.steps))) (pss_one (ps_ret (pgl N.oor))) pss_nil)
      (pss_cons (ps_set (i := 2) scStep.nd rfl (Or.inl rfl) (pcall oa hr2 (pass_cx fun _ z => z) (pa_cons (pe_fld (pv 0) rfl) (pa_cons (pe_fld (pv 0) rfl) (pa_cons (pe_fld (pv 0) rfl) pa_nil)))))
      (pss_cons (ptry (i := 3) ob hr rfl rfl scStep.nd rfl (Or.inl rfl) rfl (pa_cons (pe_fld (pv 0) rfl) (pa_cons (pe_fld (pv 0) rfl) (pa_cons (pe_fld (pv 0) rfl) (pa_n (pv 2) (pa_n (pv 1) pa_nil))))) xc rfl hC (fun _ => pss_one (ps_ret (pgl N.fail))))
      (pss_cons (ps_fld (pv 0) (pv 3) rfl)
      (pss_one (ps_ret (pgl N.done)))))), ?_⟩
    have es := step_eq g n
    have hG0 := hG
    obtain ⟨⟨dx, hp⟩, W, hw, ts, hs, hc⟩ := hG
    have ew : Sn42.within n 0 1000000 = (decide ((0 : Int) ≤ n) && decide (n ≤ (1000000 : Int))) := rfl
    have oor : Sn42.within n 0 1000000 = false → Q (.int (-2)) H := fun hh => by
      rw [es, if_pos hh] at k
      exact k sa H Kept.refl hG0
    refine ⟨_, rfl, _, _, rfl, rfl, _, rfl, ?_⟩
    show if decide ((0 : Int) ≤ n) = true then _ else _
    refine ite2 (fun h1 => ?_) (fun h1 => ?_)
    rotate_left
    · exact ⟨_, rfl, iteT (oor (by rw [ew, show decide ((0 : Int) ≤ n) = false by simpa using h1]; rfl))⟩
    refine ⟨_, _, rfl, rfl, _, rfl, ?_⟩
    show if (!decide (n ≤ (1000000 : Int))) = true then _ else _
    refine ite2 (fun h2 => oor (by rw [ew, h1, show decide (n ≤ (1000000 : Int)) = false by simpa using h2]; rfl)) (fun h2 => ?_)
    have h2 : decide (n ≤ (1000000 : Int)) = true := by simpa using h2
    rw [es, if_neg (by rw [ew, h1, h2]; decide)] at k
    clear oor
    obtain ⟨m, rfl⟩ : ∃ m : Nat, n = (m : Int) := ⟨n.toNat, by have := of_decide_eq_true h1; omega⟩
    rw [Int.toNat_natCast, steps_eq m W] at k
    refine ⟨_, rfl, p, Cg, dx, _, _, rfl, hp, T.cl, T.nC, l_cols, _, rfl, p, Cg, dx, _, _, rfl, hp, T.cl, T.nR, l_rows, _, rfl, p, Cg, dx, _, _, rfl, hp, T.cl, T.nW, l_w, g, wa, rfl, W, hw, fun so rs H1 s1 hson hso hrs => ?_⟩
    have hp1 := s1 _ _ hp
    have hw1 := s1 _ _ hw
    have hs1 := s1 _ _ hs
    have hc1 := hc.same s1
    refine ⟨_, rfl, p, Cg, dx, _, _, rfl, hp1, T.cl, T.nS, l_s, _, rfl, p, Cg, dx, _, _, rfl, hp1, T.cl, T.nW, l_w, _, rfl, p, Cg, dx, _, _, rfl, hp1, T.cl, T.nO, l_om, _, rfl, _, rfl, g, sa, wa, so, ts, rs, m, rfl, W, hs1, hc1, hw1, hso, hrs, ?_⟩
    cases hit : itN (stepN g.omega g.walls (srcsN g)) m g.shares with
    | none =>
      rw [hit] at k
      exact fun H2 s2 => k sa H2 (Kept.same (s1.trans s2)) (GridAt.same (s1.trans s2) hG0)
    | some sh =>
      rw [hit] at k
      have Wn : WF { g with shares := sh } := it_wf m W hit
      intro e us H2 s2 hen he hus
      have s12 := s1.trans s2
      have hp2 := s2 _ _ hp1
      have hw2 := s2 _ _ hw1
      refine ⟨_, rfl, _, rfl, p, Cg, dx, _, rfl, hp2, T.cl, T.nS, (by show 5 < 1000; decide), ?_⟩
      show Q (.int 0) (upd H2 p (.ins Cg dx (putF "shares" (.ref e) (flds (nI g.cols) (nI g.rows) (nI g.omega) wa sa))))
      rw [p_s]
      have frw : ∀ b z, b ≠ p → H2 b = some z → upd H2 p (.ins Cg dx (flds (nI g.cols) (nI g.rows) (nI g.omega) wa e)) b = some z := fun b z hb q => by rw [upd_ne hb]; exact q
      have nlp : ∀ {q : Addr} {z : List V}, H2 q = some (.lst z) → q ≠ p := fun z => ne_of z hp2 (by intro z; cases z)
      have ntp : ∀ {q : Addr} {z : List V}, H2 q = some (.tup z) → q ≠ p := fun z => ne_of z hp2 (by intro z; cases z)
      refine k e _ ⟨fun b z q hb _ _ => frw b z hb (s12 _ _ q), .inl rfl, ?_⟩ ⟨⟨dx, upd_same⟩, Wn, frw _ _ (nlp hw2) hw2, us, frw _ _ (nlp he) he, ⟨hus.len, fun i u q a b => ?_⟩⟩
      · rcases hen with z | z
        · exact .inl z
        · exact .inr (s1.free z)
      · have z := hus.at_ i u q a b
        exact frw _ _ (ntp z) z
noncomputable def spGet (Cg : Addr) : Sp := fun vs H Q _ => ∃ (p wa sa : Addr) (g : Sn42.Grid) (x y : Int), vs = [.ref p, .int x, .int y] ∧ GridAt Cg H p wa sa (some g) ∧
  ∀ (l : Addr) (H' : Hp), Same H H' → H l = none → H' l = some (.lst (ansV (Sn42.step (some g) (.get x y)).2)) → Q (.ref l) H'
theorem scGet : FnScope ["self", "x", "y", "flow"] ["self", "x", "y"] (defScope mGet) := ⟨rfl, rfl, rfl, by decide +kernel, rfl, by decide +kernel, by decide +kernel⟩
theorem get_eq (g : Sn42.Grid) (x y : Int) : (Sn42.step (some g) (.get x y)).2 = if Sn42.onGrid g x y = false then ⟨-2, []⟩ else (match Sn42.flow (g.shares.getD (Sn42.cellAt g x.toNat y.toNat) []) with
    | none => ⟨-4, []⟩
    | some w => ⟨0, [w.rho, w.ux, w.uy]⟩) := by
  show (if Sn42.onGrid g x y = false then _ else _ : Sn42.St × Sn42.Ans).2 = _
  split
  · rfl
  · cases Sn42.flow (g.shares.getD (Sn42.cellAt g x.toNat y.toNat) []) <;> rfl
theorem ok_get {f : Addr} {fd : FuncData} (F : Fun K "get_flow" "Grid.get_flow" mGet f fd) (N : Nums mg) (T : GCls K Cg) (xc : XCls K C) (hC : mg "NotFinite" = some (.ref C)) (ofl : Ok P w K mg base C 5 "flow_of" ["shares"] (spFlow K C))
    (oh : MOk P w K mg base C Cg 1 "has_cell" ["self", "x", "y"] (spHas Cg)) (op : MOk P w K mg base C Cg 1 "place" ["self", "x", "y"] (spPlace Cg)) :
    FnOk P w K mg base (CXN C P w) 6 f fd ["self", "x", "y"] (spGet Cg) := by
  refine F.okX scGet (fun vs H Q E h => ?_) (fun cdv A outer s H vs Q E hr h => ?_)
  · obtain ⟨p, wa, sa, g, x, y, rfl, _⟩ := h
    rfl
  · obtain ⟨p, wa, sa, g, x, y, rfl, hG, k⟩ := h
    have hr1 : Room 1 _ := hr.mono (by decide)
    refine ⟨_, pss_cons (ps_if (pt_not (pt_val (pmeth oh T.cl (pv 0) hr1 (pass_cx fun _ z => z) (pa_n (pv 1) (pa_n (pv 2) pa_nil))))) (pss_one (ps_ret (pe_lst (pa_n (pgl N.oor) pa_nil)))) pss_nil)
      (pss_cons (ptry (i := 3) ofl hr rfl rfl scGet.nd rfl (Or.inl rfl) rfl (pa_cons (pe_ix ix_list (pe_fld (pv 0) rfl) (pmeth op T.cl (pv 0) hr1 pass_no (pa_n (pv 1) (pa_n (pv 2) pa_nil))) (fun _ _ => rfl)) pa_nil) xc rfl hC (fun _ => pss_one (ps_ret (pe_lst (pa_n (pgl N.fail) pa_nil)))))
      (pss_one (ps_ret (pe_lst (pa_n (pgl N.done) (pa_cons (pe_ix ix_tup (pv 3) pe_int (fun _ _ => rfl)) (pa_cons (pe_ix ix_tup (pv 3) pe_int (fun _ _ => rfl)) (pa_cons (pe_ix ix_tup (pv 3) pe_int (fun _ _ => rfl)) pa_nil)))))))), ?_⟩
    have es := get_eq g x y
    obtain ⟨⟨dx, hp⟩, W, hw, ts, hs, hc⟩ := hG
    refine ⟨_, rfl, p, dx, _, rfl, hp, rfl, _, rfl, _, rfl, p, dx, _, _, _, _, _, x, y, rfl, hp, _, rfl, ?_⟩
    show if (!Sn42.onGrid g x y) = true then _ else _
    refine ite2 (fun h1 => ?_) (fun h1 => ?_)
    · have h1 : Sn42.onGrid g x y = false := by simpa using h1
      rw [es, if_pos h1] at k
      exact ⟨by show 1 ≤ sizeLine; decide, fun l hl => k l _ (same_new hl) hl upd_same⟩
    have h1 : Sn42.onGrid g x y = true := by simpa using h1
    rw [es, if_neg (by rw [h1]; decide)] at k
    obtain ⟨xn, yn, rfl, rfl, hx, hy⟩ := on_iff h1
    rw [Int.toNat_natCast, Int.toNat_natCast] at k
    have hcl : Sn42.cellAt g xn yn < g.shares.length := by rw [W.sl]; exact cell_lt hx hy
    have r2 := W.r2
    have hpl := place_eq (g := g) xn yn
    generalize Sn42.cellAt g xn yn = j at k hcl hpl
    obtain ⟨t, hjt⟩ : ∃ t, ts[j]? = some t := ⟨_, List.getElem?_eq_getElem (by rw [hc.len]; exact hcl)⟩
    obtain ⟨f, hf, hft⟩ := hc.get hjt
    have hfm := W.s9 f (List.mem_of_getElem? hf)
    have e0 : g.shares.getD j [] = f := by rw [List.getD_eq_getElem?_getD, hf]; rfl
    rw [e0, flow_eq f hfm.1] at k
    refine ⟨_, rfl, p, Cg, dx, _, _, rfl, hp, T.cl, T.nS, l_s, _, rfl, p, dx, _, rfl, hp, rfl, _, rfl, _, rfl, p, dx, _, _, _, _, _, (xn : Int), (yn : Int), rfl, hp, ⟨by omega, by omega⟩, sa, _, _, _, rfl, rfl, SqL.of hs, at_of hpl (map_get hjt), t, f, rfl, SqT.of hft, ⟨hfm.1, hfm.2⟩, ?_⟩
    cases hfl : flowN f with
    | none =>
      rw [hfl] at k
      exact fun H1 s1 => ⟨by show 1 ≤ sizeLine; decide, fun l hl => k l _ (same_upd s1 (s1.free hl)) (s1.free hl) upd_same⟩
    | some v =>
      rw [hfl] at k
      intro t1 H1 s1 ht1
      refine ⟨_, rfl, t1, _, _, _, rfl, rfl, SqT.of ht1, atI_nat (j := 0) rfl, _, rfl, t1, _, _, _, rfl, rfl, SqT.of ht1, atI_nat (j := 1) rfl, _, rfl, t1, _, _, _, rfl, rfl, SqT.of ht1, atI_nat (j := 2) rfl, by show 4 ≤ sizeLine; decide, fun l hl => ?_⟩
      exact k l _ (same_upd s1 (s1.free hl)) (s1.free hl) upd_same
noncomputable def spMs (Cg : Addr) : Sp := fun vs H Q _ => ∃ (p wa sa : Addr) (g : Sn42.Grid), vs = [.ref p] ∧ GridAt Cg H p wa sa (some g) ∧
  ∀ (l : Addr) (H' : Hp), Same H H' → H l = none → H' l = some (.lst (ansV (Sn42.step (some g) .mass).2)) → Q (.ref l) H'
theorem scMs : FnScope ["self", "total"] ["self"] (defScope mMass) := ⟨rfl, rfl, rfl, by decide +kernel, rfl, by decide +kernel, by decide +kernel⟩
theorem ms_eq {g : Sn42.Grid} (W : WF g) : (Sn42.step (some g) .mass).2 = (match massN 0 (g.shares.zip g.walls) with
    | none => ⟨-4, []⟩
    | some m => ⟨0, [m]⟩) := by
  rw [← mass_eq W]
  show (match Sn42.mass g with
    | none => (some g, ⟨-4, []⟩)
    | some m => (some g, ⟨0, [m]⟩) : Sn42.St × Sn42.Ans).2 = _
  cases Sn42.mass g <;> rfl
theorem ok_ms {f : Addr} {fd : FuncData} (F : Fun K "mass" "Grid.mass" mMass f fd) (N : Nums mg) (T : GCls K Cg) (xc : XCls K C) (hC : mg "NotFinite" = some (.ref C)) (om : Ok P w K mg base C 4 "mass_of" ["cells", "walls"] (spMass C)) :
    FnOk P w K mg base (CXN C P w) 5 f fd ["self"] (spMs Cg) := by
  refine F.okX scMs (fun vs H Q E h => ?_) (fun cdv A outer s H vs Q E hr h => ?_)
  · obtain ⟨p, wa, sa, g, rfl, _⟩ := h
    rfl
  · obtain ⟨p, wa, sa, g, rfl, hG, k⟩ := h
    refine ⟨_, pss_cons (ptry (i := 1) om hr rfl rfl scMs.nd rfl (Or.inl rfl) rfl (pa_cons (pe_fld (pv 0) rfl) (pa_cons (pe_fld (pv 0) rfl) pa_nil)) xc rfl hC (fun _ => pss_one (ps_ret (pe_lst (pa_n (pgl N.fail) pa_nil)))))
      (pss_one (ps_ret (pe_lst (pa_n (pgl N.done) (pa_n (pv 1) pa_nil))))), ?_⟩
    obtain ⟨⟨dx, hp⟩, W, hw, ts, hs, hc⟩ := hG
    rw [ms_eq W] at k
    refine ⟨_, rfl, p, Cg, dx, _, _, rfl, hp, T.cl, T.nS, l_s, _, rfl, p, Cg, dx, _, _, rfl, hp, T.cl, T.nW, l_w, sa, wa, ts, g.shares, g.walls, rfl, hs, hc, fun f hf => ⟨(W.s9 f hf).1, (W.s9 f hf).2⟩, hw, by rw [W.wl, W.sl], ?_⟩
    cases hm : massN 0 (g.shares.zip g.walls) with
    | none =>
      rw [hm] at k
      exact fun H1 s1 => ⟨by show 1 ≤ sizeLine; decide, fun l hl => k l _ (same_upd s1 (s1.free hl)) (s1.free hl) upd_same⟩
    | some m =>
      rw [hm] at k
      exact fun H1 s1 _ => ⟨_, rfl, by show 2 ≤ sizeLine; decide, fun l hl => k l _ (same_upd s1 (s1.free hl)) (s1.free hl) upd_same⟩
end
end Cf
namespace Cf
open PySem L2
theorem asked_cases {num : Int} {given : List Int} (h0 : 0 ≤ num) (h5 : num ≤ 5) (hl : given.length = countN num) (h : Sn42Neutral.asked1 [num :: given] = true) :
    (∃ a b c, num = 0 ∧ given = [a, b, c] ∧ 0 ≤ c ∧ c < 2 ^ 64) ∨ (∃ a b c, num = 1 ∧ given = [a, b, c]) ∨ (∃ a b c d e, num = 2 ∧ given = [a, b, c, d, e] ∧ (0 ≤ c ∧ c < 2 ^ 64) ∧ (0 ≤ d ∧ d < 2 ^ 64) ∧ (0 ≤ e ∧ e < 2 ^ 64)) ∨
    (∃ a, num = 3 ∧ given = [a]) ∨ (∃ a b, num = 4 ∧ given = [a, b]) ∨ (num = 5 ∧ given = []) := by
  have nat : ∀ {z : Int}, Sn42Neutral.natural z 64 = true → 0 ≤ z ∧ z < 2 ^ 64 := fun {z} q => by
    unfold Sn42Neutral.natural at q
    simpa only [Bool.and_eq_true, decide_eq_true_eq] using q
  rcases form_cases h0 h5 hl with ⟨a, b, c, rfl, rfl⟩ | ⟨a, b, c, rfl, rfl⟩ | ⟨a, b, c, d, e, rfl, rfl⟩ | ⟨a, rfl, rfl⟩ | ⟨a, b, rfl, rfl⟩ | ⟨rfl, rfl⟩
  · have h : (Sn42Neutral.whole32 a && (Sn42Neutral.whole32 b && Sn42Neutral.natural c 64)) = true := h
    rw [Bool.and_eq_true, Bool.and_eq_true] at h
    exact .inl ⟨a, b, c, rfl, rfl, nat h.2.2⟩
  · exact .inr (.inl ⟨a, b, c, rfl, rfl⟩)
  · have h : (Sn42Neutral.whole32 a && (Sn42Neutral.whole32 b && (Sn42Neutral.natural c 64 && (Sn42Neutral.natural d 64 && Sn42Neutral.natural e 64)))) = true := h
    rw [Bool.and_eq_true, Bool.and_eq_true, Bool.and_eq_true, Bool.and_eq_true] at h
    exact .inr (.inr (.inl ⟨a, b, c, d, e, rfl, rfl, nat h.2.2.1, nat h.2.2.2.1, nat h.2.2.2.2⟩))
  · exact .inr (.inr (.inr (.inl ⟨a, rfl, rfl⟩)))
  · exact .inr (.inr (.inr (.inr (.inl ⟨a, b, rfl, rfl⟩))))
  · exact .inr (.inr (.inr (.inr (.inr ⟨rfl, rfl⟩))))
theorem nstep {st : Sn42.St} {c : Sn42Neutral.Call} {x : Sn42.Call} (h : Sn42Neutral.callOf c = some x) : Sn42Neutral.step st c = ((Sn42.step st x).1, (Sn42.step st x).2.value :: Sn42Neutral.ints (Sn42.step st x).2.out) := by
  unfold Sn42Neutral.step
  rw [h]
theorem call_0 (a b c : Int) : Sn42Neutral.callOf [[0, a, b, c]] = some (.begin_ a b c.toNat) := rfl
theorem call_1 (a b c : Int) : Sn42Neutral.callOf [[1, a, b, c]] = some (.wall a b c) := rfl
theorem call_2 (a b c d e : Int) : Sn42Neutral.callOf [[2, a, b, c, d, e]] = some (.set a b c.toNat d.toNat e.toNat) := rfl
theorem call_3 (a : Int) : Sn42Neutral.callOf [[3, a]] = some (.step a) := rfl
theorem call_4 (a b : Int) : Sn42Neutral.callOf [[4, a, b]] = some (.get a b) := rfl
theorem call_5 : Sn42Neutral.callOf [[5]] = some .mass := rfl
theorem begin_out (st : Sn42.St) (c r : Int) (o : Nat) : (Sn42.step st (.begin_ c r o)).2.out = [] := by
  rw [begin_eq]
  split
  · rfl
  · split <;> rfl
theorem wall_out (g : Sn42.Grid) (x y on : Int) : (Sn42.step (some g) (.wall x y on)).2.out = [] := by
  rw [wall_eq]
  split <;> rfl
theorem set_out (g : Sn42.Grid) (x y : Int) (r u v : Nat) : (Sn42.step (some g) (.set x y r u v)).2.out = [] := by
  rw [set_eq]
  split
  · rfl
  · split
    · rfl
    · cases restN r u v <;> rfl
theorem step_out (g : Sn42.Grid) (n : Int) : (Sn42.step (some g) (.step n)).2.out = [] := by
  rw [step_eq]
  split
  · rfl
  · cases Sn42.steps n.toNat g <;> rfl
theorem get_st (g : Sn42.Grid) (x y : Int) : (Sn42.step (some g) (.get x y)).1 = some g := by
  show (if Sn42.onGrid g x y = false then _ else _ : Sn42.St × Sn42.Ans).1 = _
  split
  · rfl
  · cases Sn42.flow (g.shares.getD (Sn42.cellAt g x.toNat y.toNat) []) <;> rfl
theorem mass_st (g : Sn42.Grid) : (Sn42.step (some g) .mass).1 = some g := by
  show (match Sn42.mass g with
    | none => (some g, ⟨-4, []⟩)
    | some m => (some g, ⟨0, [m]⟩) : Sn42.St × Sn42.Ans).1 = _
  cases Sn42.mass g <;> rfl
theorem step_some (g : Sn42.Grid) (x : Sn42.Call) : (Sn42.step (some g) x).1 ≠ none := by
  cases x with
  | begin_ c r o =>
    rw [begin_eq]
    split
    · exact fun z => nomatch z
    · split <;> exact fun z => nomatch z
  | wall x y on =>
    rw [wall_eq]
    split <;> exact fun z => nomatch z
  | set x y r u v =>
    rw [set_eq]
    split
    · exact fun z => nomatch z
    · split
      · exact fun z => nomatch z
      · cases restN r u v <;> exact fun z => nomatch z
  | step n =>
    rw [step_eq]
    split
    · exact fun z => nomatch z
    · cases Sn42.steps n.toNat g <;> exact fun z => nomatch z
  | get x y => rw [get_st]; exact fun z => nomatch z
  | mass => rw [mass_st]; exact fun z => nomatch z
theorem next_some {st : Sn42.St} {num : Int} {given : List Int} (h0 : 0 ≤ num) (h5 : num ≤ 5) (hl : given.length = countN num) (ha : Sn42Neutral.asked1 [num :: given] = true) (h : st = none → num = 0 ∧ (Sn42Neutral.step none [num :: given]).2 = [0]) : (Sn42Neutral.step st [num :: given]).1 ≠ none := by
  cases st with
  | none =>
    obtain ⟨rfl, h⟩ := h rfl
    rcases asked_cases h0 h5 hl ha with ⟨a, b, c, _, rfl, _⟩ | ⟨_, _, _, z, _⟩ | ⟨_, _, _, _, _, z, _⟩ | ⟨_, z, _⟩ | ⟨_, _, z, _⟩ | ⟨z, _⟩
    · rw [nstep (call_0 a b c)] at h ⊢
      have h : (Sn42.step none (.begin_ a b c.toNat)).2.value :: _ = [0] := h
      injection h with h _
      show (Sn42.step none (.begin_ a b c.toNat)).1 ≠ none
      rw [begin_eq] at h ⊢
      split at h
      · have h : (-2 : Int) = 0 := h
        omega
      · rename_i h1
        rw [if_neg h1]
        split at h
        · have h : (-3 : Int) = 0 := h
          omega
        · rename_i h2
          rw [if_neg h2]
          exact fun z => nomatch z
    all_goals cases z
  | some g =>
    rcases asked_cases h0 h5 hl ha with ⟨a, b, c, rfl, rfl, _⟩ | ⟨a, b, c, rfl, rfl⟩ | ⟨a, b, c, d, e, rfl, rfl, _⟩ | ⟨a, rfl, rfl⟩ | ⟨a, b, rfl, rfl⟩ | ⟨rfl, rfl⟩
    · rw [nstep (call_0 a b c)]; exact step_some g _
    · rw [nstep (call_1 a b c)]; exact step_some g _
    · rw [nstep (call_2 a b c d e)]; exact step_some g _
    · rw [nstep (call_3 a)]; exact step_some g _
    · rw [nstep (call_4 a b)]; exact step_some g _
    · rw [nstep call_5]; exact step_some g _
structure Codes (mg : Str → Option Value) : Prop where
  b : G mg "BEGIN" (.int 0)
  w : G mg "WALL" (.int 1)
  s : G mg "SET" (.int 2)
  t : G mg "STEP" (.int 3)
  g : G mg "GET" (.int 4)
structure Meths (P : Program) (w : World) (K : PySem.W.Frag) (mg : Str → Option Value) (base : Heap) (C Cg : Addr) : Prop where
  b : MOk P w K mg base C Cg 9 "begin" ["self", "cols", "rows", "omega"] (spBegin Cg)
  wl : MOk P w K mg base C Cg 9 "wall" ["self", "x", "y", "on"] (spWall Cg)
  s : MOk P w K mg base C Cg 9 "set_flow" ["self", "x", "y", "rho", "ux", "uy"] (spSet Cg)
  t : MOk P w K mg base C Cg 9 "step" ["self", "count"] (spStep Cg)
  g : MOk P w K mg base C Cg 9 "get_flow" ["self", "x", "y"] (spGet Cg)
  m : MOk P w K mg base C Cg 9 "mass" ["self"] (spMs Cg)
section
variable {P : Program} {w : World} {K : PySem.W.Frag} {mg : Str → Option Value} {base : Heap} {C Cg : Addr}
noncomputable def spAns (Cg : Addr) : Sp := fun vs H Q _ => ∃ (p wa sa ga : Addr) (st : Sn42.St) (num : Int) (given : List Int), vs = [.ref p, .int num, .ref ga] ∧ GridAt Cg H p wa sa st ∧ H ga = some (.lst (given.map V.int)) ∧ Sn42Neutral.asked1 [num :: given] = true ∧ (0 ≤ num ∧ num ≤ 5 ∧ given.length = countN num) ∧ (st = none → num = 0) ∧
  ∀ (n wa' sa' : Addr) (H' : Hp), Kept H H' p wa sa wa' sa' → (∀ b u, H b = some u → b ≠ p → b ≠ wa → b ≠ sa → b ≠ n) → H' n = some (.lst ((Sn42Neutral.step st [num :: given]).2.map V.int)) → GridAt Cg H' p wa' sa' (Sn42Neutral.step st [num :: given]).1 → Q (.ref n) H'
theorem scAns : FnScope ["grid", "number", "given"] ["grid", "number", "given"] (defScope sAns) := ⟨rfl, rfl, rfl, by decide +kernel, rfl, by decide +kernel, by decide +kernel⟩
theorem one_list {H H1 : Hp} {p wa sa wa' sa' n : Addr} {st : Sn42.St} {v : V} (hK : Kept H H1 p wa sa wa' sa') (hG : GridAt Cg H1 p wa' sa' st) (hn : H1 n = none) :
    Kept H (upd H1 n (.lst [v])) p wa sa wa' sa' ∧ (∀ b u, H b = some u → b ≠ p → b ≠ wa → b ≠ sa → b ≠ n) ∧ GridAt Cg (upd H1 n (.lst [v])) p wa' sa' st :=
  ⟨⟨fun b u e h1 h2 h3 => by have z := hK.fr b u e h1 h2 h3; rw [upd_ne (ne_of_none z hn)]; exact z, hK.w, hK.s⟩, fun b u e h1 h2 h3 => ne_of_none (hK.fr b u e h1 h2 h3) hn, GridAt.same (same_new hn) hG⟩
theorem nat64 {c : Int} (h : 0 ≤ c ∧ c < 2 ^ 64) : V.int c = nI c.toNat ∧ D64 c.toNat := ⟨congrArg V.int (by omega), by show c.toNat < 2 ^ 64; omega⟩
theorem ints_map (l : List Nat) : (Sn42Neutral.ints l).map V.int = l.map nI := by
  unfold Sn42Neutral.ints
  rw [List.map_map]
  rfl
theorem ok_ans {f : Addr} {fd : FuncData} (F : Fun K "answer" "answer" sAns f fd) (Cd : Codes mg) (T : GCls K Cg) (M : Meths P w K mg base C Cg) : FnOk P w K mg base (CXN C P w) 10 f fd ["grid", "number", "given"] (spAns Cg) := by
  refine F.okX scAns (fun vs H Q E h => ?_) (fun cdv A outer s H vs Q E hr h => ?_)
  · obtain ⟨p, wa, sa, ga, st, num, given, rfl, _⟩ := h
    rfl
  · obtain ⟨p, wa, sa, ga, st, num, given, rfl, hG, hga, hask, ⟨h0, h5, hgl⟩, hfirst, k⟩ := h
    obtain ⟨dx, c0, r0, o0, hp⟩ := hG.obj
    rcases asked_cases h0 h5 hgl hask with ⟨a, b, c, rfl, rfl, hc⟩ | ⟨a, b, c, rfl, rfl⟩ | ⟨a, b, c, d, e, rfl, rfl, hc, hd, he⟩ | ⟨a, rfl, rfl⟩ | ⟨a, b, rfl, rfl⟩ | ⟨rfl, rfl⟩
    · refine ⟨_, pss_cons (ps_if (pt_cmpR op_eq (pv 1) (pgl Cd.b) (nomark _)) (pss_one (ps_ret (pe_lst (pa_c (pmeth M.b T.cl (pv 0) hr (pass_cx fun _ z => z) (pa_cons (pe_ix ix_list (pv 2) pe_int (fun _ _ => rfl)) (pa_cons (pe_ix ix_list (pv 2) pe_int (fun _ _ => rfl)) (pa_cons (pe_ix ix_list (pv 2) pe_int (fun _ _ => rfl)) pa_nil)))) pa_nil)))) pss_nil) pss_never, ?_⟩
      rw [nstep (call_0 a b c)] at k
      refine ⟨_, rfl, rfl, _, rfl, iteT ?_⟩
      obtain ⟨ec, dc⟩ := nat64 hc
      refine ⟨_, rfl, p, dx, _, rfl, hp, rfl, _, rfl, ga, _, _, _, rfl, rfl, SqL.of hga, atI_nat (j := 0) rfl, _, rfl, ga, _, _, _, rfl, rfl, SqL.of hga, atI_nat (j := 1) rfl, _, rfl, ga, _, _, _, rfl, rfl, SqL.of hga, atI_nat (j := 2) rfl, p, wa, sa, st, a, b, c.toNat, ?_, dc, hG, fun wa' sa' H1 hK hG1 => ⟨by show 1 ≤ sizeLine; decide, fun n hn => ?_⟩⟩
      · rw [← ec]; rfl
      · obtain ⟨k1, k2, k3⟩ := one_list (v := V.int (Sn42.step st (.begin_ a b c.toNat)).2.value) hK hG1 hn
        refine k n wa' sa' _ k1 k2 ?_ k3
        rw [upd_same, begin_out]
        rfl
    · have hst : st ≠ none := fun z => absurd (hfirst z) (by decide)
      obtain ⟨g, rfl⟩ := Option.ne_none_iff_exists'.mp hst
      refine ⟨_, pss_cons (ps_if (pt_cmpR op_eq (pv 1) (pgl Cd.b) (nomark _)) pss_never pss_nil) (pss_cons (ps_if (pt_cmpR op_eq (pv 1) (pgl Cd.w) (nomark _)) (pss_one (ps_ret (pe_lst (pa_c (pmeth M.wl T.cl (pv 0) hr (pass_cx fun _ z => z) (pa_cons (pe_ix ix_list (pv 2) pe_int (fun _ _ => rfl)) (pa_cons (pe_ix ix_list (pv 2) pe_int (fun _ _ => rfl)) (pa_cons (pe_ix ix_list (pv 2) pe_int (fun _ _ => rfl)) pa_nil)))) pa_nil)))) pss_nil) pss_never), ?_⟩
      rw [nstep (call_1 a b c)] at k
      refine ⟨_, rfl, rfl, _, rfl, iteF ?_⟩
      refine ⟨_, rfl, rfl, _, rfl, iteT ?_⟩
      refine ⟨_, rfl, p, dx, _, rfl, hp, rfl, _, rfl, ga, _, _, _, rfl, rfl, SqL.of hga, atI_nat (j := 0) rfl, _, rfl, ga, _, _, _, rfl, rfl, SqL.of hga, atI_nat (j := 1) rfl, _, rfl, ga, _, _, _, rfl, rfl, SqL.of hga, atI_nat (j := 2) rfl, p, wa, sa, g, a, b, c, rfl, hG, fun H1 hK hG1 => ⟨by show 1 ≤ sizeLine; decide, fun n hn => ?_⟩⟩
      obtain ⟨k1, k2, k3⟩ := one_list (v := V.int (Sn42.step (some g) (.wall a b c)).2.value) hK hG1 hn
      refine k n wa sa _ k1 k2 ?_ k3
      rw [upd_same, wall_out]
      rfl
    · have hst : st ≠ none := fun z => absurd (hfirst z) (by decide)
      obtain ⟨g, rfl⟩ := Option.ne_none_iff_exists'.mp hst
      refine ⟨_, pss_cons (ps_if (pt_cmpR op_eq (pv 1) (pgl Cd.b) (nomark _)) pss_never pss_nil) (pss_cons (ps_if (pt_cmpR op_eq (pv 1) (pgl Cd.w) (nomark _)) pss_never pss_nil) (pss_cons (ps_if (pt_cmpR op_eq (pv 1) (pgl Cd.s) (nomark _)) (pss_one (ps_ret (pe_lst (pa_c (pmeth M.s T.cl (pv 0) hr (pass_cx fun _ z => z)
        (pa_cons (pe_ix ix_list (pv 2) pe_int (fun _ _ => rfl)) (pa_cons (pe_ix ix_list (pv 2) pe_int (fun _ _ => rfl)) (pa_cons (pe_ix ix_list (pv 2) pe_int (fun _ _ => rfl)) (pa_cons (pe_ix ix_list (pv 2) pe_int (fun _ _ => rfl)) (pa_cons (pe_ix ix_list (pv 2) pe_int (fun _ _ => rfl)) pa_nil)))))) pa_nil)))) pss_nil) pss_never)), ?_⟩
      rw [nstep (call_2 a b c d e)] at k
      refine ⟨_, rfl, rfl, _, rfl, iteF ?_⟩
      refine ⟨_, rfl, rfl, _, rfl, iteF ?_⟩
      refine ⟨_, rfl, rfl, _, rfl, iteT ?_⟩
      obtain ⟨ec, dc⟩ := nat64 hc
      obtain ⟨ed, dd⟩ := nat64 hd
      obtain ⟨ee, de⟩ := nat64 he
      refine ⟨_, rfl, p, dx, _, rfl, hp, rfl, _, rfl, ga, _, _, _, rfl, rfl, SqL.of hga, atI_nat (j := 0) rfl, _, rfl, ga, _, _, _, rfl, rfl, SqL.of hga, atI_nat (j := 1) rfl, _, rfl, ga, _, _, _, rfl, rfl, SqL.of hga, atI_nat (j := 2) rfl, _, rfl, ga, _, _, _, rfl, rfl, SqL.of hga, atI_nat (j := 3) rfl, _, rfl, ga, _, _, _, rfl, rfl, SqL.of hga, atI_nat (j := 4) rfl,
        p, wa, sa, g, a, b, c.toNat, d.toNat, e.toNat, ?_, dc, dd, de, hG, fun H1 hK hG1 => ⟨by show 1 ≤ sizeLine; decide, fun n hn => ?_⟩⟩
      · rw [← ec, ← ed, ← ee]; rfl
      · obtain ⟨k1, k2, k3⟩ := one_list (v := V.int (Sn42.step (some g) (.set a b c.toNat d.toNat e.toNat)).2.value) hK hG1 hn
        refine k n wa sa _ k1 k2 ?_ k3
        rw [upd_same, set_out]
        rfl
    · have hst : st ≠ none := fun z => absurd (hfirst z) (by decide)
      obtain ⟨g, rfl⟩ := Option.ne_none_iff_exists'.mp hst
      refine ⟨_, pss_cons (ps_if (pt_cmpR op_eq (pv 1) (pgl Cd.b) (nomark _)) pss_never pss_nil) (pss_cons (ps_if (pt_cmpR op_eq (pv 1) (pgl Cd.w) (nomark _)) pss_never pss_nil) (pss_cons (ps_if (pt_cmpR op_eq (pv 1) (pgl Cd.s) (nomark _)) pss_never pss_nil) (pss_cons (ps_if (pt_cmpR op_eq (pv 1) (pgl Cd.t) (nomark _))
        (pss_one (ps_ret (pe_lst (pa_c (pmeth M.t T.cl (pv 0) hr (pass_cx fun _ z => z) (pa_cons (pe_ix ix_list (pv 2) pe_int (fun _ _ => rfl)) pa_nil)) pa_nil)))) pss_nil) pss_never))), ?_⟩
      rw [nstep (call_3 a)] at k
      refine ⟨_, rfl, rfl, _, rfl, iteF ?_⟩
      refine ⟨_, rfl, rfl, _, rfl, iteF ?_⟩
      refine ⟨_, rfl, rfl, _, rfl, iteF ?_⟩
      refine ⟨_, rfl, rfl, _, rfl, iteT ?_⟩
      refine ⟨_, rfl, p, dx, _, rfl, hp, rfl, _, rfl, ga, _, _, _, rfl, rfl, SqL.of hga, atI_nat (j := 0) rfl, p, wa, sa, g, a, rfl, hG, fun sa' H1 hK hG1 => ⟨by show 1 ≤ sizeLine; decide, fun n hn => ?_⟩⟩
      obtain ⟨k1, k2, k3⟩ := one_list (v := V.int (Sn42.step (some g) (.step a)).2.value) hK hG1 hn
      refine k n wa sa' _ k1 k2 ?_ k3
      rw [upd_same, step_out]
      rfl
    · have hst : st ≠ none := fun z => absurd (hfirst z) (by decide)
      obtain ⟨g, rfl⟩ := Option.ne_none_iff_exists'.mp hst
      refine ⟨_, pss_cons (ps_if (pt_cmpR op_eq (pv 1) (pgl Cd.b) (nomark _)) pss_never pss_nil) (pss_cons (ps_if (pt_cmpR op_eq (pv 1) (pgl Cd.w) (nomark _)) pss_never pss_nil) (pss_cons (ps_if (pt_cmpR op_eq (pv 1) (pgl Cd.s) (nomark _)) pss_never pss_nil) (pss_cons (ps_if (pt_cmpR op_eq (pv 1) (pgl Cd.t) (nomark _)) pss_never pss_nil)
        (pss_cons (ps_if (pt_cmpR op_eq (pv 1) (pgl Cd.g) (nomark _)) (pss_one (ps_ret (pmeth M.g T.cl (pv 0) hr (pass_cx fun _ z => z) (pa_cons (pe_ix ix_list (pv 2) pe_int (fun _ _ => rfl)) (pa_cons (pe_ix ix_list (pv 2) pe_int (fun _ _ => rfl)) pa_nil))))) pss_nil) pss_never)))), ?_⟩
      rw [nstep (call_4 a b)] at k
      refine ⟨_, rfl, rfl, _, rfl, iteF ?_⟩
      refine ⟨_, rfl, rfl, _, rfl, iteF ?_⟩
      refine ⟨_, rfl, rfl, _, rfl, iteF ?_⟩
      refine ⟨_, rfl, rfl, _, rfl, iteF ?_⟩
      refine ⟨_, rfl, rfl, _, rfl, iteT ?_⟩
      refine ⟨_, rfl, p, dx, _, rfl, hp, rfl, _, rfl, ga, _, _, _, rfl, rfl, SqL.of hga, atI_nat (j := 0) rfl, _, rfl, ga, _, _, _, rfl, rfl, SqL.of hga, atI_nat (j := 1) rfl, p, wa, sa, g, a, b, rfl, hG, fun l H1 s1 hl hl1 => ?_⟩
      refine k l wa sa H1 (Kept.same s1) (fun b u e _ _ _ => ne_of_none e hl) ?_ ?_
      · rw [hl1]
        show some (HO.lst (V.int _ :: _)) = some (HO.lst (V.int _ :: List.map V.int (Sn42Neutral.ints _)))
        rw [ints_map]
      · show GridAt Cg H1 p wa sa (Sn42.step (some g) (.get a b)).1
        rw [get_st]
        exact GridAt.same s1 hG
    · have hst : st ≠ none := fun z => absurd (hfirst z) (by decide)
      obtain ⟨g, rfl⟩ := Option.ne_none_iff_exists'.mp hst
      refine ⟨_, pss_cons (ps_if (pt_cmpR op_eq (pv 1) (pgl Cd.b) (nomark _)) pss_never pss_nil) (pss_cons (ps_if (pt_cmpR op_eq (pv 1) (pgl Cd.w) (nomark _)) pss_never pss_nil) (pss_cons (ps_if (pt_cmpR op_eq (pv 1) (pgl Cd.s) (nomark _)) pss_never pss_nil) (pss_cons (ps_if (pt_cmpR op_eq (pv 1) (pgl Cd.t) (nomark _)) pss_never pss_nil)
        (pss_cons (ps_if (pt_cmpR op_eq (pv 1) (pgl Cd.g) (nomark _)) pss_never pss_nil) (pss_one (ps_ret (pmeth0 M.m T.cl (pv 0) hr (pass_cx fun _ z => z)))))))), ?_⟩
      rw [nstep call_5] at k
      refine ⟨_, rfl, rfl, _, rfl, iteF ?_⟩
      refine ⟨_, rfl, rfl, _, rfl, iteF ?_⟩
      refine ⟨_, rfl, rfl, _, rfl, iteF ?_⟩
      refine ⟨_, rfl, rfl, _, rfl, iteF ?_⟩
      refine ⟨_, rfl, rfl, _, rfl, iteF ?_⟩
      refine ⟨_, rfl, p, dx, _, rfl, hp, rfl, p, wa, sa, g, rfl, hG, fun l H1 s1 hl hl1 => ?_⟩
      refine k l wa sa H1 (Kept.same s1) (fun b u e _ _ _ => ne_of_none e hl) ?_ ?_
      · rw [hl1]
        show some (HO.lst (V.int _ :: _)) = some (HO.lst (V.int _ :: List.map V.int (Sn42Neutral.ints _)))
        rw [ints_map]
      · show GridAt Cg H1 p wa sa (Sn42.step (some g) .mass).1
        rw [mass_st]
        exact GridAt.same s1 hG
end
end Cf
namespace Cf
open PySem L2
noncomputable def Req (K : PySem.W.Frag) (H : Hp) (a : Addr) (xs : List V) : Prop := (∃ o, H a = some (.frz o (.lst xs))) ∨
  ∃ (o : Obj) (its : Array Value) (n : Nat), K.lookup a = some o ∧ o.cls = .type "list" ∧ o.dict = none ∧ o.data = .seq its n ∧ its.size ≤ sizeLine ∧ Vals xs its.toList
theorem Req.sq {K : PySem.W.Frag} {H : Hp} {a : Addr} {xs : List V} (h : Req K H a xs) : SqL K H a xs := by
  rcases h with ⟨o, h⟩ | h
  · exact .inl (.inr ⟨o, h⟩)
  · exact .inr h
theorem Req.same {K : PySem.W.Frag} {H H' : Hp} {a : Addr} {xs : List V} (h : Req K H a xs) (s : ∀ o, H a = some (.frz o (.lst xs)) → H' a = some (.frz o (.lst xs))) : Req K H' a xs := by
  rcases h with ⟨o, h⟩ | h
  · exact .inl ⟨o, s o h⟩
  · exact .inr h
noncomputable def startOf : St → Nat
  | [_, _, _, some (.int i), _, _, _] => i.toNat
  | _ => 0
noncomputable def countsL : List Nat := [3, 3, 5, 1, 2, 0]
theorem counts_get {p : Int} (h0 : 0 ≤ p) (h5 : p ≤ 5) : ∃ pn : Nat, p = (pn : Int) ∧ countsL[pn]? = some (countN p) := by
  have : p = 0 ∨ p = 1 ∨ p = 2 ∨ p = 3 ∨ p = 4 ∨ p = 5 := by omega
  rcases this with rfl | rfl | rfl | rfl | rfl | rfl
  · exact ⟨0, rfl, rfl⟩
  · exact ⟨1, rfl, rfl⟩
  · exact ⟨2, rfl, rfl⟩
  · exact ⟨3, rfl, rfl⟩
  · exact ⟨4, rfl, rfl⟩
  · exact ⟨5, rfl, rfl⟩
theorem cut_nat (ns : List Int) (i j : Nat) (h : j ≤ ns.length) (hi : i ≤ j) : cutV (ns.map V.int) (some (i : Int)) (some (j : Int)) = ((ns.drop i).take (j - i)).map V.int := by
  unfold cutV
  rw [HT.sIx_nat, HT.sIx_nat, List.length_map, Nat.min_eq_left h, Nat.min_eq_left (show i ≤ ns.length by omega), ← List.map_drop, ← List.map_take]
noncomputable def AnsInv (K : PySem.W.Frag) (Cg a p to : Addr) (ns : List Int) (σ : St) (H2 : Hp) : Prop := ∃ (wa sa : Addr) (st : Sn42.St) (tl : List Int) (cs : List (List (List Int))) (at_ : Nat) (si : Int) (v4 v5 v6 : Option V), σ = [some (.ref a), some (.ref p), some (.ref to), some (.int si), v4, v5, v6] ∧ si = (at_ : Int) ∧ Turn ns at_ st tl cs ∧ GridAt Cg H2 p wa sa st ∧
  H2 to = some (.lst (tl.map V.int)) ∧ to ≠ wa ∧ to ≠ sa ∧ Req K H2 a (ns.map V.int)
section
variable {P : Program} {w : World} {K : PySem.W.Frag} {mg : Str → Option Value} {base : Heap} {C Cg : Addr}
noncomputable def spAnss (K : PySem.W.Frag) : Sp := fun vs H Q _ => ∃ (a : Addr) (ns : List Int), vs = [.ref a] ∧ Req K H a (ns.map V.int) ∧ PySn42.answers_asked ns = true ∧ ∀ (l : Addr) (H' : Hp), H' l = some (.lst ((PySn42.answers ns).map V.int)) → Q (.ref l) H'
theorem scAnss : FnScope ["calls", "grid", "told", "start", "number", "end", "numbers"] ["calls"] (defScope sAnss) := ⟨rfl, rfl, rfl, by decide +kernel, rfl, by decide +kernel, by decide +kernel⟩
theorem ok_anss {f fI : Addr} {fd fdI : FuncData} (F : Fun K "answers" "answers" sAnss f fd) (B : Bl mg) (Gc : GT K mg "GIVEN_COUNTS" (countsL.map nI)) (M : Mk K Cg fI) (hmG : mg "Grid" = some (.ref Cg)) (FI : FnOk P w K mg base (CXN C P w) 9 fI fdI ["self"] (spInit Cg)) (bI : Binds K fdI ["self"] [])
    (oa : Ok P w K mg base C 10 "answer" ["grid", "number", "given"] (spAns Cg)) : FnOk P w K mg base (CXN C P w) 11 f fd ["calls"] (spAnss K) := by
  obtain ⟨aG, gG, hGc⟩ := Gc
  refine F.okX scAnss (fun vs H Q E h => ?_) (fun cdv A outer s H vs Q E hr h => ?_)
  · obtain ⟨a, ns, rfl, _⟩ := h
    rfl
  · obtain ⟨a, ns, rfl, hreq, hask, k⟩ := h
    refine ⟨_, pss_cons (ps_set (i := 1) scAnss.nd rfl (Or.inl rfl) (pe_make0 M FI hr rfl hmG bI .nil (pass_cx fun _ z => z)))
      (pss_cons (ps_set (i := 2) scAnss.nd rfl (Or.inl rfl) (pe_lst pa_nil))
      (pss_cons (ps_set (i := 3) scAnss.nd rfl (Or.inl rfl) pe_int)
      (pss_cons (ps_while (own_cx rfl) (pt_cmpR op_lt (pv 3) (pe_callB call_len_seq (by rfl) B.len PySem.boot_len (pa_n (pv 0) pa_nil)) (nomark _))
        (pss_cons (ps_set (i := 4) scAnss.nd rfl (Or.inl rfl) (pe_ix ix_list (pv 0) (pv 3) (fun _ _ => rfl)))
        (pss_cons (ps_set (i := 5) scAnss.nd rfl (Or.inl rfl) (pe_op op_add (pe_op op_add (pv 3) pe_int) (pe_ix ix_tup (pgl gG) (pv 4) (fun _ _ => rfl))))
        (pss_cons (ps_set (i := 6) scAnss.nd rfl (Or.inl rfl) (pcall oa hr (pass_cx fun _ z => z) (pa_n (pv 1) (pa_n (pv 4) (pa_cons (pe_slice sl_list (pv 0) (po_some (pe_op op_add (pv 3) pe_int)) (po_some (pv 5))) pa_nil)))))
        (pss_cons (ps_expr (pe_bm PySem.F.plainAttrs_list PySem.F.slot_list_append PySem.F.type_list_append mt_append (pv 2) (pa_c (pe_callB call_len_seq (by rfl) B.len PySem.boot_len (pa_n (pv 6) pa_nil)) pa_nil)))
        (pss_cons (ps_expr (pe_bm PySem.F.plainAttrs_list PySem.F.slot_list_extend PySem.F.type_list_extend mt_extend (pv 2) (pa_n (pv 6) pa_nil)))
        (pss_one (ps_set (i := 3) scAnss.nd rfl (Or.inl rfl) (pv 5)))))))))
      (pss_one (ps_ret (pv 2)))))), ?_⟩
    intro p dx np ndx nex
    refine ⟨p, dx, rfl, upd_same, fun wa sa H1 hwa hsa hG1 kp => ⟨rfl, ?_⟩⟩
    have hreq1 : Req K H1 a (ns.map V.int) := hreq.same fun o e => kp _ _ (by rw [upd_ne (ne_of_none e np), upd_ne (ne_of_none e ndx)]; exact e) (ne_of_none e np)
    refine ⟨by show 0 ≤ sizeLine; decide, fun to hto => ?_⟩
    have s1 : Same H1 (upd H1 to (.lst [])) := same_new hto
    obtain ⟨hp1, hw1, hs1⟩ := id hG1
    have ntw : to ≠ wa := (ne_of_none hw1 hto).symm
    have nts : to ≠ sa := (ne_of_none hs1 hto).symm
    obtain ⟨cs0, T0⟩ := turn_start hask
    refine while_by (AnsInv K Cg a p to ns)
      (fun σ _ => ns.length - startOf σ) ⟨wa, sa, none, [], cs0, 0, 0, none, none, none, rfl, rfl, T0, GridAt.same s1 hG1, upd_same, ntw, nts, hreq1.same fun o e => s1 _ _ e⟩ ?_ (by rintro σ H Q Q' hQ ⟨v, e, v', e', p, ys, h1, h2, i, j, h3, h4, b, h5, q⟩; exact ⟨v, e, v', e', p, ys, h1, h2, i, j, h3, h4, b, h5, hQ _ _ q⟩)
    rintro σ H2 ⟨wa, sa, st, tl, cs, at_, si, v4, v5, v6, rfl, hsi, T, hG, hto2, ntw, nts, hreq2⟩
    refine ⟨_, rfl, _, rfl, a, _, rfl, .inl hreq2.sq, _, _, rfl, rfl, _, rfl, ?_⟩
    show if decide (si < (((ns.map V.int).length : Nat) : Int)) = true then _ else _
    rw [List.length_map]
    refine ite2 (fun hl => ?_) (fun hl => ?_)
    · have hl := of_decide_eq_true hl
      obtain ⟨num, given, X⟩ := turn_next T (by omega)
      obtain ⟨pn, hpn, hcnt⟩ := counts_get X.lo X.hi
      have hstop := X.stop
      have hroom := X.room
      refine ⟨_, rfl, _, rfl, a, _, _, _, rfl, rfl, hreq2.sq, at_of hsi (map_get X.num), ?_⟩
      refine ⟨_, rfl, _, _, rfl, rfl, _, rfl, aG, _, _, _, rfl, rfl, hGc H2, at_of hpn (map_get hcnt), _, _, rfl, rfl, ?_⟩
      refine ⟨_, rfl, _, rfl, _, rfl, _, rfl, _, _, rfl, rfl, _, rfl, _, rfl, _, rfl, a, _, rfl, hreq2.sq, fun ga hga => ?_⟩
      have ecut : cutV (ns.map V.int) (some (si + 1)) (some (si + 1 + ((countN num : Nat) : Int))) = given.map V.int := by
        rw [show si + 1 = ((at_ + 1 : Nat) : Int) by omega, show ((at_ + 1 : Nat) : Int) + ((countN num : Nat) : Int) = ((at_ + 1 + countN num : Nat) : Int) by omega, cut_nat ns _ _ hstop (by omega), X.giv]
        congr 2
        omega
      have s3 : Same H2 (upd H2 ga (.lst (cutV (ns.map V.int) (some (si + 1)) (some (si + 1 + ((countN num : Nat) : Int)))))) := same_new hga
      refine ⟨p, wa, sa, ga, st, num, given, rfl, GridAt.same s3 hG, by rw [upd_same, ecut], X.asked, ⟨X.lo, X.hi, X.glen⟩, fun z => (X.first z).1, fun n wa' sa' H4 hK hfr hn hG4 => ?_⟩
      have hns := next_some (st := st) X.lo X.hi X.glen X.asked X.first
      obtain ⟨cs', T'⟩ := X.next hns
      obtain ⟨dx2, c2, r2, o2, hp2⟩ := hG.obj
      have ntp : to ≠ p := ne_of hto2 hp2 (by intro z; cases z)
      have hto3 := s3 _ _ hto2
      have hto4 := hK.fr _ _ hto3 ntp ntw nts
      have ntn : to ≠ n := hfr _ _ hto3 ntp ntw nts
      have nt_of : ∀ {q q' : Addr}, to ≠ q → (q' = q ∨ upd H2 ga (.lst (cutV (ns.map V.int) (some (si + 1)) (some (si + 1 + ((countN num : Nat) : Int))))) q' = none) → to ≠ q' := fun h1 h2 => by
        rcases h2 with rfl | h2
        · exact h1
        · exact ne_of_none hto3 h2
      have ntw' := nt_of ntw hK.w
      have nts' := nt_of nts hK.s
      have hlen : (Sn42Neutral.step st [num :: given]).2.length + tl.length ≤ 1000400 := by omega
      generalize hout : (Sn42Neutral.step st [num :: given]).2 = out at hn T' hlen
      generalize (Sn42Neutral.step st [num :: given]).1 = st' at hG4 T'
      -- told.append(len(numbers))
      refine ⟨_, rfl, .inl ⟨rfl, _, SqL.of hto4⟩, _, rfl, n, _, rfl, .inl (SqL.of hn), to, _, _, rfl, rfl, hto4, by rw [List.length_map, PySem.sizeLine_eq]; omega, ?_⟩
      -- told.extend(numbers)
      refine ⟨_, rfl, .inl ⟨rfl, _, SqL.of upd_same⟩, _, rfl, to, n, _, _, rfl, rfl, upd_same, by rw [upd_ne ntn.symm]; exact hn, ?_, ?_⟩
      · rw [List.length_append, List.length_map, List.length_map, PySem.sizeLine_eq]
        show tl.length + 1 + out.length ≤ _
        omega
      rw [upd_upd]
      refine ⟨_, rfl, ?_⟩
      have fr5 : ∀ b u, b ≠ to → H4 b = some u → upd H4 to (.lst (tl.map V.int ++ [V.int (((out.map V.int).length : Nat) : Int)] ++ out.map V.int)) b = some u := fun b u hb e => by rw [upd_ne hb]; exact e
      refine ⟨⟨wa', sa', st', tl ++ ((out.length : Int) :: out), cs', at_ + 1 + countN num, si + 1 + ((countN num : Nat) : Int), _, _, _, rfl, by omega, T', ?_, ?_, ntw', nts', ?_⟩, ?_⟩
      · cases st' with
        | none =>
          obtain ⟨⟨dx4, g1⟩, g2, g3⟩ := hG4
          exact ⟨⟨dx4, fr5 _ _ (ne_of g1 hto4 (by intro z; cases z)) g1⟩, fr5 _ _ ntw'.symm g2, fr5 _ _ nts'.symm g3⟩
        | some g =>
          obtain ⟨⟨dx4, g1⟩, g2, g3, ts, g4, g5⟩ := hG4
          refine ⟨⟨dx4, fr5 _ _ (ne_of g1 hto4 (by intro z; cases z)) g1⟩, g2, fr5 _ _ ntw'.symm g3, ts, fr5 _ _ nts'.symm g4, ⟨g5.len, fun i u q h1 h2 => ?_⟩⟩
          have z := g5.at_ i u q h1 h2
          exact fr5 _ _ (ne_of z hto4 (by intro z; cases z)) z
      · rw [upd_same, List.length_map, List.map_append, List.append_assoc]
        rfl
      · refine hreq2.same fun o e => ?_
        have e3 := s3 _ _ e
        have nap : a ≠ p := ne_of e hp2 (by intro z; cases z)
        have naw : a ≠ wa := by
          cases st with
          | none =>
            obtain ⟨_, g2, _⟩ := hG
            exact ne_of e g2 (by intro z; cases z)
          | some g =>
            obtain ⟨_, _, g3, _⟩ := hG
            exact ne_of e g3 (by intro z; cases z)
        have nas : a ≠ sa := by
          cases st with
          | none =>
            obtain ⟨_, _, g3⟩ := hG
            exact ne_of e g3 (by intro z; cases z)
          | some g =>
            obtain ⟨_, _, _, ts, g4, _⟩ := hG
            exact ne_of e g4 (by intro z; cases z)
        exact fr5 _ _ (ne_of e hto2 (by intro z; cases z)) (hK.fr _ _ e3 nap naw nas)
      · show ns.length - (si + 1 + ((countN num : Nat) : Int)).toNat < ns.length - si.toNat
        omega
    · have hl : ¬ (si < (ns.length : Int)) := fun z => hl (decide_eq_true z)
      have := turn_end T (by omega)
      rw [this] at k
      exact ⟨_, rfl, k to H2 hto2⟩
end
end Cf
namespace L2
open PySem PySem.Spec PyProof.Rows
theorem spec_call {P : Program} {w : World} {K : PySem.W.Frag} {mg mb : Str → Option Value} {CX : CXT} {k : Nat} {fa a : Addr} {fd : FuncData} {x : Str} {sp : Sp} {s₁ : Shared} {vs : List Value} {ns ys : List Int}
    (KX : K.In s₁.heap) (hns : s₁.heap.Ns mainGlobals mg) (hb : s₁.heap.Ns builtinsNs mb) (hbb : ∀ x : Str, x ≠ "__name__" → mb x = bootBuiltins x) (hlim : s₁.heap.NoLimit) (hg : s₁.gens = #[])
    (ha : s₁.heap.get? a = some { cls := .type "list", data := .seq vs.toArray }) (hi : IntsAre vs ns) (hl : ns.length ≤ sizeLine) (hr : Room k callerA)
    (F : ∀ base : Heap, K.In base → base.Ns mainGlobals mg → FnOk P w K mg base CX k fa fd [x] sp) (hbind : ∀ (s : Shared) (u : Value), BindsTo s fd ⟨[u], []⟩ [(x, u)])
    (hsp : ∀ H : Hp, Cf.Req K H a (ns.map V.int) → sp [.ref a] H (fun v H' => ∃ l, v = .ref l ∧ H' l = some (.lst (ys.map V.int))) fun _ _ _ => False)
    (hCX : ∀ H e s', CX [] H s₁ (fun _ _ _ => False) e s' → False) :
    codeAny (model P w) callerA (.call (.ref fa) ⟨[.ref a], []⟩) (fun r s' => (∃ (l : Addr) (its : List Value) (n : Nat), r = .ok (.ret (.ref l)) ∧ s'.heap.get? l = some { cls := .type "list", data := .seq its.toArray n } ∧ IntsAre its ys) ∧ OldK s₁.heap s'.heap ∧ s'.os = s₁.os ∧ AllBare s'.gens) s₁ := by
  have rv := vals_ints hi
  have lenV := hi.length
  have core : ∀ H : Hp, Only H → Cf.Req K H a (ns.map V.int) → HOk P w H s₁.heap → (∀ b, H b ≠ none → b = a) → (H a ≠ none → K.lookup a = none) →
      codeAny (model P w) callerA (.call (.ref fa) ⟨[.ref a], []⟩) (fun r s' => (∃ (l : Addr) (its : List Value) (n : Nat), r = .ok (.ret (.ref l)) ∧ s'.heap.get? l = some { cls := .type "list", data := .seq its.toArray n } ∧ IntsAre its ys) ∧ OldK s₁.heap s'.heap ∧ s'.os = s₁.os ∧ AllBare s'.gens) s₁ := by
    intro H hO hS hok hA hK
    have base_of : ∀ {b : Addr} {o : Obj}, s₁.heap.get? b = some o → H b = none → (hidT s₁.heap H).get? b = some o := fun e n => hidT_get e n
    have noA : ∀ {b : Addr} {o : Obj} {es : Array DictEntry} {ep : Nat}, s₁.heap.get? b = some o → o.data = .dict es ep → H b = none := fun {b o es ep} e d => by
      cases q : H b with
      | none => rfl
      | some u =>
        have e' : b = a := hA b (by rw [q]; simp)
        subst e'
        rw [ha] at e; cases e
        have d' : Data.seq vs.toArray _ = Data.dict es ep := d
        cases d'
    have nsK : ∀ {b : Addr} {m : Str → Option Value}, s₁.heap.Ns b m → (hidT s₁.heap H).Ns b m := fun {b m} ⟨o, es, ep, e, d, r⟩ => ⟨o, es, ep, base_of e (noA e d), d, r⟩
    have hKb : K.In (hidT s₁.heap H) := fun b o e => base_of (KX b o e) (by
      cases q : H b with
      | none => rfl
      | some u =>
        have e' : b = a := hA b (by rw [q]; simp)
        subst e'
        rw [hK (by rw [q]; simp)] at e; cases e)
    have hM : Mod K mg (hidT s₁.heap H) := ⟨hKb, nsK hns, ⟨mb, nsK hb, hbb⟩, let ⟨mc, h1, h2⟩ := hlim; ⟨mc, nsK h1, h2⟩⟩
    have e0 : Env0 P w K mg (hidT s₁.heap H) callerA [] s₁ H := ⟨rfl, hM, fun b o e => of_hidT e, Nat.le_of_eq (hidT_size _ _), trivial, fun b hb => absurd (show b ∈ ([] : List Addr) from hb) (by simp), hok, .of_eq hg⟩
    refine codeAny_mono ((F _ hKb (nsK hns)).run callerA [] s₁ H ⟨[.ref a], []⟩ [.ref a] [.ref a] _ _ hr e0 (hbind s₁ (.ref a)) (.cons rfl .nil) (hsp H hS)) fun r s' h => ?_
    cases r with
    | error e => exact (hCX H e s' h).elim
    | ok fl =>
      cases fl with
      | next => exact False.elim h
      | brk => exact False.elim h
      | cont => exact False.elim h
      | ret u =>
        obtain ⟨v, H', os, bare, un, hok', r', q⟩ := h
        obtain ⟨l, q1, q2⟩ := q
        subst q1
        obtain rfl : u = Value.ref l := r'
        obtain ⟨_, its, n, rits, gits⟩ := hok' l _ q2
        refine ⟨⟨l, its, n, rfl, gits, Vals.ints rits⟩, OldK.of_keep fun b o e => ?_, os, bare⟩
        cases q : H b with
        | none => exact un.keep b o e q (by intro z; exact absurd (show b ∈ ([] : List Addr) from z) (by simp)) (by simp)
        | some u =>
          rcases hO b with z | ⟨ob, xs, z⟩
          · rw [q] at z; cases z
          · have z2 := un.frzs b ob _ z
            obtain ⟨e1, _⟩ := hok b _ z
            obtain ⟨e2, _⟩ := hok' b _ z2
            rw [e] at e1; cases e1
            exact e2
  cases hk : K.lookup a with
  | some o =>
    have e := KX a o hk
    rw [ha] at e
    cases e
    refine core (fun _ => none) (fun _ => .inl rfl) (.inr ⟨_, vs.toArray, _, hk, rfl, rfl, rfl, by rw [List.size_toArray, lenV]; exact hl, by simpa using rv⟩) (fun b u z => by have z' : (none : Option HO) = some u := z; cases z') (fun b z => absurd rfl z) fun z => absurd rfl z
  | none =>
    refine core (fun b => if b = a then some (.frz { cls := .type "list", data := .seq vs.toArray } (.lst (ns.map V.int))) else none) (fun b => ?_) (.inl ⟨{ cls := .type "list", data := .seq vs.toArray }, if_pos rfl⟩) (fun b u z => ?_) (fun b z => ?_) fun _ => hk
    · by_cases hb : b = a
      · exact .inr ⟨_, _, if_pos hb⟩
      · exact .inl (if_neg hb)
    · by_cases hb : b = a
      · have z' := (if_pos hb).symm.trans z
        cases z'
        subst hb
        exact ⟨ha, by rw [List.length_map]; exact hl, vs, _, rv, ha⟩
      · have z' := (if_neg hb).symm.trans z
        cases z'
    · by_cases hb : b = a
      · exact hb
      · exact absurd (if_neg hb) z
end L2
namespace Cf
open PySem L2
theorem walkS {q : Program} {loose : List Str} {XP : (Str → Option Value) → Heap → Prop} {YP : World → Heap → Prop} {d : DefRec} {K : Params → PySem.W.Frag} (hdf : d.params.defaults = [])
    (hY : ∀ (w : World) (h : Heap), YP w h → (K w.params).In h)
    (F : ∀ (w : World) (mg : Str → Option Value) (fa : Addr) (h : Heap), (K w.params).In h → h.Ns mainGlobals mg → mg d.name = some (.ref fa) →
      ∃ (C : Addr) (fd : FuncData), (∀ (s : Shared) (u : Value), BindsTo s fd ⟨[u], []⟩ [("calls", u)]) ∧ ∀ base : Heap, (K w.params).In base → base.Ns mainGlobals mg → FnOk PySem.Challenge.pw_cellflow_s01_answers w (K w.params) mg base (CXN C PySem.Challenge.pw_cellflow_s01_answers w) 11 fa fd ["calls"] (spAnss (K w.params))) :
    PySem.W.WalkOS q loose XP YP PySem.Challenge.rw_cellflow_s01_answers d [] (fun f vs => PySem.call f vs) := by
  intro w s₀ s₁ mg mb G Y fa o pm cd doc dV kV ho hd hcd hD hmg hg args vals as hpre hlay hrd hwl hlo
  have KX := hY w _ Y
  obtain ⟨C, fd, hb, hF⟩ := F w mg fa _ KX G.T.g hmg
  obtain ⟨av, hdec, hasked⟩ := PySem.W.os_pre_some hpre
  obtain ⟨henc, hwith⟩ := PySem.W.Codec.encAll_of_decAll _ _ _ hdec
  obtain ⟨ns, ⟨⟩⟩ := av
  have hasked : PySn42.answers_asked ns = true := hasked
  have henc : args = [PySem.W.WData.list (ns.map PySem.W.WData.int)] := henc
  subst henc
  have hlen : ns.length ≤ 16000 := by
    have h1 : PySem.W.Codec.inPair (PySem.W.Codec.inList 0 16000 (PySem.W.Codec.inInt _ _)) (fun _ => true) (ns, ()) = true := hwith
    unfold PySem.W.Codec.inPair PySem.W.Codec.inList PySem.W.Codec.inLen PySem.W.Codec.inNat at h1
    simp only [Bool.and_eq_true, decide_eq_true_eq] at h1
    exact h1.1.1.2
  cases hwl with
  | cons w1 w2 =>
    cases w2
    cases w1 with
    | list hobj hall =>
      have hints := Att.ints_of_wellAll ns _ hall
      refine PySem.W.enter_call (codeAny_mono (spec_call (ys := PySn42.answers ns) KX G.T.g G.T.b G.T.builtins G.T.nolimit hg hobj hints (Nat.le_trans hlen (by rw [PySem.sizeLine_eq]; decide)) ⟨rfl, by decide, by decide⟩ hF hb (fun H hS => ⟨_, ns, rfl, hS, hasked, fun l H' hl => ⟨l, rfl, hl⟩⟩) (fun H e s' h => ?_)) fun r s' hq => ?_)
      · obtain ⟨_, _, _, _, _, _, _, z⟩ := h
        exact z
      · obtain ⟨⟨l, its, n, rfl, gl, il⟩, h2, h3, h4⟩ := hq
        exact ⟨.inl ⟨.ref l, _, _, rfl, fun _ => rfl, PySem.W.readsW_of_reads (Reads.list gl rfl rfl (PySem.W.readsAll_of_ints il)), PySem.W.osPost (PySem.W.os_post hdec (PySem.W.os_same_ints rfl)), fun h => absurd h Bool.false_ne_true⟩, h2, h3, h4⟩
end Cf
namespace Cf
open PySem L2
theorem b1 {P : List Value → Prop} (h : ∀ a, P [a]) (us : List Value) (hl : us.length = 1) : P us := by
  obtain ⟨a, rfl⟩ := ex1 hl
  exact h a
theorem b2 {P : List Value → Prop} (h : ∀ a b, P [a, b]) (us : List Value) (hl : us.length = 2) : P us := by
  obtain ⟨a, b, rfl⟩ := ex2 hl
  exact h a b
theorem b3 {P : List Value → Prop} (h : ∀ a b c, P [a, b, c]) (us : List Value) (hl : us.length = 3) : P us := by
  obtain ⟨a, b, c, rfl⟩ := ex3 hl
  exact h a b c
theorem b4 {P : List Value → Prop} (h : ∀ a b c d, P [a, b, c, d]) (us : List Value) (hl : us.length = 4) : P us := by
  cases us with
  | nil => cases hl
  | cons a l => obtain ⟨b, c, d, e⟩ := ex3 (Nat.succ.inj hl); rw [e]; exact h a b c d
theorem b5 {P : List Value → Prop} (h : ∀ a b c d e, P [a, b, c, d, e]) (us : List Value) (hl : us.length = 5) : P us := by
  obtain ⟨a, b, c, d, e, rfl⟩ := ex5 hl
  exact h a b c d e
theorem b6 {P : List Value → Prop} (h : ∀ a b c d e f, P [a, b, c, d, e, f]) (us : List Value) (hl : us.length = 6) : P us := by
  cases us with
  | nil => cases hl
  | cons a l => obtain ⟨b, c, d, e, f, q⟩ := ex5 (Nat.succ.inj hl); rw [q]; exact h a b c d e f
noncomputable def DefIn (K : PySem.W.Frag) (mg : Str → Option Value) (x : Str) (st : Stmt) : Prop := ∃ f fd, Fun K x x st f fd ∧ mg x = some (.ref f)
noncomputable def MethIn (K : PySem.W.Frag) (Cg : Addr) (m q : Str) (st : Stmt) : Prop := ∃ f fd, Fun K m q st f fd ∧ Meth K Cg m f
section
variable {K : PySem.W.Frag} {h : Heap} {mg : Str → Option Value}
theorem def_mk {x : Str} {st : Stmt} {f : Addr} {oc : Value} {od an : Option Addr} {osl : Array (Option Value)} {kV doc pm cdv ct : Value} (X : K.In h) (G : h.Ns mainGlobals mg) (a : PySem.W.nsIn K mainGlobals x = some (some (.ref f)))
    (l : K.lookup f = some ⟨oc, od, .func (PySem.W.fnOf x x (defArgs st) (defBody st) (defScope st) .none kV doc pm an cdv ct), osl⟩) (c : PySem.W.codeIn K cdv x = true) (k : PySem.W.keepIn K (.ref f) = true) : DefIn K mg x st :=
  ⟨f, _, fun_mk l c k, PySem.W.mg_of X G a⟩
theorem meth_mk {m q : Str} {st : Stmt} {Cg f : Addr} {oc : Value} {od an : Option Addr} {osl : Array (Option Value)} {kV doc pm cdv ct : Value} (a : PySem.W.findIn K (.ref Cg) m = some (some (.ref f))) (i : PySem.W.isFn K (.ref f) = true)
    (l : K.lookup f = some ⟨oc, od, .func (PySem.W.fnOf m q (defArgs st) (defBody st) (defScope st) .none kV doc pm an cdv ct), osl⟩) (c : PySem.W.codeIn K cdv q = true) (k : PySem.W.keepIn K (.ref f) = true) : MethIn K Cg m q st :=
  ⟨f, _, fun_mk l c k, ⟨a, i, k⟩⟩
theorem int_mk {x : Str} {i : Int} {t : Tok} (X : K.In h) (G : h.Ns mainGlobals mg) (a : PySem.W.nsIn K mainGlobals x = some (some (.int i t))) : Cf.G mg x (.int i) := ⟨_, PySem.W.mg_of X G a, ⟨t, rfl⟩⟩
theorem tup_mk {x : Str} {xs : List V} {a : Addr} {od : Option Addr} {its : Array Value} {n : Nat} {sl : Array (Option Value)} (X : K.In h) (G : h.Ns mainGlobals mg) (e : PySem.W.nsIn K mainGlobals x = some (some (.ref a)))
    (l : K.lookup a = some ⟨.type "tuple", od, .seq its n, sl⟩) (hz : its.size ≤ sizeLine) (hv : Vals xs its.toList) : GT K mg x xs := ⟨a, ⟨_, PySem.W.mg_of X G e, rfl⟩, fun _ => .inr ⟨_, its, n, l, rfl, rfl, hz, hv⟩⟩
end
theorem xc_mk {K : PySem.W.Frag} {h : Heap} {mg : Str → Option Value} {C Nn : Addr} {nm qn : Str} {bs : List Value} {hdct : Bool} {sn : List Str} {sub : List Value} {ab : Bool} {col : Option Bool} {dd : Option Addr} {k0 k1 k2 k3 k5 : Option Value} (X : K.In h) (G : h.Ns mainGlobals mg)
    (e : PySem.W.nsIn K mainGlobals "NotFinite" = some (some (.ref C))) (l : K.lookup C = some (excClassObj nm qn C Nn bs excBm hdct sn sub ab col dd k0 k1 k2 k3 k5 "Exception.__new__")) (o : PySem.W.nsOkIn K Nn = true) (n : PySem.W.nsIn K Nn "__init__" = some none) :
    ∃ C, XCls K C ∧ mg "NotFinite" = some (.ref C) := ⟨C, ⟨⟨Nn, nm, qn, bs, hdct, sn, sub, ab, col, dd, k0, k1, k2, k3, k5, l, o, n⟩⟩, PySem.W.mg_of X G e⟩
structure Facts (K : PySem.W.Frag) (mg : Str → Option Value) : Prop where
  N : Ints mg
  B : Bl mg
  Nu : Nums mg
  Cd : Codes mg
  Wt : GT K mg "WEIGHTS" (weightsN.map nI)
  Wy : Ways K mg
  Gc : GT K mg "GIVEN_COUNTS" (countsL.map nI)
  fin : DefIn K mg "is_finite" sFin
  exp : DefIn K mg "exponent" sExp
  man : DefIn K mg "mantissa" sMan
  rnd : DefIn K mg "rounded" sRnd
  opp : DefIn K mg "opposite" sOpp
  add : DefIn K mg "add" sAdd
  sub : DefIn K mg "subtract" sSub
  mul : DefIn K mg "multiply" sMul
  div : DefIn K mg "divide" sDiv
  spd : DefIn K mg "speeds" sSpd
  shr : DefIn K mg "share_at_rest" sShr
  rest : DefIn K mg "shares_at_rest" sRest
  rgt : DefIn K mg "rightward" sRgt
  dwn : DefIn K mg "downward" sDwn
  flow : DefIn K mg "flow_of" sFlow
  ec : DefIn K mg "eased_cell" sEC
  ecs : DefIn K mg "eased_cells" sECs
  cs : DefIn K mg "cell_sources" sCS
  as : DefIn K mg "all_sources" sAS
  mc : DefIn K mg "moved_cells" sMC
  bs : DefIn K mg "behind_steps" sBS
  side : DefIn K mg "is_side" sSide
  mass : DefIn K mg "mass_of" sMass
  ans : DefIn K mg "answer" sAns
  anss : DefIn K mg "answers" sAnss
  xc : ∃ C, XCls K C ∧ mg "NotFinite" = some (.ref C)
  grid : ∃ Cg, mg "Grid" = some (.ref Cg) ∧ GCls K Cg ∧ PySem.W.makesIn K Cg = true ∧ PySem.W.keepIn K (.ref Cg) = true ∧ MethIn K Cg "__init__" "Grid.__init__" mInit ∧ MethIn K Cg "has_cell" "Grid.has_cell" mHas ∧ MethIn K Cg "place" "Grid.place" mPlace ∧ MethIn K Cg "begin" "Grid.begin" mBegin ∧
    MethIn K Cg "wall" "Grid.wall" mWall ∧ MethIn K Cg "set_flow" "Grid.set_flow" mSet ∧ MethIn K Cg "step" "Grid.step" mStep ∧ MethIn K Cg "get_flow" "Grid.get_flow" mGet ∧ MethIn K Cg "mass" "Grid.mass" mMass
section
variable {P : Program} {w : World} {K : PySem.W.Frag} {mg : Str → Option Value} {base : Heap} {C Cg : Addr}
theorem DefIn.ok {x : Str} {st : Stmt} {ps : List Str} {j k : Nat} {sp : Sp} (D : DefIn K mg x st) (h : ∀ f fd, Fun K x x st f fd → FnOk P w K mg base (CXN C P w) j f fd ps sp) (hj : j ≤ k)
    (hb : ∀ (kV doc pm : Value) (an : Option Addr) (cdv ct : Value) (us : List Value), us.length = ps.length → bindArgs (PySem.W.fnOf x x (defArgs st) (defBody st) (defScope st) .none kV doc pm an cdv ct) ⟨us, []⟩ = pure (ps.zip us)) : Ok P w K mg base C k x ps sp := by
  obtain ⟨f, fd, F, hm⟩ := D
  exact ⟨f, fd, (h f fd F).mono hj, hm, F.kp, F.binds hb⟩
theorem MethIn.ok {m q : Str} {st : Stmt} {ps : List Str} {j k : Nat} {sp : Sp} (D : MethIn K Cg m q st) (h : ∀ f fd, Fun K m q st f fd → FnOk P w K mg base (CXN C P w) j f fd ps sp) (hj : j ≤ k)
    (hb : ∀ (kV doc pm : Value) (an : Option Addr) (cdv ct : Value) (us : List Value), us.length = ps.length → bindArgs (PySem.W.fnOf m q (defArgs st) (defBody st) (defScope st) .none kV doc pm an cdv ct) ⟨us, []⟩ = pure (ps.zip us)) : MOk P w K mg base C Cg k m ps sp := by
  obtain ⟨f, fd, F, hm⟩ := D
  exact ⟨f, fd, (h f fd F).mono hj, hm, F.binds hb⟩
set_option maxHeartbeats 4000000 in
theorem whole (X : Facts K mg) {fa : Addr} (hfa : mg "answers" = some (.ref fa)) : ∃ (C : Addr) (fd : FuncData), (∀ (s : Shared) (u : Value), BindsTo s fd ⟨[u], []⟩ [("calls", u)]) ∧ ∀ base : Heap, FnOk P w K mg base (CXN C P w) 11 fa fd ["calls"] (spAnss K) := by
  obtain ⟨C, xc, hC⟩ := X.xc
  obtain ⟨Cg, hmG, T, mk, kc, mi, mh, mp, mb, mw, ms, mt, mg', mm⟩ := X.grid
  obtain ⟨f, fd, F, hm⟩ := X.anss
  have e := hfa.symm.trans hm
  cases e
  have hbind := F.binds (ps := ["calls"]) fun _ _ _ _ _ _ => b1 fun _ => rfl
  obtain ⟨fI, fdI, FI, mI⟩ := mi
  have bI := FI.binds (ps := ["self"]) fun _ _ _ _ _ _ => b1 fun _ => rfl
  refine ⟨C, fd, fun s u => ?_, fun base => ?_⟩
  · obtain ⟨oc, od, kV, doc, pm, an, cdv, ct, osl, rfl, lk, hcd⟩ := F.ex
    exact .of_eq rfl
  have oexp : Ok P w K mg base C 1 "exponent" ["x"] spExp := X.exp.ok (fun _ _ F => ok_exp F X.N) (Nat.le_refl _) fun _ _ _ _ _ _ => b1 fun _ => rfl
  have oman : Ok P w K mg base C 1 "mantissa" ["x"] spMan := X.man.ok (fun _ _ F => ok_man F X.N) (Nat.le_refl _) fun _ _ _ _ _ _ => b1 fun _ => rfl
  have ornd : Ok P w K mg base C 1 "rounded" ["sign", "whole", "power"] (spRnd C) := X.rnd.ok (fun _ _ F => ok_rnd F X.N xc hC) (Nat.le_refl _) fun _ _ _ _ _ _ => b3 fun _ _ _ => rfl
  have Bs : Base P w K mg base C := ⟨X.N, oexp, oman, ornd⟩
  have oopp : Ok P w K mg base C 1 "opposite" ["x"] spOpp := X.opp.ok (fun _ _ F => ok_opp F X.N) (Nat.le_refl _) fun _ _ _ _ _ _ => b1 fun _ => rfl
  have oadd : Ok P w K mg base C 2 "add" ["x", "y"] (sp2 C addN) := X.add.ok (fun _ _ F => ok_add F Bs) (Nat.le_refl _) fun _ _ _ _ _ _ => b2 fun _ _ => rfl
  have O : Ops P w K mg base C := ⟨X.N, oadd.mono (by decide), X.sub.ok (fun _ _ F => ok_sub F oadd oopp) (Nat.le_refl _) fun _ _ _ _ _ _ => b2 fun _ _ => rfl,
    X.mul.ok (fun _ _ F => ok_mul F Bs) (by decide) fun _ _ _ _ _ _ => b2 fun _ _ => rfl, X.div.ok (fun _ _ F => ok_div F Bs xc hC) (by decide) fun _ _ _ _ _ _ => b2 fun _ _ => rfl,
    oopp.mono (by decide), X.fin.ok (fun _ _ F => ok_fin F X.N) (by decide) fun _ _ _ _ _ _ => b1 fun _ => rfl⟩
  have ospd : Ok P w K mg base C 4 "speeds" ["ux", "uy"] (spSpd C) := X.spd.ok (fun _ _ F => ok_spd F O) (Nat.le_refl _) fun _ _ _ _ _ _ => b2 fun _ _ => rfl
  have oshr : Ok P w K mg base C 4 "share_at_rest" ["weight", "rho", "speed", "u"] (spShr C) := X.shr.ok (fun _ _ F => ok_shr F O) (Nat.le_refl _) fun _ _ _ _ _ _ => b4 fun _ _ _ _ => rfl
  have orest : Ok P w K mg base C 5 "shares_at_rest" ["rho", "ux", "uy"] (spRest C) := X.rest.ok (fun _ _ F => ok_rest F O X.B X.Wt ospd oshr) (Nat.le_refl _) fun _ _ _ _ _ _ => b3 fun _ _ _ => rfl
  have orgt : Ok P w K mg base C 4 "rightward" ["shares"] (spSum K C rightN) := X.rgt.ok (fun _ _ F => ok_rgt F O) (Nat.le_refl _) fun _ _ _ _ _ _ => b1 fun _ => rfl
  have odwn : Ok P w K mg base C 4 "downward" ["shares"] (spSum K C downN) := X.dwn.ok (fun _ _ F => ok_dwn F O) (Nat.le_refl _) fun _ _ _ _ _ _ => b1 fun _ => rfl
  have oflow : Ok P w K mg base C 5 "flow_of" ["shares"] (spFlow K C) := X.flow.ok (fun _ _ F => ok_flow F O orgt odwn) (Nat.le_refl _) fun _ _ _ _ _ _ => b1 fun _ => rfl
  have oec : Ok P w K mg base C 6 "eased_cell" ["shares", "omega"] (spEC K C) := X.ec.ok (fun _ _ F => ok_ec F O X.B oflow orest) (Nat.le_refl _) fun _ _ _ _ _ _ => b2 fun _ _ => rfl
  have oecs : Ok P w K mg base C 7 "eased_cells" ["cells", "walls", "omega"] (spECs C) := X.ecs.ok (fun _ _ F => ok_ecs F X.B oec) (Nat.le_refl _) fun _ _ _ _ _ _ => b3 fun _ _ _ => rfl
  have ocs : Ok P w K mg base C 1 "cell_sources" ["cols", "rows", "walls", "x", "y"] spCS := X.cs.ok (fun _ _ F => ok_cs F X.B X.Wy) (Nat.le_refl _) fun _ _ _ _ _ _ => b5 fun _ _ _ _ _ => rfl
  have oas : Ok P w K mg base C 2 "all_sources" ["cols", "rows", "walls"] spAS := X.as.ok (fun _ _ F => ok_as F X.B ocs) (Nat.le_refl _) fun _ _ _ _ _ _ => b3 fun _ _ _ => rfl
  have omc : Ok P w K mg base C 7 "moved_cells" ["cells", "sources"] spMC := X.mc.ok (fun _ _ F => ok_mc F X.B) (by decide) fun _ _ _ _ _ _ => b2 fun _ _ => rfl
  have obs : Ok P w K mg base C 8 "behind_steps" ["cells", "walls", "omega", "sources", "count"] (spBS C) := X.bs.ok (fun _ _ F => ok_bs F oecs omc) (Nat.le_refl _) fun _ _ _ _ _ _ => b5 fun _ _ _ _ _ => rfl
  have oside : Ok P w K mg base C 1 "is_side" ["count"] spSide := X.side.ok (fun _ _ F => ok_side F X.Nu) (Nat.le_refl _) fun _ _ _ _ _ _ => b1 fun _ => rfl
  have omass : Ok P w K mg base C 4 "mass_of" ["cells", "walls"] (spMass C) := X.mass.ok (fun _ _ F => ok_mass F O X.B) (Nat.le_refl _) fun _ _ _ _ _ _ => b2 fun _ _ => rfl
  have ohas : MOk P w K mg base C Cg 1 "has_cell" ["self", "x", "y"] (spHas Cg) := mh.ok (fun _ _ F => ok_has F T) (Nat.le_refl _) fun _ _ _ _ _ _ => b3 fun _ _ _ => rfl
  have oplace : MOk P w K mg base C Cg 1 "place" ["self", "x", "y"] (spPlace Cg) := mp.ok (fun _ _ F => ok_place F T) (Nat.le_refl _) fun _ _ _ _ _ _ => b3 fun _ _ _ => rfl
  have M : Meths P w K mg base C Cg := ⟨mb.ok (fun _ _ F => ok_begin F O X.Nu T oside orest) (by decide) fun _ _ _ _ _ _ => b4 fun _ _ _ _ => rfl,
    mw.ok (fun _ _ F => ok_wall F X.Nu T ohas oplace) (by decide) fun _ _ _ _ _ _ => b4 fun _ _ _ _ => rfl,
    ms.ok (fun _ _ F => ok_set F O X.Nu T xc hC orest ohas oplace) (by decide) fun _ _ _ _ _ _ => b6 fun _ _ _ _ _ _ => rfl,
    mt.ok (fun _ _ F => ok_step F X.Nu T xc hC oas obs) (by decide) fun _ _ _ _ _ _ => b2 fun _ _ => rfl,
    mg'.ok (fun _ _ F => ok_get F X.Nu T xc hC oflow ohas oplace) (by decide) fun _ _ _ _ _ _ => b3 fun _ _ _ => rfl,
    mm.ok (fun _ _ F => ok_ms F X.Nu T xc hC omass) (by decide) fun _ _ _ _ _ _ => b1 fun _ => rfl⟩
  have oans : Ok P w K mg base C 10 "answer" ["grid", "number", "given"] (spAns Cg) := X.ans.ok (fun _ _ F => ok_ans F X.Cd T M) (Nat.le_refl _) fun _ _ _ _ _ _ => b3 fun _ _ _ => rfl
  have kI : FnOk P w K mg base (CXN C P w) 9 fI fdI ["self"] (spInit Cg) := (ok_init FI X.N T).mono (by decide)
  exact ok_anss F X.B X.Gc ⟨mk, mI.at_, mI.fn, kc⟩ hmG kI bI oans
end
end Cf
open PySem PySem.W PyProof.Rows
set_option maxRecDepth 100000 in
set_option maxHeartbeats 0 in
theorem PySem.Challenge.cw_cellflow_s01_answers_holds : PySem.Challenge.rw_cellflow_s01_answers.Holds := by
  w_on; k_headS; (case hw => exact ⟨[.list [.int 0, .int 1, .int 1, .int 0]], by decide +kernel, by decide +kernel⟩)
  k_fillS
  refine Cf.walkS rfl (fun w h Y => PySem.W.kIn_of Y) ?F
  case F =>
    intro w mg fa h KX G hmg
    suffices X : Cf.Facts (L2.KOf KX) mg by
      obtain ⟨C, fd, h1, h2⟩ := Cf.whole (P := PySem.Challenge.pw_cellflow_s01_answers) (w := w) X hmg
      exact ⟨C, fd, h1, fun base _ _ => h2 base⟩
    dsimp only [L2.KOf]
    have hN : Cf.Ints mg := ⟨by (refine' Cf.int_mk KX G ?a; (case a => k_is)), by (refine' Cf.int_mk KX G ?a; (case a => k_is)), by (refine' Cf.int_mk KX G ?a; (case a => k_is)), by (refine' Cf.int_mk KX G ?a; (case a => k_is)), by (refine' Cf.int_mk KX G ?a; (case a => k_is)), by (refine' Cf.int_mk KX G ?a; (case a => k_is)), by (refine' Cf.int_mk KX G ?a; (case a => k_is)), by (refine' Cf.int_mk KX G ?a; (case a => k_is)), by (refine' Cf.int_mk KX G ?a; (case a => k_is)), by (refine' Cf.int_mk KX G ?a; (case a => k_is)), by (refine' Cf.int_mk KX G ?a; (case a => k_is)), by (refine' Cf.int_mk KX G ?a; (case a => k_is)), by (refine' Cf.int_mk KX G ?a; (case a => k_is))⟩
    have hNu : Cf.Nums mg := ⟨by (refine' Cf.int_mk KX G ?a; (case a => k_is)), by (refine' Cf.int_mk KX G ?a; (case a => k_is)), by (refine' Cf.int_mk KX G ?a; (case a => k_is)), by (refine' Cf.int_mk KX G ?a; (case a => k_is)), by (refine' Cf.int_mk KX G ?a; (case a => k_is)), by (refine' Cf.int_mk KX G ?a; (case a => k_is))⟩
    have hCd : Cf.Codes mg := ⟨by (refine' Cf.int_mk KX G ?a; (case a => k_is)), by (refine' Cf.int_mk KX G ?a; (case a => k_is)), by (refine' Cf.int_mk KX G ?a; (case a => k_is)), by (refine' Cf.int_mk KX G ?a; (case a => k_is)), by (refine' Cf.int_mk KX G ?a; (case a => k_is))⟩
    have hB : Cf.Bl mg := ⟨by (refine' PySem.W.mg_none_of KX G ?a; (case a => k_is)), by (refine' PySem.W.mg_none_of KX G ?a; (case a => k_is)), by (refine' PySem.W.mg_none_of KX G ?a; (case a => k_is)), by (refine' PySem.W.mg_none_of KX G ?a; (case a => k_is))⟩
    have hWt : Cf.GT (L2.KOf KX) mg "WEIGHTS" (Cf.weightsN.map Cf.nI) := by (dsimp only [L2.KOf]; refine' Cf.tup_mk KX G ?e ?l ?z ?v; (case e => k_is); (case l => k_is); (case z => exact (by decide)); (case v => exact (.cons ⟨_, rfl⟩ (.cons ⟨_, rfl⟩ (.cons ⟨_, rfl⟩ (.cons ⟨_, rfl⟩ (.cons ⟨_, rfl⟩ (.cons ⟨_, rfl⟩ (.cons ⟨_, rfl⟩ (.cons ⟨_, rfl⟩ (.cons ⟨_, rfl⟩ .nil)))))))))))
    have hWy : Cf.Ways (L2.KOf KX) mg := by
      dsimp only [L2.KOf]
      exact ⟨by (refine' Cf.int_mk KX G ?a; (case a => k_is)), by (refine' Cf.tup_mk KX G ?e ?l ?z ?v; (case e => k_is); (case l => k_is); (case z => exact (by decide)); (case v => exact (.cons ⟨_, rfl⟩ (.cons ⟨_, rfl⟩ (.cons ⟨_, rfl⟩ (.cons ⟨_, rfl⟩ (.cons ⟨_, rfl⟩ (.cons ⟨_, rfl⟩ (.cons ⟨_, rfl⟩ (.cons ⟨_, rfl⟩ (.cons ⟨_, rfl⟩ .nil))))))))))), by (refine' Cf.tup_mk KX G ?e ?l ?z ?v; (case e => k_is); (case l => k_is); (case z => exact (by decide)); (case v => exact (.cons ⟨_, rfl⟩ (.cons ⟨_, rfl⟩ (.cons ⟨_, rfl⟩ (.cons ⟨_, rfl⟩ (.cons ⟨_, rfl⟩ (.cons ⟨_, rfl⟩ (.cons ⟨_, rfl⟩ (.cons ⟨_, rfl⟩ (.cons ⟨_, rfl⟩ .nil))))))))))), by (refine' Cf.tup_mk KX G ?e ?l ?z ?v; (case e => k_is); (case l => k_is); (case z => exact (by decide)); (case v => exact (.cons ⟨_, rfl⟩ (.cons ⟨_, rfl⟩ (.cons ⟨_, rfl⟩ (.cons ⟨_, rfl⟩ (.cons ⟨_, rfl⟩ (.cons ⟨_, rfl⟩ (.cons ⟨_, rfl⟩ (.cons ⟨_, rfl⟩ (.cons ⟨_, rfl⟩ .nil)))))))))))⟩
    have hGc : Cf.GT (L2.KOf KX) mg "GIVEN_COUNTS" (Cf.countsL.map Cf.nI) := by (dsimp only [L2.KOf]; refine' Cf.tup_mk KX G ?e ?l ?z ?v; (case e => k_is); (case l => k_is); (case z => exact (by decide)); (case v => exact (.cons ⟨_, rfl⟩ (.cons ⟨_, rfl⟩ (.cons ⟨_, rfl⟩ (.cons ⟨_, rfl⟩ (.cons ⟨_, rfl⟩ (.cons ⟨_, rfl⟩ .nil))))))))
    have h_fin : Cf.DefIn (L2.KOf KX) mg "is_finite" Cf.sFin := by (dsimp only [L2.KOf]; refine' Cf.def_mk KX G ?a ?l ?c ?k; (case a => k_is); (case l => k_is); (case c => k_is); (case k => k_is))
    have h_exp : Cf.DefIn (L2.KOf KX) mg "exponent" Cf.sExp := by (dsimp only [L2.KOf]; refine' Cf.def_mk KX G ?a ?l ?c ?k; (case a => k_is); (case l => k_is); (case c => k_is); (case k => k_is))
    have h_man : Cf.DefIn (L2.KOf KX) mg "mantissa" Cf.sMan := by (dsimp only [L2.KOf]; refine' Cf.def_mk KX G ?a ?l ?c ?k; (case a => k_is); (case l => k_is); (case c => k_is); (case k => k_is))
    have h_rnd : Cf.DefIn (L2.KOf KX) mg "rounded" Cf.sRnd := by (dsimp only [L2.KOf]; refine' Cf.def_mk KX G ?a ?l ?c ?k; (case a => k_is); (case l => k_is); (case c => k_is); (case k => k_is))
    have h_opp : Cf.DefIn (L2.KOf KX) mg "opposite" Cf.sOpp := by (dsimp only [L2.KOf]; refine' Cf.def_mk KX G ?a ?l ?c ?k; (case a => k_is); (case l => k_is); (case c => k_is); (case k => k_is))
    have h_add : Cf.DefIn (L2.KOf KX) mg "add" Cf.sAdd := by (dsimp only [L2.KOf]; refine' Cf.def_mk KX G ?a ?l ?c ?k; (case a => k_is); (case l => k_is); (case c => k_is); (case k => k_is))
    have h_sub : Cf.DefIn (L2.KOf KX) mg "subtract" Cf.sSub := by (dsimp only [L2.KOf]; refine' Cf.def_mk KX G ?a ?l ?c ?k; (case a => k_is); (case l => k_is); (case c => k_is); (case k => k_is))
    have h_mul : Cf.DefIn (L2.KOf KX) mg "multiply" Cf.sMul := by (dsimp only [L2.KOf]; refine' Cf.def_mk KX G ?a ?l ?c ?k; (case a => k_is); (case l => k_is); (case c => k_is); (case k => k_is))
    have h_div : Cf.DefIn (L2.KOf KX) mg "divide" Cf.sDiv := by (dsimp only [L2.KOf]; refine' Cf.def_mk KX G ?a ?l ?c ?k; (case a => k_is); (case l => k_is); (case c => k_is); (case k => k_is))
    have h_spd : Cf.DefIn (L2.KOf KX) mg "speeds" Cf.sSpd := by (dsimp only [L2.KOf]; refine' Cf.def_mk KX G ?a ?l ?c ?k; (case a => k_is); (case l => k_is); (case c => k_is); (case k => k_is))
    have h_shr : Cf.DefIn (L2.KOf KX) mg "share_at_rest" Cf.sShr := by (dsimp only [L2.KOf]; refine' Cf.def_mk KX G ?a ?l ?c ?k; (case a => k_is); (case l => k_is); (case c => k_is); (case k => k_is))
    have h_rest : Cf.DefIn (L2.KOf KX) mg "shares_at_rest" Cf.sRest := by (dsimp only [L2.KOf]; refine' Cf.def_mk KX G ?a ?l ?c ?k; (case a => k_is); (case l => k_is); (case c => k_is); (case k => k_is))
    have h_rgt : Cf.DefIn (L2.KOf KX) mg "rightward" Cf.sRgt := by (dsimp only [L2.KOf]; refine' Cf.def_mk KX G ?a ?l ?c ?k; (case a => k_is); (case l => k_is); (case c => k_is); (case k => k_is))
    have h_dwn : Cf.DefIn (L2.KOf KX) mg "downward" Cf.sDwn := by (dsimp only [L2.KOf]; refine' Cf.def_mk KX G ?a ?l ?c ?k; (case a => k_is); (case l => k_is); (case c => k_is); (case k => k_is))
    have h_flow : Cf.DefIn (L2.KOf KX) mg "flow_of" Cf.sFlow := by (dsimp only [L2.KOf]; refine' Cf.def_mk KX G ?a ?l ?c ?k; (case a => k_is); (case l => k_is); (case c => k_is); (case k => k_is))
    have h_ec : Cf.DefIn (L2.KOf KX) mg "eased_cell" Cf.sEC := by (dsimp only [L2.KOf]; refine' Cf.def_mk KX G ?a ?l ?c ?k; (case a => k_is); (case l => k_is); (case c => k_is); (case k => k_is))
    have h_ecs : Cf.DefIn (L2.KOf KX) mg "eased_cells" Cf.sECs := by (dsimp only [L2.KOf]; refine' Cf.def_mk KX G ?a ?l ?c ?k; (case a => k_is); (case l => k_is); (case c => k_is); (case k => k_is))
    have h_cs : Cf.DefIn (L2.KOf KX) mg "cell_sources" Cf.sCS := by (dsimp only [L2.KOf]; refine' Cf.def_mk KX G ?a ?l ?c ?k; (case a => k_is); (case l => k_is); (case c => k_is); (case k => k_is))
    have h_as : Cf.DefIn (L2.KOf KX) mg "all_sources" Cf.sAS := by (dsimp only [L2.KOf]; refine' Cf.def_mk KX G ?a ?l ?c ?k; (case a => k_is); (case l => k_is); (case c => k_is); (case k => k_is))
    have h_mc : Cf.DefIn (L2.KOf KX) mg "moved_cells" Cf.sMC := by (dsimp only [L2.KOf]; refine' Cf.def_mk KX G ?a ?l ?c ?k; (case a => k_is); (case l => k_is); (case c => k_is); (case k => k_is))
    have h_bs : Cf.DefIn (L2.KOf KX) mg "behind_steps" Cf.sBS := by (dsimp only [L2.KOf]; refine' Cf.def_mk KX G ?a ?l ?c ?k; (case a => k_is); (case l => k_is); (case c => k_is); (case k => k_is))
    have h_side : Cf.DefIn (L2.KOf KX) mg "is_side" Cf.sSide := by (dsimp only [L2.KOf]; refine' Cf.def_mk KX G ?a ?l ?c ?k; (case a => k_is); (case l => k_is); (case c => k_is); (case k => k_is))
    have h_mass : Cf.DefIn (L2.KOf KX) mg "mass_of" Cf.sMass := by (dsimp only [L2.KOf]; refine' Cf.def_mk KX G ?a ?l ?c ?k; (case a => k_is); (case l => k_is); (case c => k_is); (case k => k_is))
    have h_ans : Cf.DefIn (L2.KOf KX) mg "answer" Cf.sAns := by (dsimp only [L2.KOf]; refine' Cf.def_mk KX G ?a ?l ?c ?k; (case a => k_is); (case l => k_is); (case c => k_is); (case k => k_is))
    have h_anss : Cf.DefIn (L2.KOf KX) mg "answers" Cf.sAnss := by (dsimp only [L2.KOf]; refine' Cf.def_mk KX G ?a ?l ?c ?k; (case a => k_is); (case l => k_is); (case c => k_is); (case k => k_is))
    refine' ⟨hN, hB, hNu, hCd, hWt, hWy, hGc, h_fin, h_exp, h_man, h_rnd, h_opp, h_add, h_sub, h_mul, h_div, h_spd, h_shr, h_rest, h_rgt, h_dwn, h_flow, h_ec, h_ecs, h_cs, h_as, h_mc, h_bs, h_side, h_mass, h_ans, h_anss, ?xc, ?gr⟩
    (case xc => refine' Cf.xc_mk KX G ?e ?l ?o ?n; (case e => k_is); (case l => k_is); (case o => kernel_rfl); (case n => k_is))
    (case gr =>
      refine' ⟨_, PySem.W.mg_of KX G ?e, ⟨⟨?pg, ?hd, ?po, ?sa⟩, ?nC, ?nR, ?nO, ?nW, ?nS⟩, ?mk, ?kc, ?m0, ?m1, ?m2, ?m3, ?m4, ?m5, ?m6, ?m7, ?m8⟩
      (case e => k_is)
      (case pg => k_is)
      (case hd => k_is)
      (case po => k_is)
      (case sa => k_is)
      (case nC => unfold L2.NoAttr; k_is)
      (case nR => unfold L2.NoAttr; k_is)
      (case nO => unfold L2.NoAttr; k_is)
      (case nW => unfold L2.NoAttr; k_is)
      (case nS => unfold L2.NoAttr; k_is)
      (case mk => k_is)
      (case kc => k_is)
      (case m0 => refine' Cf.meth_mk ?a ?i ?l ?c ?k; (case a => k_is); (case i => k_is); (case l => k_is); (case c => k_is); (case k => k_is))
      (case m1 => refine' Cf.meth_mk ?a ?i ?l ?c ?k; (case a => k_is); (case i => k_is); (case l => k_is); (case c => k_is); (case k => k_is))
      (case m2 => refine' Cf.meth_mk ?a ?i ?l ?c ?k; (case a => k_is); (case i => k_is); (case l => k_is); (case c => k_is); (case k => k_is))
      (case m3 => refine' Cf.meth_mk ?a ?i ?l ?c ?k; (case a => k_is); (case i => k_is); (case l => k_is); (case c => k_is); (case k => k_is))
      (case m4 => refine' Cf.meth_mk ?a ?i ?l ?c ?k; (case a => k_is); (case i => k_is); (case l => k_is); (case c => k_is); (case k => k_is))
      (case m5 => refine' Cf.meth_mk ?a ?i ?l ?c ?k; (case a => k_is); (case i => k_is); (case l => k_is); (case c => k_is); (case k => k_is))
      (case m6 => refine' Cf.meth_mk ?a ?i ?l ?c ?k; (case a => k_is); (case i => k_is); (case l => k_is); (case c => k_is); (case k => k_is))
      (case m7 => refine' Cf.meth_mk ?a ?i ?l ?c ?k; (case a => k_is); (case i => k_is); (case l => k_is); (case c => k_is); (case k => k_is))
      (case m8 => refine' Cf.meth_mk ?a ?i ?l ?c ?k; (case a => k_is); (case i => k_is); (case l => k_is); (case c => k_is); (case k => k_is)))
