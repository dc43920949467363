import PyProof.Rows.All
import Wide.All
import OpenK.AllK
import Wide.FinOn
import PyProof.EqAt
import PyProof.EqKinds
import PyProof.TupleCall
import KE.BitLaws
import Open.SpecLaws
import KE.OsHead
import KE.OsGo
import PySem.Challenge.RW_inkpaper_s07_tell
set_option Elab.async false
set_option genSizeOf false
set_option linter.all false
set_option maxRecDepth 100000
set_option maxHeartbeats 4000000
set_option Elab.async false
set_option genSizeOf false
set_option linter.all false
set_option maxRecDepth 100000
namespace L2
open PySem PySem.Spec PyProof.Rows
noncomputable abbrev Key := Sum Int Str
noncomputable def keyIs : Key → Value → Bool
  | .inl k, v => Value.isInt k v
  | .inr x, v => Value.isStrOf x v
noncomputable def keyH (w : World) : Key → Int
  | .inl k => hashInt k
  | .inr x => hashStr w x
theorem keyIs_shape : ∀ {k : Key} {v : Value}, keyIs k v = true → (∃ i t, k = Sum.inl i ∧ v = Value.int i t) ∨ (∃ x t, k = Sum.inr x ∧ v = Value.str x t)
  | .inl i, v, h => by
    obtain ⟨t, e⟩ := Value.isInt_shape (k := i) (v := v) h
    exact .inl ⟨i, t, rfl, e⟩
  | .inr x, v, h => by
    obtain ⟨t, e⟩ := Value.isStrOf_shape (x := x) (v := v) h
    exact .inr ⟨x, t, rfl, e⟩
theorem key_ll (a b : Int) : decide ((Sum.inl a : Key) = Sum.inl b) = (a == b) := by
  by_cases e : a = b
  · subst e; simp
  · have h : ¬ (Sum.inl a : Key) = Sum.inl b := fun q => e (Sum.inl.inj q)
    rw [decide_eq_false h]
    exact (beq_eq_false_iff_ne.mpr e).symm
theorem key_rr (a b : Str) : decide ((Sum.inr a : Key) = Sum.inr b) = decide (a = b) := by
  by_cases e : a = b
  · subst e; simp
  · have h : ¬ (Sum.inr a : Key) = Sum.inr b := fun q => e (Sum.inr.inj q)
    rw [decide_eq_false h, decide_eq_false e]
theorem key_lr (a : Int) (b : Str) : decide ((Sum.inl a : Key) = Sum.inr b) = false := decide_eq_false (fun q => nomatch q)
theorem key_rl (a : Str) (b : Int) : decide ((Sum.inr a : Key) = Sum.inl b) = false := decide_eq_false (fun q => nomatch q)
noncomputable def mixKind (prog : Program) (w : World) : PySem.KeyKind prog w Key where
  is := keyIs
  hash := keyH w
  inj := fun v a b ha hb => by
    rcases keyIs_shape ha with ⟨i, t, rfl, rfl⟩ | ⟨x, t, rfl, rfl⟩
    · rcases keyIs_shape hb with ⟨j, u, rfl, e⟩ | ⟨y, u, rfl, e⟩
      · injection e with e1 _; rw [e1]
      · exact nomatch e
    · rcases keyIs_shape hb with ⟨j, u, rfl, e⟩ | ⟨y, u, rfl, e⟩
      · exact nomatch e
      · injection e with e1 _; rw [e1]
  byValue := fun k v h => by
    rcases keyIs_shape h with ⟨i, t, rfl, rfl⟩ | ⟨x, t, rfl, rfl⟩ <;> rfl
  pyHash := fun hv h => by
    rcases keyIs_shape hv with ⟨i, t, rfl, rfl⟩ | ⟨x, t, rfl, rfl⟩
    · exact wpAny_pyHash_int h
    · exact wpAny_pyHash_str h
  eqBool := fun hu hv h => by
    rcases keyIs_shape hu with ⟨i, t, rfl, rfl⟩ | ⟨x, t, rfl, rfl⟩
    · rcases keyIs_shape hv with ⟨j, u, rfl, rfl⟩ | ⟨y, u, rfl, rfl⟩
      · rw [key_ll] at h; exact wpAny_eqBool_int h
      · rw [key_lr] at h; exact SeqAt.EqAt.int_str i t y u _ _ _ _ h
    · rcases keyIs_shape hv with ⟨j, u, rfl, rfl⟩ | ⟨y, u, rfl, rfl⟩
      · rw [key_rl] at h; exact SeqAt.EqAt.str_int x t j u _ _ _ _ h
      · rw [key_rr] at h; exact wpAny_eqBool_str h
  «strs» := fun k x t v h => by
    rcases keyIs_shape h with ⟨i, u, rfl, e⟩ | ⟨y, u, rfl, e⟩
    · exact nomatch e
    · injection e with e1 _
      subst e1
      cases v <;> rfl
end L2
namespace L2
open PySem PySem.Spec PyProof.Rows
inductive V where
  | non | bl (b : Bool) | int (i : Int) | str (x : Str) | byt (b : Array UInt8) | flt (b : UInt64) | ref (a : Addr) | ty (n : String)
  deriving DecidableEq
noncomputable def RelV : V → Value → Prop
  | .non, u => u = Value.none
  | .bl b, u => u = Value.bool b
  | .int i, u => ∃ t, u = Value.int i t
  | .str x, u => ∃ t, u = Value.str x t
  | .byt b, u => ∃ t, u = Value.bytes b t
  | .flt b, u => ∃ t, u = Value.float b t
  | .ref a, u => u = Value.ref a
  | .ty n, u => u = Value.type n
noncomputable abbrev Vals : List V → List Value → Prop := Paired RelV
theorem Vals.length {xs : List V} {us : List Value} (r : Vals xs us) : xs.length = us.length := Paired.length r
theorem Vals.get : ∀ {xs : List V} {us : List Value} {i : Nat} {x : V}, Vals xs us → xs[i]? = some x → ∃ u, us[i]? = some u ∧ RelV x u
  | _, _, _, _, .nil, e => by simp at e
  | _, _, 0, _, .cons r _, e => by simp at e; subst e; exact ⟨_, rfl, r⟩
  | _, _, i + 1, x, .cons _ t, e => by
    obtain ⟨u, h1, h2⟩ := Vals.get (i := i) (x := x) t (by simpa using e)
    exact ⟨u, by simpa using h1, h2⟩
theorem Vals.append : ∀ {xs ys : List V} {us ws : List Value}, Vals xs us → Vals ys ws → Vals (xs ++ ys) (us ++ ws)
  | _, _, _, _, .nil, s => s
  | _, _, _, _, .cons r t, s => .cons r (Vals.append t s)
theorem Vals.take : ∀ {xs : List V} {us : List Value} (n : Nat), Vals xs us → Vals (xs.take n) (us.take n)
  | _, _, 0, _ => .nil
  | _, _, _ + 1, .nil => .nil
  | _, _, n + 1, .cons r t => .cons r (Vals.take n t)
theorem Vals.drop : ∀ {xs : List V} {us : List Value} (n : Nat), Vals xs us → Vals (xs.drop n) (us.drop n)
  | _, _, 0, r => r
  | _, _, _ + 1, .nil => .nil
  | _, _, n + 1, .cons _ t => Vals.drop n t
noncomputable def RelO : Option V → Option Value → Prop
  | some v, some u => RelV v u
  | none, none => True
  | _, _ => False
noncomputable def KV {κ : Type} : List (κ × V) → List (κ × Value) → Prop := Paired fun (p : κ × V) (q : κ × Value) => p.1 = q.1 ∧ RelV p.2 q.2
noncomputable def kV : Key → V
  | .inl i => .int i
  | .inr x => .str x
inductive HO where
  /-- a list -/
  | lst (xs : List V)
  /-- a tuple (never changes) -/
  | tup (xs : List V)
  /-- a dict whose keys are ints and texts; one whose keys are tuples of ints and texts (the empty one is both) -/
  | dK (kvs : List (Key × V)) | dT (kvs : List (List Key × V))
  /-- a set of ints: its members, its size -/
  | set (S : Int → Bool) (n : Nat)
  /-- an instance of the class at C, its dict at dx, its attributes -/
  | ins (C dx : Addr) (fs : List (Str × V))
  /-- the dict of the instance at x -/
  | own (x : Addr)
  /-- the dict of an exception -/
  | xd (fs : List (Str × V))
  /-- a bound method, f of x -/
  | met (f x : Addr)
  /-- a range object lo, lo + 1, .. below hi -/
  | rng (lo hi : Int)
  /-- a thing that is known to the object (the script; a dict while a loop walks it): read, never written while it is so -/
  | frz (o : Obj) (u : HO)
  /-- a code object's table -/
  | tbl (ps : Array Value)
  /-- any other thing, by what is true of its one object (a def of one's own: SetO a S n := HO.ext fun h => ..) -/
  | ext (φ : Heap → Prop)
noncomputable abbrev Hp := Addr → Option HO
noncomputable def upd (H : Hp) (a : Addr) (o : HO) : Hp := fun b => if b = a then some o else H b
theorem upd_same {H : Hp} {a : Addr} {o : HO} : upd H a o a = some o := by unfold upd; rw [if_pos rfl]
theorem upd_ne {H : Hp} {a b : Addr} {o : HO} (h : b ≠ a) : upd H a o b = H b := by unfold upd; rw [if_neg h]
theorem ne_of {H : Hp} {a b : Addr} {o u : HO} (h : H a = some o) (h' : H b = some u) (d : o ≠ u) : a ≠ b := by
  intro e; subst e; rw [h] at h'; exact d (Option.some.inj h')
theorem ne_of_none {H : Hp} {a b : Addr} {o : HO} (h : H a = some o) (h' : H b = none) : a ≠ b := by
  intro e; subst e; rw [h] at h'; cases h'
section
variable (P : Program) (w : World)
noncomputable def ObjOk (H : Hp) (h : Heap) (a : Addr) : HO → Prop
  | .lst xs => xs.length ≤ sizeLine ∧ ∃ (its : List Value) (n : Nat), Vals xs its ∧ h.get? a = some { cls := .type "list", data := .seq its.toArray n }
  | .tup xs => xs.length ≤ sizeLine ∧ ∃ its : List Value, Vals xs its ∧ IsTup h a its.toArray
  | .dK kvs => kvs.length ≤ sizeLine ∧ (a == sysModules) = false ∧ ∃ vs, KV kvs vs ∧ h.DictOf (mixKind P w) a vs
  | .dT kvs => kvs.length ≤ sizeLine ∧ (a == sysModules) = false ∧ ∃ xs : List (List Key × Addr × Value),
      Paired (fun (p : List Key × V) (q : List Key × Addr × Value) => p.1 = q.1 ∧ H q.2.1 = some (.tup (p.1.map kV)) ∧ RelV p.2 q.2.2) kvs xs ∧
      ∃ o es ep, h.get? a = some o ∧ o.ExactDict ∧ o.data = .dict es ep ∧ es.toList = xs.map (entryOfKey (tupleKind (mixKind P w))) ∧ (xs.map (·.1)).Nodup
  | .set S n => h.SetOf (intKind P w) a S n
  | .ins C dx fs => H dx = some (.own a) ∧ fs.length ≤ 1000 ∧ dx ≠ a ∧ h.get? a = some (PySem.W.instObj C dx) ∧
      ∃ mA, h.Ns1 dx mA ∧ (∀ f, RelO (fs.lookup f) (mA f)) ∧ PySem.Within mA (fs.map (·.1))
  | .own _ => ∃ o, h.get? a = some o
  | .xd fs => ∃ mA, h.Ns1 a mA ∧ ∀ f, RelO (fs.lookup f) (mA f)
  | .rng lo hi => ∃ t u v, h.get? a = some { cls := .type "range", data := .fields #[.int lo t, .int hi u, .int 1 v] }
  | .frz o u => h.get? a = some o ∧ ObjOk H h a u
  | .tbl ps => h.get? a = some { cls := .none, data := .fields ps }
  | .met f x => h.get? a = some (PySem.W.methodObj (.ref f) (.ref x))
  | .ext φ => φ h ∧ (∃ o, h.get? a = some o) ∧ ∀ h1 h2 : Heap, φ h1 → (∀ o, h1.get? a = some o → h2.get? a = some o) → φ h2
noncomputable def HOk (H : Hp) (h : Heap) : Prop := ∀ a o, H a = some o → ObjOk P w H h a o
end
section
variable {P : Program} {w : World} {H H' : Hp} {h h' : Heap} {a : Addr} {o : HO}
theorem ObjOk.lt (x : ObjOk P w H h a o) : a < h.objs.size := by
  cases o with
  | lst xs => obtain ⟨_, _, _, _, e⟩ := x; exact Heap.lt_size e
  | tup xs => obtain ⟨_, _, _, p⟩ := x; exact p.lt
  | dK kvs => obtain ⟨_, _, _, _, o, _, _, e, _⟩ := x; exact Heap.lt_size e
  | dT kvs => obtain ⟨_, _, _, _, o, _, _, e, _⟩ := x; exact Heap.lt_size e
  | set S n => obtain ⟨o, _, _, _, e, _⟩ := x; exact Heap.lt_size e
  | ins C dx fs => obtain ⟨_, _, _, e, _⟩ := x; exact Heap.lt_size e
  | own y => obtain ⟨_, e⟩ := x; exact Heap.lt_size e
  | xd fs => obtain ⟨_, ⟨_, _, _, e, _⟩, _⟩ := x; exact Heap.lt_size e
  | rng lo hi => obtain ⟨_, _, _, e⟩ := x; exact Heap.lt_size e
  | frz ob u => obtain ⟨e, _⟩ := x; exact Heap.lt_size e
  | tbl ps => exact Heap.lt_size (show h.get? a = some _ from x)
  | met f y => exact Heap.lt_size (show h.get? a = some _ from x)
  | ext φ => obtain ⟨_, ⟨_, e⟩, _⟩ := x; exact Heap.lt_size e
theorem Paired.mapP {α β : Type} {F G : α → β → Prop} : ∀ {l₁ : List α} {l₂ : List β}, Paired F l₁ l₂ → (∀ a b, F a b → G a b) → Paired G l₁ l₂
  | _, _, .nil, _ => .nil
  | _, _, .cons r t, f => .cons (f _ _ r) (Paired.mapP t f)
theorem ObjOk.stay (x : ObjOk P w H h a o) (k : ∀ b u, (b = a ∨ H b = some (.own a)) → h.get? b = some u → h'.get? b = some u)
    (ho : ∀ b, H b = some (.own a) → H' b = some (.own a)) (ht : ∀ b xs, H b = some (.tup xs) → H' b = some (.tup xs)) : ObjOk P w H' h' a o := by
  induction o with
  | lst xs => obtain ⟨z, its, n, r, e⟩ := x; exact ⟨z, its, n, r, k _ _ (.inl rfl) e⟩
  | tup xs => obtain ⟨z, its, r, ob, e, c⟩ := x; exact ⟨z, its, r, ob, k _ _ (.inl rfl) e, c⟩
  | dK kvs => obtain ⟨z, y, vs, r, ob, es, ep, e, c⟩ := x; exact ⟨z, y, vs, r, ob, es, ep, k _ _ (.inl rfl) e, c⟩
  | dT kvs =>
    obtain ⟨z, y, xs, r, ob, es, ep, e, c⟩ := x
    exact ⟨z, y, xs, Paired.mapP r fun p q z => ⟨z.1, ht _ _ z.2.1, z.2.2⟩, ob, es, ep, k _ _ (.inl rfl) e, c⟩
  | set S n => obtain ⟨ob, es, ep, t, e, c⟩ := x; exact ⟨ob, es, ep, t, k _ _ (.inl rfl) e, c⟩
  | ins C dx fs =>
    obtain ⟨d, z, ne, e, mA, ⟨od, es, ep, e2, c⟩, r⟩ := x
    exact ⟨ho _ d, z, ne, k _ _ (.inl rfl) e, mA, ⟨od, es, ep, k _ _ (.inr d) e2, c⟩, r⟩
  | own y => obtain ⟨ob, e⟩ := x; exact ⟨ob, k _ _ (.inl rfl) e⟩
  | xd fs => obtain ⟨mA, ⟨od, es, ep, e, c⟩, r⟩ := x; exact ⟨mA, ⟨od, es, ep, k _ _ (.inl rfl) e, c⟩, r⟩
  | rng lo hi => obtain ⟨t, u, v, e⟩ := x; exact ⟨t, u, v, k _ _ (.inl rfl) e⟩
  | frz ob u ih => obtain ⟨e, q⟩ := x; exact ⟨k _ _ (.inl rfl) e, ih q⟩
  | tbl ps =>
    have e : h.get? a = some { cls := .none, data := .fields ps } := x
    show h'.get? a = some { cls := .none, data := .fields ps }
    exact k a _ (.inl rfl) e
  | met f y =>
    have e : h.get? a = some (PySem.W.methodObj (.ref f) (.ref y)) := x
    show h'.get? a = some (PySem.W.methodObj (.ref f) (.ref y))
    exact k a _ (.inl rfl) e
  | ext φ => obtain ⟨p, ⟨o, e⟩, st⟩ := x; exact ⟨st _ _ p fun o q => k _ _ (.inl rfl) q, ⟨o, k _ _ (.inl rfl) e⟩, st⟩
theorem HOk.lt (x : HOk P w H h) (e : H a = some o) : a < h.objs.size := (x a o e).lt
theorem HOk.fresh (x : HOk P w H h) (e : h.objs.size ≤ a) : H a = none := by
  cases q : H a with
  | none => rfl
  | some u => exact absurd (Nat.lt_of_lt_of_le (x.lt q) e) (Nat.lt_irrefl _)
theorem HOk.kept (x : HOk P w H h) (k : ∀ b u, h.get? b = some u → h'.get? b = some u) : HOk P w H h' := fun a o e =>
  (x a o e).stay (fun b u _ q => k b u q) (fun _ q => q) fun _ _ q => q
theorem HOk.laid (x : HOk P w H h) (k : ∀ b u, h.get? b = some u → h'.get? b = some u) (hp : h.objs.size ≤ a) (new : ObjOk P w (upd H a o) h' a o) : HOk P w (upd H a o) h' := fun b u e => by
  have hn := x.fresh hp
  by_cases hb : b = a
  · subst hb; rw [upd_same] at e; cases e; exact new
  · rw [upd_ne hb] at e
    exact (x b u e).stay (fun c v _ q => k c v q) (fun c q => by rw [upd_ne (ne_of_none q hn)]; exact q) fun c xs q => by rw [upd_ne (ne_of_none q hn)]; exact q
end
noncomputable def Rd (H : Hp) (a : Addr) (u : HO) : Prop := H a = some u ∨ ∃ o, H a = some (.frz o u)
theorem Rd.ok {P : Program} {w : World} {H : Hp} {h : Heap} {a : Addr} {u : HO} (r : Rd H a u) (x : HOk P w H h) : ObjOk P w H h a u := by
  rcases r with r | ⟨o, r⟩
  · exact x a u r
  · obtain ⟨_, q⟩ := x a _ r
    exact q
noncomputable def Mut : Option HO → Prop
  | some (.lst _) => True
  | some (.dK _) => True
  | some (.dT _) => True
  | some (.set _ _) => True
  | some (.ins _ _ _) => True
  | some (.ext _) => True
  | _ => False
section
variable {P : Program} {w : World} {H : Hp} {h h' : Heap} {x e : Addr} {o' : HO}
theorem HOk.write (ok : HOk P w H h) (mu : Mut (H x)) (he : e = x ∨ H e = some (.own x)) (k : ∀ b u, b ≠ e → h.get? b = some u → h'.get? b = some u) (heo : ∃ u, h'.get? e = some u)
    (new : ObjOk P w (upd H x o') h' x o') : HOk P w (upd H x o') h' := fun b u q => by
  have nown : ∀ c y, H c = some (.own y) → c ≠ x := fun c y r z => by subst z; rw [r] at mu; exact mu
  have ntup : ∀ c xs, H c = some (.tup xs) → c ≠ x := fun c xs r z => by subst z; rw [r] at mu; exact mu
  by_cases hb : b = x
  · subst hb; rw [upd_same] at q; cases q; exact new
  · rw [upd_ne hb] at q
    by_cases hbe : b = e
    · have q' : H b = some (.own x) := by
        rcases he with z | z
        · exact absurd (hbe.trans z) hb
        · rw [hbe]; exact z
      rw [q] at q'; cases q'
      obtain ⟨v, hv⟩ := heo
      exact ⟨v, by rw [hbe]; exact hv⟩
    · refine (ok b u q).stay (fun c v hc r => k c v ?_ r) (fun c r => by rw [upd_ne (nown c b r)]; exact r) fun c xs r => by rw [upd_ne (ntup c xs r)]; exact r
      rcases hc with rfl | hc
      · exact hbe
      · rintro rfl
        rcases he with z | z
        · exact nown c b hc z
        · rw [hc] at z; cases z; exact hb rfl
end
structure Un (fs ex : List Addr) (H H' : Hp) (h h' : Heap) : Prop where
  keep : ∀ b o, h.get? b = some o → H b = none → b ∉ fs → b ∉ ex → h'.get? b = some o
  slot : ∀ b o, h.get? b = some o → H b = none → b ∈ fs → b ∉ ex → ∃ sl, h'.get? b = some { o with slots := sl }
  free : ∀ b o, h.get? b = some o → H b = none → b ∉ ex → H' b = none
  there : ∀ b o, h.get? b = some o → b ∉ ex → ∃ o', h'.get? b = some o'
  tups : ∀ b xs, H b = some (.tup xs) → H' b = some (.tup xs)
  frzs : ∀ b o u, H b = some (.frz o u) → H' b = some (.frz o u)
  tbls : ∀ b ps, H b = some (.tbl ps) → ∃ more, H' b = some (.tbl (ps ++ more))
section
variable {fs fs' ex ex' : List Addr} {H H1 H2 : Hp} {h h1 h2 h' : Heap} {a x e : Addr} {o : HO}
theorem Un.any (u : Un fs ex H H1 h h1) {b : Addr} {ob : Obj} (q : h.get? b = some ob) (n : H b = none) (hx : b ∉ ex) : ∃ sl, h1.get? b = some { ob with slots := sl } := by
  by_cases hb : b ∈ fs
  · exact u.slot b ob q n hb hx
  · exact ⟨ob.slots, u.keep b ob q n hb hx⟩
theorem Un.kept (k : ∀ b u, h.get? b = some u → h'.get? b = some u) : Un fs ex H H h h' :=
  ⟨fun b ob q _ _ _ => k b ob q, fun b ob q _ _ _ => ⟨ob.slots, k b ob q⟩, fun _ _ _ n _ => n, fun b ob q _ => ⟨ob, k b ob q⟩, fun _ _ q => q, fun _ _ _ q => q, fun _ ps q => ⟨#[], by rw [q]; simp⟩⟩
theorem Un.refl : Un fs ex H H h h := Un.kept fun _ _ q => q
theorem Un.laid (k : ∀ b u, h.get? b = some u → h'.get? b = some u) (hp : h.objs.size ≤ a) (hn : H a = none) : Un fs ex H (upd H a o) h h' where
  keep := fun b u q _ _ _ => k b u q
  slot := fun b u q _ _ _ => ⟨u.slots, k b u q⟩
  free := fun b u q n _ => by rw [upd_ne (Nat.ne_of_lt (Nat.lt_of_lt_of_le (Heap.lt_size q) hp))]; exact n
  there := fun b u q _ => ⟨u, k b u q⟩
  tups := fun b xs q => by rw [upd_ne (ne_of_none q hn)]; exact q
  frzs := fun b u xs q => by rw [upd_ne (ne_of_none q hn)]; exact q
  tbls := fun b ps q => ⟨#[], by rw [upd_ne (ne_of_none q hn), q]; simp⟩
theorem Un.write (mu : Mut (H x)) (he : e = x ∨ H e = some (.own x)) (k : ∀ b u, b ≠ e → h.get? b = some u → h'.get? b = some u) (heo : ∃ u, h'.get? e = some u) : Un fs ex H (upd H x o) h h' := by
  have hx : ∀ b, H b = none → b ≠ x := fun b n z => by subst z; rw [n] at mu; exact mu
  have hb : ∀ b, H b = none → b ≠ e := fun b n z => by
    subst z
    rcases he with r | r
    · exact hx b n r
    · rw [n] at r; cases r
  have hm : ∀ b u, H b = some u → ¬ Mut (some u) → b ≠ x := fun b u q nm z => by subst z; rw [q] at mu; exact nm mu
  refine ⟨fun b u q n _ _ => k b u (hb b n) q, fun b u q n _ _ => ⟨u.slots, k b u (hb b n) q⟩, fun b u q n _ => by rw [upd_ne (hx b n)]; exact n, fun b u q _ => ?_,
    fun b xs q => by rw [upd_ne (hm b _ q fun z => z)]; exact q, fun b u xs q => by rw [upd_ne (hm b _ q fun z => z)]; exact q, fun b ps q => ⟨#[], by rw [upd_ne (hm b _ q fun z => z), q]; simp⟩⟩
  by_cases hbe : b = e
  · subst hbe; exact heo
  · exact ⟨u, k b u hbe q⟩
end
noncomputable def trk (h : Heap) (H : Hp) : List Addr := (List.range h.objs.size).filter fun a => (H a).isSome
noncomputable def hidT (h : Heap) (H : Hp) : Heap := PySem.W.hideAll h (trk h H)
theorem hidT_size (h : Heap) (H : Hp) : (hidT h H).objs.size = h.objs.size := PySem.W.hideAll_size _ _
theorem hidT_get {h : Heap} {H : Hp} {b : Addr} {o : Obj} (e : h.get? b = some o) (n : H b = none) : (hidT h H).get? b = some o :=
  PySem.W.hideAll_get _ e fun hm => by
    have q : (H b).isSome = true := (List.mem_filter.mp hm).2
    rw [n] at q; simp at q
theorem of_hidT {h : Heap} {H : Hp} {b : Addr} {o : Obj} (e : (hidT h H).get? b = some o) : h.get? b = some o ∧ H b = none := by
  have e' : h.get? b = some o := PySem.W.of_hideAll (trk h H) e
  refine ⟨e', ?_⟩
  cases q : H b with
  | none => rfl
  | some x =>
    have hm : b ∈ trk h H := List.mem_filter.mpr ⟨List.mem_range.mpr (Heap.lt_size e'), by simp [q]⟩
    have z : (hidT h H).get? b = none := PySem.W.hideAll_none (trk h H) hm
    rw [z] at e; cases e
end L2
namespace L2
open PySem PySem.Spec PyProof.Rows
structure Mod (K : PySem.W.Frag) (mg : Str → Option Value) (base : Heap) : Prop where
  kin : K.In base
  glob : base.Ns mainGlobals mg
  blt : ∃ mb, base.Ns builtinsNs mb ∧ ∀ x : Str, x ≠ "__name__" → mb x = bootBuiltins x
  nolimit : base.NoLimit
/-- the context: a def's body (or a comprehension's block) running. base: fixed through the whole law; s₀, H₀: the entry; outer: the frames whose slots others may change (a def's callers); stack: all frames that run;
   ex: iterators that were made ahead of the entry and are walked here (a comprehension's); fn: the names whose cells were made at the entry (a def: all; a comprehension's block: its own); calm: not within an except suite; pn: pins that every state bears; xe: what is wanted of an exception that leaves the code -/
structure Cx where
  prog : Program
  w : World
  K : PySem.W.Frag
  mg : Str → Option Value
  base : Heap
  A : Around
  N : List Str
  s_0 : Shared
  H_0 : Hp
  env : Env
  outer : List Env
  stack : List Env
  ex : List Addr
  fn : Str → Bool
  calm : Bool
  pn : List (Addr × Obj)
  xe : Value → Shared → Prop
noncomputable def frs (l : List Env) : List Addr := l.filterMap (·.frame)
noncomputable abbrev Cx.fs (X : Cx) : List Addr := frs X.outer
noncomputable def Vis (sc : Scope) (x : Str) : Prop := sc.names.lookup x = some .local ∨ sc.names.lookup x = some .cell ∨ sc.names.lookup x = some .free
noncomputable def Loc (sc : Scope) (x : Str) : Prop := sc.names.lookup x = some .local ∨ sc.names.lookup x = some .cell
noncomputable def Look (env : Env) (h : Heap) (m : Str → Option Value) (x : Str) (u : Value) : Prop :=
  (env.kindOf x = some .local ∧ m x = some u) ∨ ((env.kindOf x = some .cell ∨ env.kindOf x = some .free) ∧ ∃ c, env.cells.lookup x = some c ∧ h.IsCell c (some u))
structure Cx.Ok (X : Cx) : Prop where
  mod : Mod X.K X.mg X.base
  kind : X.env.scope.kind = .function
  glob : X.env.globals = mainGlobals
  blt : X.env.builtins = builtinsNs
  above : X.s_0.heap.objs.size ≤ X.env.locals
  inj : ∀ x y c, X.env.cells.lookup x = some c → X.env.cells.lookup y = some c → x = y
  has : ∀ x, (X.env.kindOf x = some .cell ∨ X.env.kindOf x = some .free) → ∃ c, X.env.cells.lookup x = some c
  cab : ∀ x c, X.fn x = true → X.env.cells.lookup x = some c → X.s_0.heap.objs.size ≤ c
  hd : X.calm = true → X.A.handled = none
  frames : X.A.frames = some X.stack
  stk : X.stack = X.outer ∨ (X.stack = X.env :: X.outer ∧ X.env.frame = some X.env.locals)
  exf : ∀ b ∈ X.ex, b ≠ X.env.locals ∧ ∀ x c, X.env.cells.lookup x = some c → c ≠ b
  bs : ∀ b o, X.base.get? b = some o → X.s_0.heap.get? b = some o ∧ X.H_0 b = none
  bsz : X.base.objs.size ≤ X.s_0.heap.objs.size
  noex : ∀ b o, X.base.get? b = some o → b ∉ X.ex
  exfs : ∀ b ∈ X.ex, b ∉ X.fs
  funs : X.s_0.heap.FunFrames X.base X.outer
  frf : ∀ b ∈ X.fs, X.H_0 b = none
structure Inv (X : Cx) (pins : List (Addr × Obj)) (σ : List (Option V)) (H : Hp) (s : Shared) : Prop where
  ok : X.Ok
  os : s.os = X.s_0.os
  bare : AllBare s.gens
  base : Un X.fs X.ex X.H_0 H X.s_0.heap s.heap
  loc : ∃ m, s.heap.Ns X.env.locals m ∧ ∀ (i : Nat) (x : Str) (v : V), X.N[i]? = some x → σ[i]? = some (some v) → Vis X.env.scope x → ∃ u, RelV v u ∧ Look X.env s.heap m x u
  cell : ∀ x c, X.env.cells.lookup x = some c → ∃ v, s.heap.IsCell c v
  free : H X.env.locals = none
  freeC : ∀ x c, X.env.cells.lookup x = some c → H c = none
  pin : ∀ p ∈ X.pn ++ pins, s.heap.get? p.1 = some p.2 ∧ H p.1 = none ∧ p.1 ≠ X.env.locals ∧ p.1 ∉ X.fs ∧ ∀ v, p.2.data ≠ .cell v
  hok : HOk X.prog X.w H s.heap
  len : σ.length = X.N.length
section
variable {X : Cx} {pins : List (Addr × Obj)} {σ : List (Option V)} {H H' : Hp} {s : Shared} {h' : Heap}
theorem Cx.Ok.nofr (ok : X.Ok) {b : Addr} {o : Obj} (e : X.base.get? b = some o) : b ∉ X.fs := fun hb => by
  have := (ok.funs.mem hb).1
  rw [e] at this; cases this
theorem Inv.bs (I : Inv X pins σ H s) : ∀ b o, X.base.get? b = some o → s.heap.get? b = some o ∧ H b = none := fun b o e =>
  ⟨I.base.keep b o (I.ok.bs b o e).1 (I.ok.bs b o e).2 (I.ok.nofr e) (I.ok.noex b o e), I.base.free b o (I.ok.bs b o e).1 (I.ok.bs b o e).2 (I.ok.noex b o e)⟩
theorem Inv.bk (I : Inv X pins σ H s) : ∀ b o, X.base.get? b = some o → s.heap.get? b = some o := fun b o e => (I.bs b o e).1
theorem Inv.mod (I : Inv X pins σ H s) : Mod X.K X.mg X.base := I.ok.mod
theorem Inv.kIn (I : Inv X pins σ H s) : X.K.In s.heap := I.ok.mod.kin.keeps I.bk
theorem Inv.lt (I : Inv X pins σ H s) : X.env.locals < s.heap.objs.size := let ⟨_, hn, _⟩ := I.loc; hn.lt
theorem Inv.sz (I : Inv X pins σ H s) : X.s_0.heap.objs.size ≤ s.heap.objs.size := Nat.le_trans I.ok.above (Nat.le_of_lt I.lt)
theorem Inv.nofs (I : Inv X pins σ H s) {a : Addr} (h : s.heap.objs.size ≤ a) : a ∉ X.fs := fun hb => by
  obtain ⟨_, o, ho, _⟩ := I.ok.funs.mem hb
  exact absurd (Nat.lt_of_lt_of_le (Heap.lt_size ho) (Nat.le_trans I.sz h)) (Nat.lt_irrefl _)
theorem Inv.cne (I : Inv X pins σ H s) : ∀ x c, X.env.cells.lookup x = some c → c ≠ X.env.locals := fun x c e z => by
  obtain ⟨v, o, ho, hd⟩ := I.cell x c e
  obtain ⟨m, ⟨o', es, ep, ho', hd', _⟩, _⟩ := I.loc
  rw [z, ho'] at ho; cases ho; rw [hd'] at hd; cases hd
theorem Inv.funs (I : Inv X pins σ H s) : s.heap.FunFrames X.base X.outer := by
  have all : ∀ (l : List Env), (∀ b ∈ frs l, b ∈ X.fs) → X.s_0.heap.FunFrames X.base l → s.heap.FunFrames X.base l := by
    intro l
    induction l with
    | nil => intro _ _; trivial
    | cons env r ih =>
      intro hs hl
      obtain ⟨hk, ⟨L, o, hf, hn, ho, hd⟩, hr⟩ := hl
      have hL : L ∈ X.fs := hs L (by unfold frs; rw [List.filterMap_cons, hf]; exact List.mem_cons_self)
      obtain ⟨sl, e⟩ := I.base.slot L o ho (I.ok.frf L hL) hL fun z => I.ok.exfs L z hL
      exact ⟨hk, ⟨L, _, hf, hn, e, hd⟩, ih (fun b hb => hs b (by unfold frs; rw [List.filterMap_cons, hf]; exact List.mem_cons_of_mem _ hb)) hr⟩
  exact all X.outer (fun _ hb => hb) I.ok.funs
theorem Inv.stack (I : Inv X pins σ H s) : s.heap.FunFrames X.base X.stack := by
  rcases I.ok.stk with e | ⟨e, hf⟩
  · rw [e]; exact I.funs
  · rw [e]
    obtain ⟨m, hn, _⟩ := I.loc
    refine .cons (by rw [I.ok.kind]; decide) hf hn ?_ I.funs
    exact Heap.get?_none_of_le (Nat.le_trans I.ok.bsz I.ok.above)
theorem Inv.stkSub (I : Inv X pins σ H s) : ∀ b ∈ frs X.stack, b ∈ X.env.locals :: X.fs := fun b hb => by
  rcases I.ok.stk with e | ⟨e, hf⟩
  · rw [e] at hb; exact List.mem_cons_of_mem _ hb
  · rw [e] at hb
    unfold frs at hb
    rw [List.filterMap_cons, hf] at hb
    exact hb
theorem Inv.stkFree (I : Inv X pins σ H s) : ∀ b ∈ frs X.stack, H b = none := fun b hb => by
  rcases List.mem_cons.mp (I.stkSub b hb) with e | hb
  · rw [e]; exact I.free
  · obtain ⟨_, o, ho, _⟩ := I.ok.funs.mem hb
    exact I.base.free b o ho (I.ok.frf b hb) fun z => I.ok.exfs b z hb
theorem Inv.step {g' : Array GenState} {t' : Nat} {d' : Drawn} {ch : List Addr} (I : Inv X pins σ H s)
    (hch : ∀ b ∈ ch, (b ∈ X.ex ∨ X.s_0.heap.objs.size ≤ b) ∧ b ≠ X.env.locals ∧ (∀ x c, X.env.cells.lookup x = some c → c ≠ b) ∧ ∀ p ∈ X.pn ++ pins, p.1 ≠ b)
    (keep : ∀ b o, b ≠ X.env.locals → b ∉ X.fs → b ∉ ch → s.heap.get? b = some o → H b = none → h'.get? b = some o)
    (slot : ∀ b o, b ≠ X.env.locals → b ∈ X.fs → b ∉ ch → s.heap.get? b = some o → H b = none → ∃ sl, h'.get? b = some { o with slots := sl }) (free : ∀ b o, b ∉ ch → s.heap.get? b = some o → H b = none → H' b = none)
    (there : ∀ b o, b ∉ ch → s.heap.get? b = some o → ∃ o', h'.get? b = some o')
    (tups : ∀ b xs, H b = some (.tup xs) → H' b = some (.tup xs)) (frzs : ∀ b o u, H b = some (.frz o u) → H' b = some (.frz o u)) (tbls : ∀ b ps, H b = some (.tbl ps) → ∃ more, H' b = some (.tbl (ps ++ more)))
    (ns : ∀ m, s.heap.Ns X.env.locals m → h'.Ns X.env.locals m) (hok : HOk X.prog X.w H' h') (hg : AllBare g') :
    Inv X pins σ H' { s with heap := h', gens := g', drawn := d', toks := t' } := by
  have neL : ∀ b o, X.s_0.heap.get? b = some o → b ≠ X.env.locals := fun b o e => Nat.ne_of_lt (Nat.lt_of_lt_of_le (Heap.lt_size e) I.ok.above)
  have neC : ∀ b o, X.s_0.heap.get? b = some o → b ∉ X.ex → b ∉ ch := fun b o e hx hb => by
    rcases (hch b hb).1 with z | z
    · exact hx z
    · exact absurd (Nat.lt_of_lt_of_le (Heap.lt_size e) z) (Nat.lt_irrefl _)
  have cellK : ∀ x c, X.env.cells.lookup x = some c → ∀ v, s.heap.IsCell c v → h'.IsCell c v := fun x c e v hw => by
    obtain ⟨o, ho, hd⟩ := hw
    have nch : c ∉ ch := fun z => (hch c z).2.2.1 x c e rfl
    by_cases hc : c ∈ X.fs
    · obtain ⟨sl, q⟩ := slot c o (I.cne x c e) hc nch ho (I.freeC x c e)
      exact ⟨_, q, hd⟩
    · exact ⟨o, keep c o (I.cne x c e) hc nch ho (I.freeC x c e), hd⟩
  refine ⟨I.ok, I.os, hg, ⟨fun b o e n hb hx => ?_, fun b o e n hb hx => ?_, fun b o e n hx => ?_, fun b o e hx => ?_, fun b xs e => tups b xs (I.base.tups b xs e), fun b o xs e => frzs b o xs (I.base.frzs b o xs e), fun b ps e => ?_⟩, ?_, fun x c e => ?_, ?_, fun x c e => ?_, fun p hp => ?_, hok, I.len⟩
  · exact keep b o (neL b o e) hb (neC b o e hx) (I.base.keep b o e n hb hx) (I.base.free b o e n hx)
  · obtain ⟨sl, e1⟩ := I.base.slot b o e n hb hx
    obtain ⟨sl', e2⟩ := slot b _ (neL b o e) hb (neC b o e hx) e1 (I.base.free b o e n hx)
    exact ⟨sl', e2⟩
  · obtain ⟨o', e1⟩ := I.base.there b o e hx
    exact free b o' (neC b o e hx) e1 (I.base.free b o e n hx)
  · obtain ⟨o', e1⟩ := I.base.there b o e hx
    exact there b o' (neC b o e hx) e1
  · obtain ⟨m1, e1⟩ := I.base.tbls b ps e
    obtain ⟨m2, e2⟩ := tbls b _ e1
    exact ⟨m1 ++ m2, by rw [e2, Array.append_assoc]⟩
  · obtain ⟨m, hn, hl⟩ := I.loc
    refine ⟨m, ns m hn, fun i x v e1 e2 e3 => ?_⟩
    obtain ⟨u, r, l⟩ := hl i x v e1 e2 e3
    refine ⟨u, r, ?_⟩
    rcases l with l | ⟨k, c, e, z⟩
    · exact .inl l
    · exact .inr ⟨k, c, e, cellK x c e _ z⟩
  · obtain ⟨v, z⟩ := I.cell x c e
    exact ⟨v, cellK x c e v z⟩
  · obtain ⟨m, ⟨o, _, _, ho, _⟩, _⟩ := I.loc
    exact free _ o (fun z => (hch _ z).2.1 rfl) ho I.free
  · obtain ⟨v, o, ho, hd⟩ := I.cell x c e
    exact free c o (fun z => (hch c z).2.2.1 x c e rfl) ho (I.freeC x c e)
  · obtain ⟨e, n, ne, nf, d⟩ := I.pin p hp
    have nch : p.1 ∉ ch := fun z => (hch p.1 z).2.2.2 p hp rfl
    exact ⟨keep p.1 p.2 ne nf nch e n, free p.1 p.2 nch e n, ne, nf, d⟩
theorem Inv.un {t' : Nat} (I : Inv X pins σ H s) (u : Un X.fs [] H H' s.heap h') (hok : HOk X.prog X.w H' h') : Inv X pins σ H' { s with heap := h', toks := t' } := by
  obtain ⟨m, ⟨o, es, ep, ho, r⟩, _⟩ := id I.loc
  obtain ⟨sl, hL⟩ := u.any ho I.free (by simp)
  exact I.step (g' := s.gens) (d' := s.drawn) (ch := []) (fun _ z => nomatch z) (fun b o _ hb _ e n => u.keep b o e n hb (by simp)) (fun b o _ hb _ e n => u.slot b o e n hb (by simp)) (fun b o _ e n => u.free b o e n (by simp)) (fun b o _ e => u.there b o e (by simp)) u.tups u.frzs u.tbls (fun m' hm => by
    obtain ⟨o', es', ep', ho', r'⟩ := hm
    rw [ho] at ho'; cases ho'
    exact ⟨_, es', ep', hL, r'⟩) hok I.bare
theorem Inv.call {g' : Array GenState} {t' : Nat} {d' : Drawn} {ch : List Addr} (I : Inv X pins σ H s) (u : Un (frs X.stack) ch H H' s.heap h') (hok : HOk X.prog X.w H' h') (hg : AllBare g')
    (hch : ∀ b ∈ ch, (b ∈ X.ex ∨ X.s_0.heap.objs.size ≤ b) ∧ b ≠ X.env.locals ∧ (∀ x c, X.env.cells.lookup x = some c → c ≠ b) ∧ ∀ p ∈ X.pn ++ pins, p.1 ≠ b) :
    Inv X pins σ H' { s with heap := h', gens := g', drawn := d', toks := t' } := by
  obtain ⟨m, ⟨o, es, ep, ho, r⟩, _⟩ := id I.loc
  obtain ⟨sl, hL⟩ := u.any ho I.free fun z => (hch _ z).2.1 rfl
  exact I.step (ch := ch) hch (fun b o hL hb hc e n => u.keep b o e n (fun z => (List.mem_cons.mp (I.stkSub b z)).elim hL hb) hc) (fun b o _ _ hc e n => u.any e n hc) (fun b o hc e n => u.free b o e n hc) (fun b o hc e => u.there b o e hc) u.tups u.frzs u.tbls (fun m' hm => by
    obtain ⟨o', es', ep', ho', r'⟩ := hm
    rw [ho] at ho'; cases ho'
    exact ⟨_, es', ep', hL, r'⟩) hok hg
theorem Inv.turned {t' : Nat} {it : Addr} (I : Inv X pins σ H s) (k : ∀ b o, b ≠ it → s.heap.get? b = some o → h'.get? b = some o) (hn : H it = none) (hL : it ≠ X.env.locals)
    (h1 : it ∈ X.ex ∨ X.s_0.heap.objs.size ≤ it) (h2 : ∀ x c, X.env.cells.lookup x = some c → c ≠ it) (h3 : ∀ p ∈ X.pn ++ pins, p.1 ≠ it) : Inv X pins σ H { s with heap := h', toks := t' } := by
  have nit : ∀ b u, H b = some u → b ≠ it := fun b u e z => by rw [z, hn] at e; cases e
  refine I.step (g' := s.gens) (d' := s.drawn) (ch := [it]) (fun b hb => ?_) (fun b o _ _ hc e _ => k b o (fun z => hc (by simp [z])) e) (fun b o _ _ hc e _ => ⟨o.slots, k b o (fun z => hc (by simp [z])) e⟩) (fun _ _ _ _ n => n)
    (fun b o hc e => ⟨o, k b o (fun z => hc (by simp [z])) e⟩) (fun _ _ e => e) (fun _ _ _ e => e) (fun b ps e => ⟨#[], by rw [e]; simp⟩) (fun m hm => ?_) (fun b u e => ?_) I.bare
  · have e : b = it := by simpa using hb
    subst e
    exact ⟨h1, hL, h2, h3⟩
  · obtain ⟨o, es, ep, ho, r⟩ := hm
    exact ⟨o, es, ep, k _ o (Ne.symm hL) ho, r⟩
  · refine (I.hok b u e).stay (fun c v hc q => k c v ?_ q) (fun _ q => q) fun _ _ q => q
    rcases hc with z | z
    · rw [z]; exact nit b u e
    · exact nit c _ z
theorem Inv.tok (I : Inv X pins σ H s) (t : Nat) : Inv X pins σ H { s with toks := t } := I.un (h' := s.heap) (t' := t) Un.refl I.hok
theorem Inv.kept {t' : Nat} (I : Inv X pins σ H s) (k : ∀ b u, s.heap.get? b = some u → h'.get? b = some u) : Inv X pins σ H { s with heap := h', toks := t' } := I.un (Un.kept k) (I.hok.kept k)
theorem Inv.laid {a : Addr} {o : HO} {t' : Nat} (I : Inv X pins σ H s) (k : ∀ b u, s.heap.get? b = some u → h'.get? b = some u) (hp : s.heap.objs.size ≤ a) (new : ObjOk X.prog X.w (upd H a o) h' a o) :
    Inv X pins σ (upd H a o) { s with heap := h', toks := t' } := I.un (Un.laid k hp (I.hok.fresh hp)) (I.hok.laid k hp new)
theorem Inv.write {x e : Addr} {o : HO} {t' : Nat} (I : Inv X pins σ H s) (mu : Mut (H x)) (he : e = x ∨ H e = some (.own x)) (k : ∀ b u, b ≠ e → s.heap.get? b = some u → h'.get? b = some u) (heo : ∃ u, h'.get? e = some u)
    (new : ObjOk X.prog X.w (upd H x o) h' x o) : Inv X pins σ (upd H x o) { s with heap := h', toks := t' } := I.un (Un.write mu he k heo) (I.hok.write mu he k heo new)
theorem Inv.weak {σ' : List (Option V)} (I : Inv X pins σ H s) (hl : σ'.length = σ.length) (w : ∀ (i : Nat) v, σ'[i]? = some (some v) → σ[i]? = some (some v)) : Inv X pins σ' H s :=
  ⟨I.ok, I.os, I.bare, I.base, let ⟨m, hn, hl'⟩ := I.loc; ⟨m, hn, fun i x v e1 e2 e3 => hl' i x v e1 (w i v e2) e3⟩, I.cell, I.free, I.freeC, I.pin, I.hok, hl.trans I.len⟩
theorem Inv.pins_of {pins' : List (Addr × Obj)} (I : Inv X pins σ H s) (h : ∀ p ∈ pins', s.heap.get? p.1 = some p.2 ∧ H p.1 = none ∧ p.1 ≠ X.env.locals ∧ p.1 ∉ X.fs ∧ ∀ v, p.2.data ≠ .cell v) : Inv X pins' σ H s :=
  ⟨I.ok, I.os, I.bare, I.base, I.loc, I.cell, I.free, I.freeC, fun p hp => (List.mem_append.mp hp).elim (fun z => I.pin p (List.mem_append_left _ z)) (h p), I.hok, I.len⟩
theorem nodup_ix {N : List Str} (hN : N.Nodup) {i j : Nat} {x : Str} (a : N[i]? = some x) (b : N[j]? = some x) : i = j := by
  obtain ⟨h1, e1⟩ := List.getElem?_eq_some_iff.mp a
  obtain ⟨h2, e2⟩ := List.getElem?_eq_some_iff.mp b
  exact (List.getElem_inj hN).mp (e1.trans e2.symm)
theorem store_ok2 {M : Model} {A : Around} {E : Value → Shared → Prop} {i : Nat} {x : Str} {v : V} {u : Value} {Q : Unit → Shared → Prop} (I : Inv X pins σ H s) (hN : X.N.Nodup) (hi : X.N[i]? = some x) (hx : Loc X.env.scope x) (r : RelV v u)
    (h : ∀ s', Inv X pins (σ.set i (some v)) H s' → (∃ a, Heap.SameBut a s.heap s'.heap ∧ (a = X.env.locals ∨ X.env.cells.lookup x = some a)) → Q () s') (hf : X.fn x = true ∨ X.env.scope.names.lookup x = some .local := by first | exact .inl rfl | exact .inr rfl | assumption) : wpAny M A (storeName X.env x u) Q E s := by
  obtain ⟨m, hn, hl⟩ := id I.loc
  have hcls : (X.env.scope.kind == .class || (X.env.scope.kind == .module && X.env.locals != X.env.globals)) = false := by rw [I.ok.kind]; rfl
  have hiσ : i < σ.length := by rw [I.len]; exact (List.getElem?_eq_some_iff.mp hi).1
  have cne := I.cne
  have tracked : ∀ {a : Addr} {h' : Heap}, (∃ o, s.heap.get? a = some o ∧ H a = none) → Heap.SameBut a s.heap h' → HOk X.prog X.w H h' := fun {a h'} ha hs b ob e => by
    obtain ⟨_, _, hfree⟩ := ha
    refine (I.hok b ob e).stay (fun c w' hc q => (hs.2 c ?_).trans q) (fun _ q => q) fun _ _ q => q
    rintro rfl
    rcases hc with rfl | hc
    · rw [hfree] at e; cases e
    · rw [hfree] at hc; cases hc
  rcases hx with hk | hk
  · refine wpAny_storeName_local hk hn (fun h' hn' hs => ?_) hcls
    obtain ⟨oL, _, _, hoL, _⟩ := id hn
    refine h _ ⟨I.ok, I.os, I.bare, ⟨fun b o e n hb hx => ?_, fun b o e n hb hx => ?_, I.base.free, fun b o e hx => ?_, I.base.tups, I.base.frzs, I.base.tbls⟩, ⟨_, hn', fun j y v' e1 e2 e3 => ?_⟩, fun y c e => ?_, I.free, I.freeC, fun p hp => ?_, tracked ⟨oL, hoL, I.free⟩ hs, by simpa using I.len⟩ ⟨_, hs, .inl rfl⟩
    · exact (hs.2 b (Nat.ne_of_lt (Nat.lt_of_lt_of_le (Heap.lt_size e) I.ok.above))).trans (I.base.keep b o e n hb hx)
    · obtain ⟨sl, e1⟩ := I.base.slot b o e n hb hx
      exact ⟨sl, (hs.2 b (Nat.ne_of_lt (Nat.lt_of_lt_of_le (Heap.lt_size e) I.ok.above))).trans e1⟩
    · obtain ⟨o', e1⟩ := I.base.there b o e hx
      exact ⟨o', (hs.2 b (Nat.ne_of_lt (Nat.lt_of_lt_of_le (Heap.lt_size e) I.ok.above))).trans e1⟩
    · by_cases hj : j = i
      · subst hj
        rw [hi] at e1; cases e1
        rw [List.getElem?_set_self hiσ] at e2
        cases e2
        exact ⟨u, r, .inl ⟨hk, by simp⟩⟩
      · rw [List.getElem?_set_ne (Ne.symm hj)] at e2
        obtain ⟨u', r', q⟩ := hl j y v' e1 e2 e3
        refine ⟨u', r', ?_⟩
        rcases q with ⟨k, e⟩ | ⟨k, c, e, z⟩
        · refine .inl ⟨k, ?_⟩
          have : y ≠ x := fun e => hj (nodup_ix hN e1 (e ▸ hi))
          simp [this, e]
        · exact .inr ⟨k, c, e, z.sameBut hs (cne y c e)⟩
    · obtain ⟨w', z⟩ := I.cell y c e
      exact ⟨w', z.sameBut hs (cne y c e)⟩
    · obtain ⟨e, n, ne, nf, d⟩ := I.pin p hp
      exact ⟨(hs.2 p.1 ne).trans e, n, ne, nf, d⟩
  · have hfn : X.fn x = true := by
      rcases hf with z | z
      · exact z
      · rw [z] at hk; cases hk
    obtain ⟨c, hc⟩ := I.ok.has x (.inl hk)
    obtain ⟨w', z⟩ := I.cell x c hc
    refine wpAny_storeName_cell I.ok.kind hk hc z (fun h' hc' hs => ?_)
    obtain ⟨oc, hoc, hocd⟩ := id z
    refine h { s with heap := h' } ⟨I.ok, I.os, I.bare, ⟨fun b o e n hb hx => ?_, fun b o e n hb hx => ?_, I.base.free, fun b o e hx => ?_, I.base.tups, I.base.frzs, I.base.tbls⟩, ⟨m, hn.sameBut hs (Ne.symm (cne x c hc)), fun j y v' e1 e2 e3 => ?_⟩, fun y c' e => ?_, I.free, I.freeC, fun p hp => ?_, tracked ⟨oc, hoc, I.freeC x c hc⟩ hs, by simpa using I.len⟩ ⟨c, hs, .inr hc⟩
    · exact (hs.2 b (Nat.ne_of_lt (Nat.lt_of_lt_of_le (Heap.lt_size e) (I.ok.cab x c hfn hc)))).trans (I.base.keep b o e n hb hx)
    · obtain ⟨sl, e1⟩ := I.base.slot b o e n hb hx
      exact ⟨sl, (hs.2 b (Nat.ne_of_lt (Nat.lt_of_lt_of_le (Heap.lt_size e) (I.ok.cab x c hfn hc)))).trans e1⟩
    · obtain ⟨o', e1⟩ := I.base.there b o e hx
      exact ⟨o', (hs.2 b (Nat.ne_of_lt (Nat.lt_of_lt_of_le (Heap.lt_size e) (I.ok.cab x c hfn hc)))).trans e1⟩
    · by_cases hj : j = i
      · subst hj
        rw [hi] at e1; cases e1
        rw [List.getElem?_set_self hiσ] at e2
        cases e2
        exact ⟨u, r, .inr ⟨.inl hk, c, hc, hc'⟩⟩
      · rw [List.getElem?_set_ne (Ne.symm hj)] at e2
        obtain ⟨u', r', q⟩ := hl j y v' e1 e2 e3
        refine ⟨u', r', ?_⟩
        rcases q with q | ⟨k, c', e, z'⟩
        · exact .inl q
        · refine .inr ⟨k, c', e, z'.sameBut hs ?_⟩
          rintro rfl
          exact hj (nodup_ix hN e1 (I.ok.inj _ _ _ e hc ▸ hi))
    · by_cases hcc : c' = c
      · subst hcc; exact ⟨_, hc'⟩
      · obtain ⟨w2, z2⟩ := I.cell y c' e
        exact ⟨w2, z2.sameBut hs hcc⟩
    · obtain ⟨e, n, ne, nf, d⟩ := I.pin p hp
      refine ⟨(hs.2 p.1 ?_).trans e, n, ne, nf, d⟩
      intro q
      rw [q, hoc] at e
      have q' : oc = p.2 := Option.some.inj e
      exact d w' (by rw [← q']; exact hocd)
theorem store_ok {M : Model} {A : Around} {E : Value → Shared → Prop} {i : Nat} {x : Str} {v : V} {u : Value} {Q : Unit → Shared → Prop} (I : Inv X pins σ H s) (hN : X.N.Nodup) (hi : X.N[i]? = some x) (hx : Loc X.env.scope x) (r : RelV v u)
    (h : ∀ s', Inv X pins (σ.set i (some v)) H s' → Q () s') (hf : X.fn x = true ∨ X.env.scope.names.lookup x = some .local := by first | exact .inl rfl | exact .inr rfl | assumption) : wpAny M A (storeName X.env x u) Q E s :=
  store_ok2 I hN hi hx r (fun s' I' _ => h s' I') hf
theorem Inv.call' {s' : Shared} {ch : List Addr} (I : Inv X pins σ H s) (ho : s'.os = s.os) (u : Un (frs X.stack) ch H H' s.heap s'.heap) (hok : HOk X.prog X.w H' s'.heap) (hg : AllBare s'.gens)
    (hch : ∀ b ∈ ch, (b ∈ X.ex ∨ X.s_0.heap.objs.size ≤ b) ∧ b ≠ X.env.locals ∧ (∀ x c, X.env.cells.lookup x = some c → c ≠ b) ∧ ∀ p ∈ X.pn ++ pins, p.1 ≠ b) : Inv X pins σ H' s' := by
  obtain ⟨h', g', d', t', o'⟩ := s'
  have e : o' = s.os := ho
  subst e
  exact I.call (g' := g') (t' := t') (d' := d') u hok hg hch
end
noncomputable abbrev XK := Value → Option Addr → Hp → Prop
noncomputable abbrev St := List (Option V)
noncomputable abbrev VK := V → Hp → Prop
noncomputable abbrev TE := St → Hp → VK → Prop
noncomputable abbrev TT := St → Hp → (Bool → Hp → Prop) → Prop
noncomputable abbrev TA := St → Hp → (List V → Hp → Prop) → Prop
structure Ends where
  nx : St → Hp → Prop
  rt : VK
  bk : St → Hp → Prop := fun _ _ => False
  ct : St → Hp → Prop := fun _ _ => False
noncomputable abbrev TS := Ends → St → Hp → Prop
noncomputable def EP (X : Cx) (pins : List (Addr × Obj)) (σ : St) (Q : VK) (u : Value) (s' : Shared) : Prop := ∃ v H', Inv X pins σ H' s' ∧ RelV v u ∧ Q v H'
noncomputable def TP (X : Cx) (pins : List (Addr × Obj)) (σ : St) (Q : Bool → Hp → Prop) (b : Bool) (s' : Shared) : Prop := ∃ H', Inv X pins σ H' s' ∧ Q b H'
noncomputable def AP (X : Cx) (pins : List (Addr × Obj)) (σ : St) (Q : List V → Hp → Prop) (us : List Value) (s' : Shared) : Prop := ∃ vs H', Inv X pins σ H' s' ∧ Vals vs us ∧ Q vs H'
noncomputable def SP (X : Cx) (pins : List (Addr × Obj)) (D : Ends) (f : Flow) (s' : Shared) : Prop :=
  match f with
  | .next => ∃ σ' H', Inv X pins σ' H' s' ∧ D.nx σ' H'
  | .brk => ∃ σ' H', Inv X pins σ' H' s' ∧ D.bk σ' H'
  | .cont => ∃ σ' H', Inv X pins σ' H' s' ∧ D.ct σ' H'
  | .ret u => ∃ v σ' H', Inv X pins σ' H' s' ∧ RelV v u ∧ D.rt v H'
noncomputable def PE (X : Cx) (e : Expr) (t : TE) : Prop :=
  ∀ (pins : List (Addr × Obj)) (s : Shared) (σ : St) (H : Hp) (Q : VK), Inv X pins σ H s → t σ H Q → wpAny (model X.prog X.w) X.A (eval e X.env) (EP X pins σ Q) X.xe s
noncomputable def PT (X : Cx) (e : Expr) (t : TT) : Prop :=
  ∀ (pins : List (Addr × Obj)) (s : Shared) (σ : St) (H : Hp) (Q : Bool → Hp → Prop), Inv X pins σ H s → t σ H Q → wpAny (model X.prog X.w) X.A (isTrue e X.env (eval e X.env)) (TP X pins σ Q) X.xe s
noncomputable def PW (X : Cx) (e : Expr) (t : TT) : Prop :=
  ∀ (whole : Sem Value) (pins : List (Addr × Obj)) (s : Shared) (σ : St) (H : Hp) (Q : Bool → Hp → Prop), Inv X pins σ H s → t σ H Q → wpAny (model X.prog X.w) X.A (isTrue e X.env whole) (TP X pins σ Q) X.xe s
theorem PW.pt {X : Cx} {e : Expr} {t : TT} (h : PW X e t) : PT X e t := h _
noncomputable def PA (X : Cx) (es : List Expr) (t : TA) : Prop :=
  ∀ (pos : Pos) (pins : List (Addr × Obj)) (s : Shared) (σ : St) (H : Hp) (Q : List V → Hp → Prop), Inv X pins σ H s → t σ H Q → wpAny (model X.prog X.w) X.A (spliced (backTo pos (starEach es X.env))) (AP X pins σ Q) X.xe s
noncomputable def PS (X : Cx) (st : Stmt) (t : TS) : Prop :=
  ∀ (pins : List (Addr × Obj)) (s : Shared) (σ : St) (H : Hp) (D : Ends), Inv X pins σ H s → t D σ H → wpAny (model X.prog X.w) X.A (exec st X.env) (SP X pins D) X.xe s
noncomputable def PSs (X : Cx) (st : List Stmt) (t : TS) : Prop :=
  ∀ (pins : List (Addr × Obj)) (s : Shared) (σ : St) (H : Hp) (D : Ends), Inv X pins σ H s → t D σ H → wpAny (model X.prog X.w) X.A (execs st X.env) (SP X pins D) X.xe s
theorem thn {α : Type} {t : Sem α} {Q Q' : α → Shared → Prop} {M : Model} {A : Around} {E : Value → Shared → Prop} {s : Shared} (h : wpAny M A t Q E s) (hQ : ∀ a s, Q a s → Q' a s) : wpAny M A t Q' E s := wpAny_mono h hQ fun _ _ x => x
end L2
namespace L2
open PySem PySem.Spec PyProof.Rows
section
variable {X : Cx}
noncomputable def tVar (i : Nat) : TE := fun σ H Q => ∃ v, σ[i]? = some (some v) ∧ Q v H
noncomputable def tC (v : V) : TE := fun _ H Q => Q v H
theorem pe_var {i : Nat} {x : Str} {pos : Pos} (hN : X.N[i]? = some x) (hv : Vis X.env.scope x) (hd : (x == ("__debug__" : Str)) = false := by decide) (hcd : (x == ("__classdict__" : Str)) = false := by decide) : PE X (.Name x pos) (tVar i) := by
  intro pins s σ H Q I h
  obtain ⟨v, e, h⟩ := h
  obtain ⟨m, hn, hl⟩ := I.loc
  obtain ⟨u, r, l⟩ := hl i x v hN e hv
  have fin : EP X pins σ Q u s := ⟨v, H, I, r, h⟩
  rcases l with ⟨hk, hm⟩ | ⟨hk, c, hc, hcell⟩
  · exact wpAny_Name (wpAny_loadName_local I.ok.kind hk hn hm fin) hd
  · rcases hk with hk | hk
    · exact wpAny_Name (wpAny_loadName_cell I.ok.kind hk hc hcell fin) hd
    · exact wpAny_Name (wpAny_loadName_free I.ok.kind hk hc hcell fin hcd) hd
theorem pe_int {i j pos} : PE X (.Constant (.int i) j pos) (tC (.int i)) := fun _ _ _ H _ I h => wpAny_Constant_int ⟨.int i, H, I.tok _, ⟨_, rfl⟩, h⟩
theorem pe_non {j pos} : PE X (.Constant .none j pos) (tC .non) := fun _ _ _ H _ I h => Constant_none ⟨.non, H, I, rfl, h⟩
noncomputable def Gl (X : Cx) (x : Str) : Prop := X.env.kindOf x = some .globalImplicit
theorem ld_glob {E : Value → Shared → Prop} {pins : List (Addr × Obj)} {s : Shared} {σ : St} {H : Hp} {x : Str} {u : Value} {pos : Pos} {Q : Value → Shared → Prop} (I : Inv X pins σ H s) (hg : Gl X x) (hm : X.mg x = some u) (h : Q u s)
    (hd : (x == ("__debug__" : Str)) = false := by decide) : wpAny (model X.prog X.w) X.A (eval (.Name x pos) X.env) Q E s :=
  Calls.Name_function_global I.ok.kind hg (Calls.loadGlobal_global (by rw [I.ok.glob]; exact I.mod.glob.keeps I.bk) hm h) hd
theorem ld_blt {E : Value → Shared → Prop} {pins : List (Addr × Obj)} {s : Shared} {σ : St} {H : Hp} {x : Str} {u : Value} {pos : Pos} {Q : Value → Shared → Prop} (I : Inv X pins σ H s) (hg : Gl X x) (hm : X.mg x = none) (hv : bootBuiltins x = some u) (h : Q u s)
    (hn : x ≠ "__name__" := by decide) (hd : (x == ("__debug__" : Str)) = false := by decide) : wpAny (model X.prog X.w) X.A (eval (.Name x pos) X.env) Q E s := by
  obtain ⟨mb, h1, h2⟩ := I.mod.blt
  exact Calls.Name_function_global I.ok.kind hg (Calls.loadGlobal_builtin (by rw [I.ok.glob]; exact I.mod.glob.keeps I.bk) hm (by rw [I.ok.blt]; exact h1.keeps I.bk) ((h2 x hn).trans hv) h) hd
theorem pe_glob {x : Str} {v : V} {u : Value} {pos : Pos} (hg : Gl X x) (hm : X.mg x = some u) (r : RelV v u) (hd : (x == ("__debug__" : Str)) = false := by decide) : PE X (.Name x pos) (tC v) :=
  fun _ _ _ H _ I h => ld_glob I hg hm ⟨v, H, I, r, h⟩ hd
variable {a b : Expr} {ta tb : TE} {pos : Pos}
noncomputable def PC (X : Cx) (op : CmpOp) (a b : Expr) (t : TE) : Prop :=
  ∀ (pins : List (Addr × Obj)) (s : Shared) (σ : St) (H : Hp) (Q : VK), Inv X pins σ H s → t σ H Q →
    wpAny (model X.prog X.w) X.A (eval a X.env) (fun v s₁ => wpAny (model X.prog X.w) X.A (eval b X.env) (fun u s₂ => wpAny (model X.prog X.w) X.A (compareOp op v u) (EP X pins σ Q) X.xe s₂) X.xe s₁) X.xe s
theorem nobehind (b : Expr) {op : CmpOp} (h : op ≠ .In) (h2 : op ≠ .NotIn) : behindInMarks op b = false := by
  have e1 : (op == CmpOp.In) = false := by cases op <;> first | rfl | exact absurd rfl h
  have e2 : (op == CmpOp.NotIn) = false := by cases op <;> first | rfl | exact absurd rfl h2
  cases b <;> simp [behindInMarks, e1, e2]
noncomputable def tNotN (ta : TE) : TE := fun σ H Q => ta σ H fun x H1 => Q (.bl (!decide (x = .non))) H1
theorem RelV.none_iff {x : V} {v : Value} (r : RelV x v) : (v == Value.none) = decide (x = .non) := by
  cases x with
  | non => cases r; rfl
  | bl _ => cases r; rfl
  | int _ => obtain ⟨t, rfl⟩ := r; rfl
  | str _ => obtain ⟨t, rfl⟩ := r; rfl
  | byt _ => obtain ⟨t, rfl⟩ := r; rfl
  | flt _ => obtain ⟨t, rfl⟩ := r; rfl
  | ref _ => cases r; rfl
  | ty _ => cases r; rfl
theorem pc_notN {j pos'} (ha : PE X a ta) : PC X .IsNot a (.Constant .none j pos') (tNotN ta) := by
  intro pins s σ H Q I h
  refine thn (ha pins s σ H _ I h) fun v s1 hz1 => ?_
  obtain ⟨x, H1, I1, r1, q1⟩ := hz1
  exact Constant_none (isnot_none_gen ⟨.bl _, H1, I1, by rw [r1.none_iff]; rfl, q1⟩)
noncomputable def tB (t : TE) : TT := fun σ H Q => t σ H fun x H1 => ∃ c, x = .bl c ∧ Q c H1
theorem pt_cmp {op : CmpOp} {t : TE} (h : PC X op a b t) (h1 : behindInMarks op b = false := by first | exact nobehind _ (by decide) (by decide) | rfl) : PT X (.Compare a [op] [b] pos) (tB t) := by
  intro pins s σ H Q I hw
  refine wpAny_isTrue_Compare1 (thn (h pins s σ H _ I hw) fun v s1 h1 => thn h1 fun u s2 h2 => thn h2 fun c s3 hz2 => ?_) h1
  obtain ⟨x, H1, I1, r1, q1⟩ := hz2
  obtain ⟨d, rfl, q⟩ := q1
  cases r1
  exact wpAny_truthy_bool ⟨H1, I1, q⟩
theorem pt_val {e : Expr} {t : TE} (h : PE X e t) (he : ∀ whole, isTrue e X.env whole = (do let v ← whole; standAt e.pos; holding [v] (truthy v)) := by intro _; rfl) : PT X e (tB t) := by
  intro pins s σ H Q I hw
  refine isTrue_plain (thn (h pins s σ H _ I hw) fun v s1 hz3 => ?_) (he _)
  obtain ⟨x, H1, I1, r1, q1⟩ := hz3
  obtain ⟨d, rfl, q⟩ := q1
  cases r1
  exact wpAny_truthy_bool ⟨H1, I1, q⟩
variable {tA tB' : TT} {rest : List Expr}
noncomputable def tAnd (t u : TT) : TT := fun σ H Q => t σ H fun c H1 => if c = true then u σ H1 Q else Q false H1
noncomputable def tNot (t : TT) : TT := fun σ H Q => t σ H fun c H1 => Q (!c) H1
theorem pw_and1 (ha : PT X a tA) : PW X (.BoolOp .And [a] pos) tA := by
  intro wh pins s σ H Q I h
  refine isTrue_and (thn (ha pins s σ H Q I h) fun c s1 e => ?_)
  cases c with
  | true => exact isTrue_and_nil e
  | false => exact e
theorem pw_and (ha : PT X a tA) (hb : PW X (.BoolOp .And (b :: rest) pos) tB') : PW X (.BoolOp .And (a :: b :: rest) pos) (tAnd tA tB') := by
  intro wh pins s σ H Q I h
  refine isTrue_and (thn (ha pins s σ H _ I h) fun c s1 hz4 => ?_)
  obtain ⟨H1, I1, q1⟩ := hz4
  cases c with
  | true => exact hb wh pins s1 σ H1 Q I1 q1
  | false => exact ⟨H1, I1, q1⟩
theorem pt_not (ha : PT X a tA) : PT X (.UnaryOp .Not a pos) (tNot tA) := by
  intro pins s σ H Q I h
  exact isTrue_not (ha pins s σ H (fun c H1 => Q (!c) H1) I h)
noncomputable def tAndV (ta tb : TE) : TE := fun σ H Q => ta σ H fun x H1 => ∃ c, x = .bl c ∧ if c = true then tb σ H1 Q else Q (.bl false) H1
theorem pe_one {op} {t : TE} (h : PE X a t) : PE X (.BoolOp op [a] pos) t := fun pins s σ H Q I hw => BoolOp_one (h pins s σ H Q I hw)
theorem pe_and (ha : PE X a ta) (hb : PE X (.BoolOp .And (b :: rest) pos) tb) : PE X (.BoolOp .And (a :: b :: rest) pos) (tAndV ta tb) := by
  intro pins s σ H Q I h
  refine BoolOp_and (thn (ha pins s σ H _ I h) fun v s1 hz5 => ?_)
  obtain ⟨x, H1, I1, r1, q1⟩ := hz5
  obtain ⟨c, rfl, q1⟩ := q1
  cases r1
  refine wpAny_truthy_bool ?_
  cases c with
  | true => exact hb pins s1 σ H1 Q I1 q1
  | false => exact ⟨.bl false, H1, I1, rfl, q1⟩
end
end L2
namespace L2
open PySem PySem.Spec PyProof.Rows
noncomputable def SqL (K : PySem.W.Frag) (H : Hp) (a : Addr) (xs : List V) : Prop :=
  Rd H a (.lst xs) ∨
    ∃ (o : Obj) (its : Array Value) (n : Nat), K.lookup a = some o ∧ o.cls = .type "list" ∧ o.dict = none ∧ o.data = .seq its n ∧ its.size ≤ sizeLine ∧ Vals xs its.toList
noncomputable def SqT (K : PySem.W.Frag) (H : Hp) (a : Addr) (xs : List V) : Prop :=
  Rd H a (.tup xs) ∨
    ∃ (o : Obj) (its : Array Value) (n : Nat), K.lookup a = some o ∧ o.cls = .type "tuple" ∧ o.data = .seq its n ∧ its.size ≤ sizeLine ∧ Vals xs its.toList
noncomputable def absV : Value → Option V
  | .none => some .non
  | .bool b => some (.bl b)
  | .int i _ => some (.int i)
  | .str x _ => some (.str x)
  | .bytes b _ => some (.byt b)
  | .float b _ => some (.flt b)
  | .ref a => some (.ref a)
  | .type n => some (.ty n)
  | _ => none
theorem RelV.abs {x : V} {u : Value} (r : RelV x u) : absV u = some x := by
  cases x with
  | non => cases r; rfl
  | bl _ => cases r; rfl
  | int _ => obtain ⟨t, rfl⟩ := r; rfl
  | str _ => obtain ⟨t, rfl⟩ := r; rfl
  | byt _ => obtain ⟨t, rfl⟩ := r; rfl
  | flt _ => obtain ⟨t, rfl⟩ := r; rfl
  | ref _ => cases r; rfl
  | ty _ => cases r; rfl
theorem RelV.inj {x y : V} {u : Value} (r : RelV x u) (q : RelV y u) : x = y := Option.some.inj (r.abs.symm.trans q.abs)
theorem Vals.inj : ∀ {xs ys : List V} {us : List Value}, Vals xs us → Vals ys us → xs = ys
  | _, _, _, .nil, .nil => rfl
  | _, _, _, .cons r t, .cons r' t' => by rw [r.inj r', Vals.inj t t']
section
variable {X : Cx} {pins : List (Addr × Obj)} {σ : St} {H : Hp} {s : Shared} {a : Addr} {xs ys : List V}
theorem SqL.of {K : PySem.W.Frag} (h : H a = some (.lst xs)) : SqL K H a xs := .inl (.inl h)
theorem SqT.of {K : PySem.W.Frag} (h : H a = some (.tup xs)) : SqT K H a xs := .inl (.inl h)
theorem Inv.list (I : Inv X pins σ H s) (h : SqL X.K H a xs) : ∃ its : List Value, Vals xs its ∧ PlainL s.heap a its.toArray ∧ xs.length ≤ sizeLine := by
  rcases h with h | ⟨o, its, n, hk, hc, hd, hs, hz, r⟩
  · obtain ⟨z, its, n, r, e⟩ := h.ok I.hok
    exact ⟨its, r, ⟨_, n, e, rfl, rfl, rfl⟩, z⟩
  · refine ⟨its.toList, r, ⟨o, n, I.kIn a o hk, hc, hd, by simpa using hs⟩, ?_⟩
    have e := r.length
    simp only [Array.length_toList] at e
    lia
theorem Inv.tuple (I : Inv X pins σ H s) (h : SqT X.K H a xs) : ∃ its : List Value, Vals xs its ∧ IsTup s.heap a its.toArray ∧ xs.length ≤ sizeLine := by
  rcases h with h | ⟨o, its, n, hk, hc, hs, hz, r⟩
  · obtain ⟨z, its, r, p⟩ := h.ok I.hok
    exact ⟨its, r, p, z⟩
  · refine ⟨its.toList, r, ⟨o, I.kIn a o hk, hc, n, by simpa using hs⟩, ?_⟩
    have e := r.length
    simp only [Array.length_toList] at e
    lia
theorem Inv.list_inj (I : Inv X pins σ H s) (h : SqL X.K H a xs) (h' : SqL X.K H a ys) : xs = ys := by
  obtain ⟨its, r, ⟨o, n, e, _, _, d⟩, _⟩ := I.list h
  obtain ⟨its', r', ⟨o', n', e', _, _, d'⟩, _⟩ := I.list h'
  rw [e] at e'; cases e'
  rw [d] at d'
  injection d' with d1 _
  have : its = its' := by simpa using congrArg Array.toList d1
  subst this
  exact r.inj r'
theorem Inv.tuple_inj (I : Inv X pins σ H s) (h : SqT X.K H a xs) (h' : SqT X.K H a ys) : xs = ys := by
  obtain ⟨its, r, ⟨o, e, _, n, d⟩, _⟩ := I.tuple h
  obtain ⟨its', r', ⟨o', e', _, n', d'⟩, _⟩ := I.tuple h'
  rw [e] at e'; cases e'
  rw [d] at d'
  injection d' with d1 _
  have : its = its' := by simpa using congrArg Array.toList d1
  subst this
  exact r.inj r'
end
noncomputable abbrev Cx.wish (X : Cx) (E : Value → Shared → Prop) : Cx := { X with xe := E }
noncomputable abbrev Cx.nox (X : Cx) : Cx := X.wish fun _ _ => False
theorem Cx.Ok.wish {X : Cx} (ok : X.Ok) (E : Value → Shared → Prop) : (X.wish E).Ok :=
  ⟨ok.mod, ok.kind, ok.glob, ok.blt, ok.above, ok.inj, ok.has, ok.cab, ok.hd, ok.frames, ok.stk, ok.exf, ok.bs, ok.bsz, ok.noex, ok.exfs, ok.funs, ok.frf⟩
theorem Cx.Ok.unwish {X : Cx} {E : Value → Shared → Prop} (ok : (X.wish E).Ok) : X.Ok :=
  ⟨ok.mod, ok.kind, ok.glob, ok.blt, ok.above, ok.inj, ok.has, ok.cab, ok.hd, ok.frames, ok.stk, ok.exf, ok.bs, ok.bsz, ok.noex, ok.exfs, ok.funs, ok.frf⟩
section
variable {X : Cx} {pins : List (Addr × Obj)} {σ : St} {H : Hp} {s : Shared} {E : Value → Shared → Prop}
theorem Inv.wish (I : Inv X pins σ H s) (E : Value → Shared → Prop) : Inv (X.wish E) pins σ H s := ⟨I.ok.wish E, I.os, I.bare, I.base, I.loc, I.cell, I.free, I.freeC, I.pin, I.hok, I.len⟩
theorem Inv.unwish (I : Inv (X.wish E) pins σ H s) : Inv X pins σ H s := ⟨I.ok.unwish, I.os, I.bare, I.base, I.loc, I.cell, I.free, I.freeC, I.pin, I.hok, I.len⟩
theorem SP.unwish {D : Ends} {f : Flow} {s' : Shared} (h : SP (X.wish E) pins D f s') : SP X pins D f s' := by
  cases f with
  | next => obtain ⟨σ', H', I, q⟩ := h; exact ⟨σ', H', I.unwish, q⟩
  | brk => obtain ⟨σ', H', I, q⟩ := h; exact ⟨σ', H', I.unwish, q⟩
  | cont => obtain ⟨σ', H', I, q⟩ := h; exact ⟨σ', H', I.unwish, q⟩
  | ret u => obtain ⟨v, σ', H', I, r, q⟩ := h; exact ⟨v, σ', H', I.unwish, r, q⟩
theorem PSs.nox {st : List Stmt} {t : TS} (h : PSs X.nox st t) : PSs X st t := fun pins s σ H D I hw =>
  wpAny_mono (h pins s σ H D (I.wish _) hw) (fun _ _ q => q.unwish) fun _ _ z => False.elim z
end
section
variable {X : Cx} {st : Stmt} {rest : List Stmt} {t u : TS} {e : Expr} {te : TE} {pos : Pos}
noncomputable def tNext : TS := fun D σ H => D.nx σ H
noncomputable def tSeq (t u : TS) : TS := fun D σ H => t { D with nx := u D } σ H
theorem pss_nil : PSs X [] tNext := fun _ _ σ H _ I h => wpAny_execs_nil ⟨σ, H, I, h⟩
theorem pss_cons (h1 : PS X st t) (h2 : PSs X rest u) : PSs X (st :: rest) (tSeq t u) := by
  intro pins s σ H D I h
  refine wpAny_execs_cons (thn (h1 pins s σ H { D with nx := u D } I h) fun f s1 q => ?_)
  cases f with
  | next =>
    obtain ⟨σ', H', I', q⟩ := q
    exact h2 pins s1 σ' H' D I' q
  | ret v => exact q
  | brk => exact q
  | cont => exact q
theorem pss_one (h1 : PS X st t) : PSs X [st] t := by
  intro pins s σ H D I h
  refine wpAny_execs_cons (thn (h1 pins s σ H D I h) fun f s1 q => ?_)
  cases f with
  | next => exact wpAny_execs_nil q
  | ret v => exact q
  | brk => exact q
  | cont => exact q
theorem Inv.quiet {pins : List (Addr × Obj)} {σ : St} {H : Hp} {s : Shared} (I : Inv X pins σ H s) : interactive X.env = false := by simp [interactive, I.ok.kind]
noncomputable def tDrop (te : TE) : TS := fun D σ H => te σ H fun _ H1 => D.nx σ H1
theorem ps_expr (he : PE X e te) (hs : swapsWith e none pos.line X.env = pure false := by rfl) : PS X (.Expr e pos) (tDrop te) := by
  intro pins s σ H D I h
  exact wpAny_Expr_any (thn (he pins s σ H _ I h) fun v s1 ⟨x, H1, I1, r1, q1⟩ => ⟨σ, H1, I1, q1⟩) I.quiet hs
noncomputable def tRet (te : TE) : TS := fun D σ H => te σ H D.rt
theorem ps_ret (he : PE X e te) : PS X (.Return (some e) pos) (tRet te) := by
  intro pins s σ H D I h
  exact wpAny_Return_some (thn (he pins s σ H _ I h) fun v s1 ⟨x, H1, I1, r1, q1⟩ => ⟨x, σ, H1, I1, r1, q1⟩)
noncomputable def tIfS (c : TT) (t u : TS) : TS := fun D σ H => c σ H fun b H1 => if b = true then t D σ H1 else u D σ H1
theorem ps_if {c : Expr} {a b : List Stmt} {tc : TT} (hc : PT X c tc) (ha : PSs X a t) (hb : PSs X b u) : PS X (.If c a b pos) (tIfS tc t u) := by
  intro pins s σ H D I h
  refine wpAny_If (thn (hc pins s σ H _ I h) fun d s1 hz6 => ?_)
  obtain ⟨H1, I1, q1⟩ := hz6
  cases d with
  | true => exact ha pins s1 σ H1 D I1 q1
  | false => exact hb pins s1 σ H1 D I1 q1
end
noncomputable abbrev TG := V → St → Hp → (St → Hp → Prop) → Prop
noncomputable abbrev TGs := List V → St → Hp → (St → Hp → Prop) → Prop
noncomputable def PG (X : Cx) (target : Expr) (t : TG) : Prop :=
  ∀ (pins : List (Addr × Obj)) (s : Shared) (σ : St) (H : Hp) (v : V) (u : Value) (Q : St → Hp → Prop), Inv X pins σ H s → RelV v u → t v σ H Q →
    wpAny (model X.prog X.w) X.A (assign target X.env u) (fun _ s' => ∃ σ' H', Inv X pins σ' H' s' ∧ Q σ' H') X.xe s
noncomputable def PGs (X : Cx) (ts : List Expr) (t : TGs) : Prop :=
  ∀ (pins : List (Addr × Obj)) (s : Shared) (σ : St) (H : Hp) (vs : List V) (us : List Value) (Q : St → Hp → Prop), Inv X pins σ H s → Vals vs us → t vs σ H Q →
    wpAny (model X.prog X.w) X.A (assignInOrder ((assignEach ts X.env).map (·.2)) us) (fun _ s' => ∃ σ' H', Inv X pins σ' H' s' ∧ Q σ' H') X.xe s
noncomputable abbrev TIp := V → V → Hp → VK → Prop
noncomputable def PIp (X : Cx) (op : Operator) (t : TIp) : Prop :=
  ∀ (pins : List (Addr × Obj)) (s : Shared) (σ : St) (H : Hp) (x y : V) (v u : Value) (Q : VK), Inv X pins σ H s → RelV x v → RelV y u → t x y H Q →
    wpAny (model X.prog X.w) X.A (inplaceOp op v u) (EP X pins σ Q) X.xe s
section
variable {X : Cx} {pos : Pos}
noncomputable def gName (i : Nat) : TG := fun v σ H Q => Q (σ.set i (some v)) H
theorem pg_name {i : Nat} {x : Str} (hN : X.N.Nodup) (hi : X.N[i]? = some x) (hx : Loc X.env.scope x) (hf : X.fn x = true ∨ X.env.scope.names.lookup x = some .local := by first | exact .inl rfl | exact .inr rfl | assumption) : PG X (.Name x pos) (gName i) := by
  intro pins s σ H v u Q I r h
  exact wpAny_assign_Name (store_ok I hN hi hx r (fun s' I' => ⟨_, H, I', h⟩) hf)
noncomputable def gNil : TGs := fun vs σ H Q => vs = [] ∧ Q σ H
noncomputable def gCons (t : TG) (u : TGs) : TGs := fun vs σ H Q => ∃ v r, vs = v :: r ∧ t v σ H fun σ' H' => u r σ' H' Q
theorem pgs_nil : PGs X [] gNil := by
  intro pins s σ H vs us Q I r h
  obtain ⟨e, h⟩ := h
  subst e
  cases r
  exact assignInOrder_nil ⟨σ, H, I, h⟩
theorem pgs_cons {e : Expr} {es : List Expr} {t : TG} {u : TGs} (h1 : PG X e t) (h2 : PGs X es u)
    (hs : (assignEach (e :: es) X.env).map (·.2) = assign e X.env :: (assignEach es X.env).map (·.2) := by rfl) : PGs X (e :: es) (gCons t u) := by
  intro pins s σ H vs us Q I r h
  obtain ⟨v, vr, e1, h⟩ := h
  subst e1
  cases r with
  | cons r rr =>
    rw [hs]
    refine assignInOrder_cons (thn (h1 pins s σ H _ _ _ I r h) fun _ s1 hz7 => ?_)
    obtain ⟨σ1, H1, I1, q1⟩ := hz7
    exact h2 pins s1 σ1 H1 _ _ Q I1 rr q1
noncomputable def gTup (K : PySem.W.Frag) (n : Nat) (t : TGs) : TG := fun v σ H Q => ∃ a xs, v = .ref a ∧ SqT K H a xs ∧ xs.length = n ∧ t xs σ H Q
theorem pg_tup {es : List Expr} {k : Nat} {t : TGs} {n : Nat} (hc : X.calm = true) (h : PGs X es t)
    (hn : (assignEach es X.env).length = n := by rfl) (hst : (assignEach es X.env).findIdx? (·.1) = none := by rfl) : PG X (.Tuple es k pos) (gTup X.K n t) := by
  intro pins s σ H v u Q I r hw
  obtain ⟨a, xs, e1, hq, hl, hw⟩ := hw
  subst e1
  cases r
  obtain ⟨its, rv, ht, hz⟩ := I.tuple hq
  refine assign_Tuple_tuple (I.ok.hd hc) ht (by simp [hn, ← hl, rv.length]) hst fun h' hx => ?_
  have I1 : Inv X pins σ H { s with heap := h' } := I.kept (t' := s.toks) fun b o e => hx b o (Nat.ne_of_lt (Heap.lt_size e)) e
  exact h pins _ σ H xs _ Q I1 (by simpa using rv) hw
noncomputable def tAsg (te : TE) (g : TG) : TS := fun D σ H => te σ H fun x H1 => g x σ H1 D.nx
theorem ps_set {i : Nat} {x : Str} {e : Expr} {te : TE} {pos' : Pos} (hN : X.N.Nodup) (hi : X.N[i]? = some x) (hx : Loc X.env.scope x) (he : PE X e te) (hs : swapsWith e (some (.Name x pos')) pos.line X.env = pure false := by rfl) (hf : X.fn x = true ∨ X.env.scope.names.lookup x = some .local := by first | exact .inl rfl | exact .inr rfl | assumption) :
    PS X (.Assign [.Name x pos'] e pos) (tAsg te (gName i)) := by
  intro pins s σ H D I h
  refine wpAny_Assign_Name (thn (he pins s σ H _ I h) fun v s1 hz8 => ?_) hs
  obtain ⟨y, H1, I1, r1, q1⟩ := hz8
  exact store_ok I1 hN hi hx r1 (fun s2 I2 => ⟨_, H1, I2, q1⟩) hf
noncomputable def tAug (i : Nat) (te : TE) (ti : TIp) : TS := fun D σ H => ∃ x, σ[i]? = some (some x) ∧ te σ H fun y H1 => ti x y H1 fun z H2 => D.nx (σ.set i (some z)) H2
theorem ps_aug {i : Nat} {x : Str} {e : Expr} {te : TE} {op : Operator} {ti : TIp} {pos' : Pos} (hN : X.N.Nodup) (hi : X.N[i]? = some x) (hx : Loc X.env.scope x) (he : PE X e te) (ho : PIp X op ti) (hf : X.fn x = true ∨ X.env.scope.names.lookup x = some .local := by first | exact .inl rfl | exact .inr rfl | assumption) :
    PS X (.AugAssign (.Name x pos') op e pos) (tAug i te ti) := by
  intro pins s σ H D I h
  obtain ⟨v, e1, h⟩ := h
  obtain ⟨m, hn, hl⟩ := I.loc
  have vis : Vis X.env.scope x := by rcases hx with k | k; exact .inl k; exact .inr (.inl k)
  obtain ⟨u, r, l⟩ := hl i x v hi e1 vis
  refine wpAny_AugAssign_Name ?_
  have go : wpAny (model X.prog X.w) X.A (eval e X.env) (fun w s₂ => wpAny (model X.prog X.w) X.A (inplaceOp op u w) (fun r s₃ => wpAny (model X.prog X.w) X.A (storeName X.env x r) (fun _ => SP X pins D .next) X.xe s₃) X.xe s₂) X.xe s := by
    refine thn (he pins s σ H _ I h) fun w s1 hz9 => ?_
    obtain ⟨y, H1, I1, r1, q1⟩ := hz9
    refine thn (ho pins s1 σ H1 v y u w _ I1 r r1 q1) fun z s2 hz10 => ?_
    obtain ⟨zv, H2, I2, r2, q2⟩ := hz10
    exact store_ok I2 hN hi hx r2 (fun s3 I3 => ⟨_, H2, I3, q2⟩) hf
  rcases l with ⟨hk, hm⟩ | ⟨hk, c, hc, hcell⟩
  · exact wpAny_loadName_local I.ok.kind hk hn hm go
  · rcases hk with hk | hk
    · exact wpAny_loadName_cell I.ok.kind hk hc hcell go
    · rcases hx with k | k
      · have : X.env.scope.names.lookup x = some .free := hk
        rw [k] at this; cases this
      · have : X.env.scope.names.lookup x = some .free := hk
        rw [k] at this; cases this
noncomputable def ipI (f : Int → Int → Int) : TIp := fun x y H Q => ∃ i j, x = .int i ∧ y = .int j ∧ Q (.int (f i j)) H
theorem ip_add : PIp X .Add (ipI fun i j => i + j) := by
  intro pins s σ H x y v u Q I r1 r2 h
  obtain ⟨i, j, e1, e2, q⟩ := h
  subst e1; subst e2
  obtain ⟨t, rfl⟩ := r1
  obtain ⟨t', rfl⟩ := r2
  exact iadd_int ⟨.int _, H, I.tok _, ⟨_, rfl⟩, q⟩
end
section
variable {X : Cx} {pos : Pos}
noncomputable def tWhile (c : TT) (tb : TS) : TS := fun D σ H => ∃ W : Nat → St → Hp → Prop, (∃ m, W m σ H) ∧ ∀ m σ H, W m σ H →
  c σ H fun b H1 => if b = true then ∃ N : St → Hp → Prop, (∀ σ' H', N σ' H' → ∃ m', m' < m ∧ W m' σ' H') ∧ tb { D with nx := N, ct := N, bk := D.nx } σ H1 else D.nx σ H1
theorem ps_while {c : Expr} {body : List Stmt} {tc : TT} {tb : TS} (hp : PassesOwn (model X.prog X.w) X.A X.env X.xe) (hc : PT X c tc) (hb : PSs X body tb) : PS X (.While c body [] pos) (tWhile tc tb) := by
  intro pins s σ H D I h
  obtain ⟨W, ⟨m0, w0⟩, turn⟩ := h
  refine wpAny_While (codeAny_whileLoop (fun n s' => ∃ σ' H', Inv X pins σ' H' s' ∧ W n σ' H') ?_ m0 ⟨σ, H, I, w0⟩)
  rintro n s1 ⟨σ1, H1, I1, w1⟩
  refine wpAny_passesOwn hp (thn (hc pins s1 σ1 H1 _ I1 (turn n σ1 H1 w1)) fun b s2 hz11 => ?_)
  obtain ⟨H2, I2, q2⟩ := hz11
  cases b with
  | true =>
    obtain ⟨N, hN, q2⟩ := q2
    rw [if_pos rfl]
    refine wpAny_passesOwn hp (thn (hb pins s2 σ1 H2 _ I2 q2) fun f s3 q3 => ?_)
    cases f with
    | next =>
      obtain ⟨σ3, H3, I3, n3⟩ := q3
      obtain ⟨m', hm, w3⟩ := hN σ3 H3 n3
      exact ⟨m', hm, σ3, H3, I3, w3⟩
    | cont =>
      obtain ⟨σ3, H3, I3, n3⟩ := q3
      obtain ⟨m', hm, w3⟩ := hN σ3 H3 n3
      exact ⟨m', hm, σ3, H3, I3, w3⟩
    | brk => exact q3
    | ret v => exact q3
  | false =>
    rw [if_neg Bool.false_ne_true]
    exact wpAny_execs_nil ⟨σ1, H2, I2, q2⟩
end
structure It where
  go : Nat → Hp → Prop
  yld : Nat → Hp → V → Hp → Prop
  stop : Nat → Hp → Prop
noncomputable def FpOk (X : Cx) (pins : List (Addr × Obj)) (H : Hp) (b : Addr) : Prop :=
  H b = none ∧ b ≠ X.env.locals ∧ b ∉ X.fs ∧ (b ∈ X.ex ∨ X.s_0.heap.objs.size ≤ b) ∧ (∀ x c, X.env.cells.lookup x = some c → c ≠ b) ∧ ∀ p ∈ X.pn ++ pins, p.1 ≠ b
theorem Inv.fpOk {X : Cx} {pins : List (Addr × Obj)} {σ : St} {H H' : Hp} {s : Shared} {b : Addr} (I : Inv X pins σ H s) (hb : s.heap.objs.size ≤ b) (hn : H' b = none) : FpOk X pins H' b := by
  refine ⟨hn, Nat.ne_of_gt (Nat.lt_of_lt_of_le I.lt hb), I.nofs hb, .inr (Nat.le_trans I.sz hb), fun x c e z => ?_, fun p hp z => ?_⟩
  · obtain ⟨v, q⟩ := I.cell x c e
    exact absurd (Nat.lt_of_lt_of_le q.lt (by rw [z]; exact hb)) (Nat.lt_irrefl _)
  · exact absurd (Nat.lt_of_lt_of_le (Heap.lt_size (I.pin p hp).1) (by rw [z]; exact hb)) (Nat.lt_irrefl _)
structure Turn (P : Program) (w : World) (K : PySem.W.Frag) (tg : Expr) (J : It) (fp : List Addr) (it : Addr) (tn : Nat → Heap → Prop) : Prop where
  mem : it ∈ fp
  obj : ∀ i h, tn i h → ∀ b ∈ fp, ∃ o, h.get? b = some o ∧ ∀ v, o.data ≠ .cell v
  keep : ∀ i h h', tn i h → (∀ b ∈ fp, ∀ o, h.get? b = some o → h'.get? b = some o) → tn i h'
  item : ∀ (X : Cx), X.prog = P → X.w = w → X.K = K → X.calm = true → ∀ (i : Nat) (pins : List (Addr × Obj)) (s : Shared) (σ : St) (H : Hp) (E : Value → Shared → Prop), Inv X pins σ H s → (∀ b ∈ fp, FpOk X pins H b) → tn i s.heap → J.go i H →
    wpAny (model P w) X.A (pyNext (.ref it)) (fun r s1 => ∃ u, r = some u ∧
      wpAny (model P w) X.A (letOwnedTupleGo tg (.ref it) u) (fun _ s2 => ∃ x H', Inv X pins σ H' s2 ∧ RelV x u ∧ J.yld i H x H' ∧ tn (i + 1) s2.heap ∧ ∀ b ∈ fp, H' b = none) E s1) E s
  done : ∀ (X : Cx), X.prog = P → X.w = w → X.K = K → X.calm = true → ∀ (i : Nat) (pins : List (Addr × Obj)) (s : Shared) (σ : St) (H : Hp) (E : Value → Shared → Prop), Inv X pins σ H s → (∀ b ∈ fp, FpOk X pins H b) → tn i s.heap → J.stop i H →
    wpAny (model P w) X.A (pyNext (.ref it)) (fun r s1 => r = none ∧ Inv X pins σ H s1) E s
  self : ∀ (A : Around) (i : Nat) (s : Shared) (Q : Value → Shared → Prop) (E : Value → Shared → Prop), tn i s.heap → Q (.ref it) s → wpAny (model P w) A (pyIter (.ref it)) Q E s
noncomputable abbrev TI := St → Hp → (It → Hp → Prop) → Prop
noncomputable def PIE (X : Cx) (pins : List (Addr × Obj)) (σ : St) (tg : Expr) (R : It → Hp → Prop) (itv : Value) (s2 : Shared) : Prop :=
  ∃ (it : Addr) (fp : List Addr) (tn : Nat → Heap → Prop) (J : It) (H' : Hp), itv = .ref it ∧ Inv X pins σ H' s2 ∧ Turn X.prog X.w X.K tg J fp it tn ∧ tn 0 s2.heap ∧ (∀ b ∈ fp, FpOk X pins H' b) ∧ R J H'
noncomputable def PI (X : Cx) (tg iter : Expr) (wi : TI) : Prop :=
  ∀ (pins : List (Addr × Obj)) (s : Shared) (σ : St) (H : Hp) (R : It → Hp → Prop), Inv X pins σ H s → wi σ H R →
    wpAny (model X.prog X.w) X.A (eval iter X.env) (fun v s1 => wpAny (model X.prog X.w) X.A (pyIter v) (PIE X pins σ tg R) X.xe s1) X.xe s
theorem go_of {M : Model} {A : Around} {E : Value → Shared → Prop} {s : Shared} {tg : Expr} {it : Addr} {u : Value} {o : Obj} {n : String} {vs : Array Value} {Q : Unit → Shared → Prop} (ho : s.heap.get? it = some o) (hc : o.cls = .type n) (hd : o.data = .fields vs)
    (hn : ["enumerate", "zip", "dict_itemiterator", "dict_reverseitemiterator", "odict_iterator", "itertools.zip_longest", "itertools.pairwise"].contains n = false) (hQ : Q () s) : wpAny M A (letOwnedTupleGo tg (.ref it) u) Q E s := by
  unfold letOwnedTupleGo
  cases tg <;> first
    | exact wpAny_pure hQ
    | (cases u <;> first
        | exact wpAny_pure hQ
        | (refine wpAny_bind (wpAny_load ho ?_)
           rw [hc, hd]
           show wpAny M A (if (["enumerate", "zip", "dict_itemiterator", "dict_reverseitemiterator", "odict_iterator", "itertools.zip_longest", "itertools.pairwise"].contains n && vs[0]? == some (rawInt _)) = true then _ else _) Q E s
           rw [if_neg (by intro h; rw [hn, Bool.false_and] at h; cases h)]
           exact wpAny_pure hQ))
noncomputable def Itl (K : PySem.W.Frag) (a : Addr) : It :=
  ⟨fun i H => ∃ xs x, SqL K H a xs ∧ xs[i]? = some x, fun i H x H' => H' = H ∧ ∀ xs, SqL K H a xs → xs[i]? = some x, fun i H => ∃ xs, SqL K H a xs ∧ xs.length ≤ i⟩
noncomputable def Itt (K : PySem.W.Frag) (a : Addr) : It :=
  ⟨fun i H => ∃ xs x, SqT K H a xs ∧ xs[i]? = some x, fun i H x H' => H' = H ∧ ∀ xs, SqT K H a xs → xs[i]? = some x, fun i H => ∃ xs, SqT K H a xs ∧ xs.length ≤ i⟩
noncomputable def Itr (lo : Int) (n : Nat) : It := ⟨fun i _ => i < n, fun i H x H' => H' = H ∧ x = .int (lo + i), fun i _ => n ≤ i⟩
theorem turn_list {P : Program} {w : World} {K : PySem.W.Frag} {tg : Expr} (a it : Addr) : Turn P w K tg (Itl K a) [it] it (fun i h => h.IsListIter it a i) where
  mem := by simp
  obj := fun i h st b hb => by
    have e : b = it := by simpa using hb
    subst e
    obtain ⟨o, e, c, d⟩ := st
    exact ⟨o, e, fun v z => by rw [d] at z; cases z⟩
  keep := fun i h h' st k => st.at fun o e => k it (by simp) o e
  item := by
    intro X hP hw hK hc i pins s σ H E I hf st hg
    subst hP hw hK
    obtain ⟨xs, x, hq, hx⟩ := hg
    obtain ⟨its, rv, p, hz⟩ := I.list hq
    obtain ⟨u, hu, ru⟩ := rv.get hx
    obtain ⟨f0, f1, f2, f3, f4, f5⟩ := hf it (by simp)
    refine wpAny_pyNext_list_item st p.isList (x := u) (by simpa using hu) fun h' st' sb => ?_
    have I1 : Inv X pins σ H { s with heap := h' } := I.turned (t' := s.toks) (fun b o hb e => (sb.2 b hb).trans e) f0 f1 f3 f4 f5
    obtain ⟨o, e, c, d⟩ := id st'
    exact ⟨u, rfl, go_of (s := { s with heap := h' }) e c d (by decide) ⟨x, H, I1, ru, ⟨rfl, fun ys hy => by rw [I.list_inj hy hq]; exact hx⟩, st', fun b hb => (hf b hb).1⟩⟩
  done := by
    intro X hP hw hK hc i pins s σ H E I hf st hg
    subst hP hw hK
    obtain ⟨xs, hq, hx⟩ := hg
    obtain ⟨its, rv, p, hz⟩ := I.list hq
    obtain ⟨f0, f1, f2, f3, f4, f5⟩ := hf it (by simp)
    have hl := rv.length
    exact wpAny_pyNext_list_end (I.ok.hd hc) st p.isList (by simp; lia) fun h' eb => ⟨rfl, I.turned (t' := s.toks) (fun b o hb e => eb b o hb e) f0 f1 f3 f4 f5⟩
  self := fun _ _ _ _ _ st h => wpAny_pyIter_listiter st h
theorem turn_tuple {P : Program} {w : World} {K : PySem.W.Frag} {tg : Expr} (a it : Addr) : Turn P w K tg (Itt K a) [it] it (fun i h => h.IsTupleIter it a i) where
  mem := by simp
  obj := fun i h st b hb => by
    have e : b = it := by simpa using hb
    subst e
    obtain ⟨o, e, c, d⟩ := st
    exact ⟨o, e, fun v z => by rw [d] at z; cases z⟩
  keep := fun i h h' st k => st.at fun o e => k it (by simp) o e
  item := by
    intro X hP hw hK hc i pins s σ H E I hf st hg
    subst hP hw hK
    obtain ⟨xs, x, hq, hx⟩ := hg
    obtain ⟨its, rv, p, hz⟩ := I.tuple hq
    obtain ⟨u, hu, ru⟩ := rv.get hx
    obtain ⟨f0, f1, f2, f3, f4, f5⟩ := hf it (by simp)
    refine wpAny_pyNext_tuple_item st (show s.heap.IsTuple a its.toArray from p) (x := u) (by simpa using hu) fun h' st' sb => ?_
    have I1 : Inv X pins σ H { s with heap := h' } := I.turned (t' := s.toks) (fun b o hb e => (sb.2 b hb).trans e) f0 f1 f3 f4 f5
    obtain ⟨o, e, c, d⟩ := id st'
    exact ⟨u, rfl, go_of (s := { s with heap := h' }) e c d (by decide) ⟨x, H, I1, ru, ⟨rfl, fun ys hy => by rw [I.tuple_inj hy hq]; exact hx⟩, st', fun b hb => (hf b hb).1⟩⟩
  done := by
    intro X hP hw hK hc i pins s σ H E I hf st hg
    subst hP hw hK
    obtain ⟨xs, hq, hx⟩ := hg
    obtain ⟨its, rv, p, hz⟩ := I.tuple hq
    obtain ⟨f0, f1, f2, f3, f4, f5⟩ := hf it (by simp)
    have hl := rv.length
    exact wpAny_pyNext_tuple_end (I.ok.hd hc) st (show s.heap.IsTuple a its.toArray from p) (by simp; lia) fun h' eb => ⟨rfl, I.turned (t' := s.toks) (fun b o hb e => eb b o hb e) f0 f1 f3 f4 f5⟩
  self := fun _ _ _ _ _ st h => wpAny_pyIter_tupleiter st h
theorem turn_range {P : Program} {w : World} {K : PySem.W.Frag} {tg : Expr} (it : Addr) (lo : Int) (n : Nat) : Turn P w K tg (Itr lo n) [it] it (fun i h => IsRangeIter h it (lo + (i : Nat) * 1) ((n : Int) - (i : Nat)) 1) where
  mem := by simp
  obj := fun i h st b hb => by
    have e : b = it := by simpa using hb
    subst e
    exact ⟨_, st, fun v z => by
      have z' : Data.fields _ = Data.cell v := z
      cases z'⟩
  keep := fun i h h' st k => k it (by simp) _ st
  item := by
    intro X hP hw hK hc i pins s σ H E I hf st hg
    subst hP hw hK
    obtain ⟨f0, f1, f2, f3, f4, f5⟩ := hf it (by simp)
    have W := Walks.range (prog := X.prog) (w := X.w) (I.ok.hd hc) it lo 1 n
    refine W.item i s _ _ hg st fun v h' tk hv st' kk => ?_
    obtain ⟨t, rfl⟩ := hv
    have I1 : Inv X pins σ H { s with heap := h', toks := tk } := I.turned (fun b o hb e => kk b o (by simpa using hb) e) f0 f1 f3 f4 f5
    refine ⟨_, rfl, go_of (s := { s with heap := h', toks := tk }) (n := "range_iterator") st' rfl rfl (by decide) ⟨.int (lo + i), H, I1, ⟨t, ?_⟩, ⟨rfl, rfl⟩, st', fun b hb => (hf b hb).1⟩⟩
    rw [Int.mul_one]
  done := by
    intro X hP hw hK hc i pins s σ H E I hf st hg
    subst hP hw hK
    obtain ⟨f0, f1, f2, f3, f4, f5⟩ := hf it (by simp)
    exact wpAny_pyNext_range_end (I.ok.hd hc) st (by have : n ≤ i := hg; lia) fun h' eb => ⟨rfl, I.turned (t' := s.toks) (fun b o hb e => eb b o hb e) f0 f1 f3 f4 f5⟩
  self := fun _ _ _ _ _ st h => wpAny_pyIter_rangeiter st h
end L2
namespace L2
open PySem PySem.Spec PyProof.Rows
section
variable {X : Cx} {tg : Expr}
noncomputable def iList (K : PySem.W.Frag) (tl : TE) : TI := fun σ H R => tl σ H fun x H1 => ∃ a, x = .ref a ∧ (∃ xs, SqL K H1 a xs) ∧ R (Itl K a) H1
noncomputable def iTup (K : PySem.W.Frag) (tl : TE) : TI := fun σ H R => tl σ H fun x H1 => ∃ a, x = .ref a ∧ (∃ xs, SqT K H1 a xs) ∧ R (Itt K a) H1
theorem pi_list {l : Expr} {tl : TE} (hl : PE X l tl) : PI X tg l (iList X.K tl) := by
  intro pins s σ H R I h
  refine thn (hl pins s σ H _ I h) fun v s1 hz12 => ?_
  obtain ⟨x, H1, I1, r1, q1⟩ := hz12
  obtain ⟨a, e, ⟨xs, hq⟩, q⟩ := q1
  subst e
  cases r1
  obtain ⟨its, rv, p, hz⟩ := I1.list hq
  refine wpAny_pyIter_list p.isList ?_
  refine ⟨s1.heap.objs.size, [s1.heap.objs.size], _, _, H1, rfl, I1.kept (t' := s1.toks) fun b o e => Heap.get?_push_of_some _ e, turn_list a _, ⟨_, Heap.get?_push_size _ rfl, rfl, rfl⟩, fun b hb => ?_, q⟩
  have e : b = s1.heap.objs.size := by simpa using hb
  subst e
  exact I1.fpOk (Nat.le_refl _) (I1.hok.fresh (Nat.le_refl _))
theorem pi_tup {l : Expr} {tl : TE} (hl : PE X l tl) : PI X tg l (iTup X.K tl) := by
  intro pins s σ H R I h
  refine thn (hl pins s σ H _ I h) fun v s1 hz13 => ?_
  obtain ⟨x, H1, I1, r1, q1⟩ := hz13
  obtain ⟨a, e, ⟨xs, hq⟩, q⟩ := q1
  subst e
  cases r1
  obtain ⟨its, rv, p, hz⟩ := I1.tuple hq
  refine wpAny_pyIter_tuple (show s1.heap.IsTuple a its.toArray from p) ?_
  refine ⟨s1.heap.objs.size, [s1.heap.objs.size], _, _, H1, rfl, I1.kept (t' := s1.toks) fun b o e => Heap.get?_push_of_some _ e, turn_tuple a _, ⟨_, Heap.get?_push_size _ rfl, rfl, rfl⟩, fun b hb => ?_, q⟩
  have e : b = s1.heap.objs.size := by simpa using hb
  subst e
  exact I1.fpOk (Nat.le_refl _) (I1.hok.fresh (Nat.le_refl _))
theorem range_it {pins : List (Addr × Obj)} {σ : St} {H : Hp} {s : Shared} {R : It → Hp → Prop} {E : Value → Shared → Prop} {lo hi : Int} {t u v : Tok} {tk : Nat} (I : Inv X pins σ H s) (h1 : -(2 ^ 62) ≤ lo) (h2 : lo < 2 ^ 62) (h3 : -(2 ^ 62) ≤ hi) (h4 : hi < 2 ^ 62)
    (q : R (Itr lo (hi - lo).toNat) H) : wpAny (model X.prog X.w) X.A (pyIter (.ref s.heap.objs.size)) (PIE X pins σ tg R) E { s with heap := s.heap.push { cls := .type "range", data := .fields #[.int lo t, .int hi u, .int 1 v] }, toks := tk } := by
  refine wpAny_pyIter_range (IsRange.new ..) (small_one h1 h2 h3 h4) ?_
  have I1 : Inv X pins σ H { s with heap := s.heap.push { cls := .type "range", data := .fields #[.int lo t, .int hi u, .int 1 v] }, toks := tk } := I.kept fun b o e => Heap.get?_push_of_some _ e
  refine ⟨(s.heap.push { cls := .type "range", data := .fields #[.int lo t, .int hi u, .int 1 v] }).objs.size, [(s.heap.push { cls := .type "range", data := .fields #[.int lo t, .int hi u, .int 1 v] }).objs.size], _, _, H, rfl,
    I1.kept (t' := tk) fun b o e => Heap.get?_push_of_some _ e, turn_range _ lo (hi - lo).toNat, ?_, fun b hb => ?_, q⟩
  · have e1 : lo + ((0 : Nat) : Int) * 1 = lo := by simp
    have e2 : (((hi - lo).toNat : Nat) : Int) - ((0 : Nat) : Int) = Builtin.Range.rangeSize lo hi 1 := by rw [rangeSize_one]; split <;> lia
    show IsRangeIter _ _ (lo + ((0 : Nat) : Int) * 1) ((((hi - lo).toNat : Nat) : Int) - ((0 : Nat) : Int)) 1
    rw [e1, e2]
    exact Heap.get?_push_size _ rfl
  · have e : b = (s.heap.push { cls := .type "range", data := .fields #[.int lo t, .int hi u, .int 1 v] }).objs.size := by simpa using hb
    subst e
    exact I1.fpOk (Nat.le_refl _) (I1.hok.fresh (Nat.le_refl _))
noncomputable def iRng1 (ta : TA) : TI := fun σ H R => ta σ H fun vs H1 => ∃ j : Int, vs = [.int j] ∧ -(2 ^ 62) ≤ j ∧ j < 2 ^ 62 ∧ R (Itr 0 j.toNat) H1
theorem pi_range1 {a : Expr} {ta : TA} {p pos : Pos} (hg : Gl X "range") (hm : X.mg "range" = none) (ha : PA X [a] ta) (hs : starEach [a] X.env = [(false, eval a X.env)] := by rfl) : PI X tg (.Call (.Name "range" p) [a] [] pos) (iRng1 ta) := by
  intro pins s σ H R I h
  refine Call_ (ld_blt I hg hm boot_range (PyProof.Rows.callWith_type1 (thn (ha pos pins s σ H _ I h) fun us s1 hz14 => ?_) hs rfl))
  obtain ⟨vs, H1, I1, r1, q1⟩ := hz14
  obtain ⟨j, e, q1, q2, q⟩ := q1
  subst e
  cases r1 with
  | cons r rr =>
    cases rr
    obtain ⟨t, rfl⟩ := r
    exact call_range_1 (range_it I1 (by lia) (by lia) q1 q2 (by simpa using q))
noncomputable def tFor (wi : TI) (g : TG) (tb : TS) : TS := fun D σ H => wi σ H fun J H1 => ∃ W : Nat → Nat → St → Hp → Prop, (∃ m, W 0 m σ H1) ∧ ∀ i m σ H, W i m σ H →
  (J.stop i H ∧ D.nx σ H) ∨ (J.go i H ∧ ∃ N : St → Hp → Prop, (∀ σ' H', N σ' H' → ∃ m', m' < m ∧ W (i + 1) m' σ' H') ∧ ∀ x H', J.yld i H x H' → g x σ H' fun σ2 H2 => tb { D with nx := N, ct := N, bk := D.nx } σ2 H2)
noncomputable def pinsAt (fp : List Addr) (h : Heap) : List (Addr × Obj) := fp.filterMap fun b => (h.get? b).map fun o => (b, o)
theorem mem_pinsAt {fp : List Addr} {h : Heap} {b : Addr} {o : Obj} (hb : b ∈ fp) (e : h.get? b = some o) : (b, o) ∈ pinsAt fp h := List.mem_filterMap.mpr ⟨b, hb, by rw [e]; rfl⟩
theorem of_pinsAt {fp : List Addr} {h : Heap} {p : Addr × Obj} (hp : p ∈ pinsAt fp h) : p.1 ∈ fp ∧ h.get? p.1 = some p.2 := by
  obtain ⟨b, hb, e⟩ := List.mem_filterMap.mp hp
  cases q : h.get? b with
  | none => rw [q] at e; cases e
  | some o =>
    rw [q] at e
    have e' : (b, o) = p := Option.some.inj e
    subst e'
    exact ⟨hb, q⟩
theorem Inv.pinned {pins : List (Addr × Obj)} {σ : St} {H : Hp} {s : Shared} {fp : List Addr} (I : Inv X pins σ H s) (hf : ∀ b ∈ fp, FpOk X pins H b) (ho : ∀ b ∈ fp, ∃ o, s.heap.get? b = some o ∧ ∀ v, o.data ≠ .cell v) : Inv X (pins ++ pinsAt fp s.heap) σ H s :=
  I.pins_of fun p hp => (List.mem_append.mp hp).elim (fun z => I.pin p (List.mem_append_right _ z)) fun z => by
    obtain ⟨hb, e⟩ := of_pinsAt z
    obtain ⟨f0, f1, f2, _⟩ := hf p.1 hb
    obtain ⟨o, e', d⟩ := ho p.1 hb
    rw [e] at e'; cases e'
    exact ⟨e, f0, f1, f2, d⟩
theorem Inv.unpinned {pins pl : List (Addr × Obj)} {σ : St} {H : Hp} {s : Shared} (I : Inv X (pins ++ pl) σ H s) : Inv X pins σ H s := I.pins_of fun p hp => I.pin p (List.mem_append_right _ (List.mem_append_left _ hp))
theorem ps_for {iter : Expr} {body : List Stmt} {wi : TI} {g : TG} {tb : TS} {pos : Pos} (hp : PassesOwn (model X.prog X.w) X.A X.env X.xe) (hc : X.calm = true) (hi : PI X tg iter wi) (hg : PG X tg g) (hb : PSs X body tb)
    (hs : ∀ x, foldedSetIterable iter X.env x = pure x := by intro _; rfl) : PS X (.For tg iter body [] pos) (tFor wi g tb) := by
  intro pins s σ H D I h
  refine wpAny_For (thn (hi pins s σ H _ I h) fun v s1 h1 => thn h1 fun itv s2 h2 => ?_) hs
  obtain ⟨it, fp, tn, J, H2, e, I2, T, st2, f2, W, ⟨m0, w0⟩, turn⟩ := h2
  subst e
  -- what stays true of the iterator's objects through the loop
  have stat : ∀ {H' : Hp}, (∀ b ∈ fp, H' b = none) → ∀ b ∈ fp, FpOk X pins H' b := fun hn b hb => ⟨hn b hb, (f2 b hb).2⟩
  refine codeAny_forLoop_any (fun n s' => ∃ i σ' H', Inv X pins σ' H' s' ∧ tn i s'.heap ∧ (∀ b ∈ fp, H' b = none) ∧ W i n σ' H') ?_ m0 ⟨0, σ, H2, I2, st2, fun b hb => (f2 b hb).1, w0⟩
  rintro n s3 ⟨i, σ3, H3, I3, st3, fr3, w3⟩
  rcases turn i n σ3 H3 w3 with ⟨stop, qn⟩ | ⟨go, N, hN, step⟩
  · refine wpAny_passesOwn hp (thn (T.done X rfl rfl rfl hc i pins s3 σ3 H3 X.xe I3 (stat fr3) st3 stop) fun r s4 hz15 => ?_)
    obtain ⟨hr, I4⟩ := hz15
    subst hr
    exact wpAny_execs_nil ⟨σ3, H3, I4, qn⟩
  · refine wpAny_passesOwn hp (thn (T.item X rfl rfl rfl hc i pins s3 σ3 H3 X.xe I3 (stat fr3) st3 go) fun r s4 hz16 => ?_)
    obtain ⟨u, hr, h4⟩ := hz16
    subst hr
    refine wpAny_passesOwn hp (thn h4 fun _ s5 hz17 => ?_)
    obtain ⟨x, H5, I5, r5, y5, st5, fr5⟩ := hz17
    have I5' := I5.pinned (stat fr5) (T.obj _ _ st5)
    refine wpAny_passesOwn hp (thn (hg _ s5 σ3 H5 x u _ I5' r5 (step x H5 y5)) fun _ s6 hz18 => ?_)
    obtain ⟨σ6, H6, I6, q6⟩ := hz18
    refine wpAny_passesOwn hp (thn (hb _ s6 σ6 H6 _ I6 q6) fun f s7 q7 => ?_)
    have again : ∀ {σ7 : St} {H7 : Hp}, Inv X (pins ++ pinsAt fp s5.heap) σ7 H7 s7 → N σ7 H7 → ∃ m, m < n ∧ ∃ i σ' H', Inv X pins σ' H' s7 ∧ tn i s7.heap ∧ (∀ b ∈ fp, H' b = none) ∧ W i m σ' H' := fun {σ7 H7} I7 n7 => by
      obtain ⟨m', hm, w7⟩ := hN σ7 H7 n7
      refine ⟨m', hm, i + 1, σ7, H7, I7.unpinned, T.keep _ _ _ st5 fun b hb o e => (I7.pin (b, o) (List.mem_append_right _ (List.mem_append_right _ (mem_pinsAt hb e)))).1, fun b hb => ?_, w7⟩
      obtain ⟨o, e, d⟩ := T.obj _ _ st5 b hb
      exact (I7.pin (b, o) (List.mem_append_right _ (List.mem_append_right _ (mem_pinsAt hb e)))).2.1
    cases f with
    | next => obtain ⟨σ7, H7, I7, n7⟩ := q7; exact again I7 n7
    | cont => obtain ⟨σ7, H7, I7, n7⟩ := q7; exact again I7 n7
    | brk => obtain ⟨σ7, H7, I7, q7⟩ := q7; exact ⟨σ7, H7, I7.unpinned, q7⟩
    | ret v => obtain ⟨x7, σ7, H7, I7, r7, q7⟩ := q7; exact ⟨x7, σ7, H7, I7.unpinned, r7, q7⟩
end
theorem for_list {K : PySem.W.Frag} {a : Addr} {xs : List V} {g : TG} {tb : TS} {D : Ends} {σ : St} {H : Hp} (Pv : Nat → St → Hp → Prop) (h0 : Pv 0 σ H) (hl : ∀ i σ H, i ≤ xs.length → Pv i σ H → SqL K H a xs)
    (hs : ∀ i x σ H, xs[i]? = some x → Pv i σ H → g x σ H fun σ2 H2 => tb { D with nx := Pv (i + 1), ct := Pv (i + 1), bk := D.nx } σ2 H2) (hd : ∀ σ H, Pv xs.length σ H → D.nx σ H) :
    ∃ W : Nat → Nat → St → Hp → Prop, (∃ m, W 0 m σ H) ∧ ∀ i m σ H, W i m σ H →
      ((Itl K a).stop i H ∧ D.nx σ H) ∨ ((Itl K a).go i H ∧ ∃ N : St → Hp → Prop, (∀ σ' H', N σ' H' → ∃ m', m' < m ∧ W (i + 1) m' σ' H') ∧ ∀ x H', (Itl K a).yld i H x H' → g x σ H' fun σ2 H2 => tb { D with nx := N, ct := N, bk := D.nx } σ2 H2) := by
  refine ⟨fun i m σ H => m = xs.length - i ∧ i ≤ xs.length ∧ Pv i σ H, ⟨xs.length, by simp, Nat.zero_le _, h0⟩, ?_⟩
  rintro i m σ H ⟨rfl, hi, p⟩
  have q := hl i σ H hi p
  by_cases hlt : i < xs.length
  · refine .inr ⟨⟨xs, xs[i], q, by simp [hlt]⟩, Pv (i + 1), fun σ' H' p' => ⟨xs.length - (i + 1), by lia, rfl, hlt, p'⟩, fun x H' y => ?_⟩
    obtain ⟨e, y⟩ := y
    subst e
    exact hs i x σ _ (y xs q) p
  · have e : i = xs.length := by lia
    subst e
    exact .inl ⟨⟨xs, q, Nat.le_refl _⟩, hd σ H p⟩
theorem for_tup {K : PySem.W.Frag} {a : Addr} {xs : List V} {g : TG} {tb : TS} {D : Ends} {σ : St} {H : Hp} (Pv : Nat → St → Hp → Prop) (h0 : Pv 0 σ H) (hl : ∀ i σ H, i ≤ xs.length → Pv i σ H → SqT K H a xs)
    (hs : ∀ i x σ H, xs[i]? = some x → Pv i σ H → g x σ H fun σ2 H2 => tb { D with nx := Pv (i + 1), ct := Pv (i + 1), bk := D.nx } σ2 H2) (hd : ∀ σ H, Pv xs.length σ H → D.nx σ H) :
    ∃ W : Nat → Nat → St → Hp → Prop, (∃ m, W 0 m σ H) ∧ ∀ i m σ H, W i m σ H →
      ((Itt K a).stop i H ∧ D.nx σ H) ∨ ((Itt K a).go i H ∧ ∃ N : St → Hp → Prop, (∀ σ' H', N σ' H' → ∃ m', m' < m ∧ W (i + 1) m' σ' H') ∧ ∀ x H', (Itt K a).yld i H x H' → g x σ H' fun σ2 H2 => tb { D with nx := N, ct := N, bk := D.nx } σ2 H2) := by
  refine ⟨fun i m σ H => m = xs.length - i ∧ i ≤ xs.length ∧ Pv i σ H, ⟨xs.length, by simp, Nat.zero_le _, h0⟩, ?_⟩
  rintro i m σ H ⟨rfl, hi, p⟩
  have q := hl i σ H hi p
  by_cases hlt : i < xs.length
  · refine .inr ⟨⟨xs, xs[i], q, by simp [hlt]⟩, Pv (i + 1), fun σ' H' p' => ⟨xs.length - (i + 1), by lia, rfl, hlt, p'⟩, fun x H' y => ?_⟩
    obtain ⟨e, y⟩ := y
    subst e
    exact hs i x σ _ (y xs q) p
  · have e : i = xs.length := by lia
    subst e
    exact .inl ⟨⟨xs, q, Nat.le_refl _⟩, hd σ H p⟩
end L2
namespace L2
open PySem PySem.Spec PyProof.Rows
noncomputable abbrev R2 := V → V → Hp → VK → Prop
noncomputable def OpR (X : Cx) (f : Value → Value → Sem Value) (r : R2) : Prop :=
  ∀ (pins : List (Addr × Obj)) (s : Shared) (σ : St) (H : Hp) (x y : V) (v u : Value) (Q : VK), Inv X pins σ H s → RelV x v → RelV y u → r x y H Q →
    wpAny (model X.prog X.w) X.A (f v u) (EP X pins σ Q) X.xe s
noncomputable def CallR (X : Cx) (f : Value) (r : List V → Hp → VK → Prop) : Prop :=
  ∀ (pins : List (Addr × Obj)) (s : Shared) (σ : St) (H : Hp) (xs : List V) (us : List Value) (Q : VK), Inv X pins σ H s → Vals xs us → r xs H Q →
    wpAny (model X.prog X.w) X.A (call f us) (EP X pins σ Q) X.xe s
noncomputable def tOp (r : R2) (ta tb : TE) : TE := fun σ H Q => ta σ H fun x H1 => tb σ H1 fun y H2 => r x y H2 Q
noncomputable def rI (C : Int → Int → Prop) (g : Int → Int → V) : R2 := fun x y H Q => ∃ i j, x = .int i ∧ y = .int j ∧ C i j ∧ Q (g i j) H
noncomputable def rI0 (g : Int → Int → V) : R2 := fun x y H Q => ∃ i j, x = .int i ∧ y = .int j ∧ Q (g i j) H
section
variable {X : Cx} {a b c : Expr} {ta tb tc : TE} {pos : Pos}
theorem binT (ha : PE X a ta) (hb : PE X b tb) {pins : List (Addr × Obj)} {s : Shared} {σ : St} {H : Hp} {R : V → V → Hp → Prop} (I : Inv X pins σ H s)
    (h : ta σ H fun x H1 => tb σ H1 fun y H2 => R x y H2) {Q : Value → Shared → Prop} {f : Value → Value → Sem Value}
    (hf : ∀ v u s2 x y H2, Inv X pins σ H2 s2 → RelV x v → RelV y u → R x y H2 → wpAny (model X.prog X.w) X.A (f v u) Q X.xe s2) :
    wpAny (model X.prog X.w) X.A (eval a X.env) (fun v s₁ => wpAny (model X.prog X.w) X.A (eval b X.env) (fun u s₂ => wpAny (model X.prog X.w) X.A (f v u) Q X.xe s₂) X.xe s₁) X.xe s := by
  refine thn (ha pins s σ H _ I h) fun v s1 hz19 => ?_
  obtain ⟨x, H1, I1, r1, q1⟩ := hz19
  refine thn (hb pins s1 σ H1 _ I1 q1) fun u s2 hz20 => ?_
  obtain ⟨y, H2, I2, r2, q2⟩ := hz20
  exact hf v u s2 x y H2 I2 r1 r2 q2
theorem pe_op {op : Operator} {r : R2} (ho : OpR X (binaryOp op) r) (ha : PE X a ta) (hb : PE X b tb) : PE X (.BinOp a op b pos) (tOp r ta tb) := by
  intro pins s σ H Q I h
  exact wpAny_BinOp (binT ha hb I h fun v u s2 x y H2 I2 rx ry q => ho pins s2 σ H2 x y v u Q I2 rx ry q)
theorem opI {f : Value → Value → Sem Value} {C : Int → Int → Prop} {g : Int → Int → Int}
    (rule : ∀ (i j : Int) (t u : Tok) (s : Shared) (Q : Value → Shared → Prop) (E : Value → Shared → Prop), C i j → Q (.int (g i j) s.toks) { s with toks := s.toks + 1 } → wpAny (model X.prog X.w) X.A (f (.int i t) (.int j u)) Q E s) :
    OpR X f (rI C fun i j => .int (g i j)) := by
  intro pins s σ H x y v u Q I rx ry h
  obtain ⟨i, j, rfl, rfl, hc, q⟩ := h
  obtain ⟨t, rfl⟩ := rx
  obtain ⟨t', rfl⟩ := ry
  exact rule i j t t' s _ _ hc ⟨.int (g i j), H, I.tok _, ⟨_, rfl⟩, q⟩
theorem opI0 {f : Value → Value → Sem Value} {g : Int → Int → Int}
    (rule : ∀ (i j : Int) (t u : Tok) (s : Shared) (Q : Value → Shared → Prop) (E : Value → Shared → Prop), Q (.int (g i j) s.toks) { s with toks := s.toks + 1 } → wpAny (model X.prog X.w) X.A (f (.int i t) (.int j u)) Q E s) :
    OpR X f (rI0 fun i j => .int (g i j)) := by
  intro pins s σ H x y v u Q I rx ry h
  obtain ⟨i, j, rfl, rfl, q⟩ := h
  obtain ⟨t, rfl⟩ := rx
  obtain ⟨t', rfl⟩ := ry
  exact rule i j t t' s _ _ ⟨.int (g i j), H, I.tok _, ⟨_, rfl⟩, q⟩
theorem opB0 {f : Value → Value → Sem Value} {g : Int → Int → Bool}
    (rule : ∀ (i j : Int) (t u : Tok) (s : Shared) (Q : Value → Shared → Prop) (E : Value → Shared → Prop), Q (.bool (g i j)) s → wpAny (model X.prog X.w) X.A (f (.int i t) (.int j u)) Q E s) :
    OpR X f (rI0 fun i j => .bl (g i j)) := by
  intro pins s σ H x y v u Q I rx ry h
  obtain ⟨i, j, rfl, rfl, q⟩ := h
  obtain ⟨t, rfl⟩ := rx
  obtain ⟨t', rfl⟩ := ry
  exact rule i j t t' s _ _ ⟨.bl (g i j), H, I, rfl, q⟩
noncomputable def CDiv (i j : Int) : Prop := 0 < j ∧ j < 1073741824
noncomputable def CMul (i j : Int) : Prop := (-(2 ^ 64) < i ∧ i < 2 ^ 64) ∨ (-(2 ^ 64) < j ∧ j < 2 ^ 64)
theorem CMul.ok {i j : Int} (h : CMul i j) : IntMulOk i j := by
  rcases h with ⟨h1, h2⟩ | ⟨h1, h2⟩
  · exact .of_left (intBits_le_64 h1 h2)
  · exact .of_right (intBits_le_64 h1 h2)
theorem op_add : OpR X (binaryOp .Add) (rI0 fun i j => .int (i + j)) := opI0 fun _ _ _ _ _ _ _ q => add_int q
theorem op_sub : OpR X (binaryOp .Sub) (rI0 fun i j => .int (i - j)) := opI0 fun _ _ _ _ _ _ _ q => sub_int q
theorem op_mul : OpR X (binaryOp .Mult) (rI CMul fun i j => .int (i * j)) := opI fun _ _ _ _ _ _ _ hc q => mul_int q hc.ok
theorem op_fdiv : OpR X (binaryOp .FloorDiv) (rI CDiv fun i j => .int (i / j)) := opI fun i j _ _ _ _ _ hc q => by
  have h1 : (0 : Int) < j := hc.1
  have h2 : j < 1073741824 := hc.2
  exact floordiv_int (by lia) (by rw [Int.fdiv_eq_ediv_of_nonneg i (by lia)]; exact q) (.inl (PyProof.noPylong_small (by lia)))
theorem op_mod : OpR X (binaryOp .Mod) (rI (fun _ j => 0 < j) fun i j => .int (i % j)) := opI fun i j _ _ _ _ _ hc q => by
  have h1 : (0 : Int) < j := hc
  exact mod_int' (by lia) (by rw [Int.fmod_eq_emod_of_nonneg i (by lia)]; exact q)
end
noncomputable def scal : V → V → Bool
  | .non, .non => true | .non, .int _ => true | .int _, .non => true | .non, .bl _ => true | .bl _, .non => true | .non, .str _ => true | .str _, .non => true
  | .int _, .int _ => true | .bl _, .bl _ => true | .str _, .str _ => true | .byt _, .byt _ => true
  | .int _, .str _ => true | .str _, .int _ => true | .bl _, .str _ => true | .str _, .bl _ => true
  | _, _ => false
noncomputable def rEq : R2 := fun x y H Q => scal x y = true ∧ Q (.bl (decide (x = y))) H
noncomputable def rNe : R2 := fun x y H Q => scal x y = true ∧ Q (.bl (!decide (x = y))) H
theorem dec_int {i j : Int} : decide (V.int i = V.int j) = (i == j) := by
  rw [Bool.eq_iff_iff]
  simp
theorem dec_bl {i j : Bool} : decide (V.bl i = V.bl j) = (i == j) := by
  rw [Bool.eq_iff_iff]
  simp
theorem dec_str {i j : Str} : decide (V.str i = V.str j) = (i == j) := by
  rw [Bool.eq_iff_iff]
  simp
theorem dec_byt {i j : Array UInt8} : decide (V.byt i = V.byt j) = (i.toList == j.toList) := by
  rw [Bool.eq_iff_iff]
  cases i
  cases j
  simp
section
variable {X : Cx} {a b c : Expr} {ta tb tc : TE} {pos : Pos}
theorem fin_bl {pins : List (Addr × Obj)} {σ : St} {H : Hp} {s : Shared} {Q : VK} {k k' : Bool} (I : Inv X pins σ H s) (q : Q (.bl k) H) (e : k = k') : EP X pins σ Q (.bool k') s := by
  subst e
  exact ⟨.bl k, H, I, rfl, q⟩
theorem op_eq : OpR X (compareOp .Eq) rEq := by
  intro pins s σ H x y v u Q I rx ry h
  obtain ⟨hs, q⟩ := h
  cases x with
  | non =>
    cases rx
    cases y with
    | non => cases ry; exact PySem.EqNone.eq_none_none (fin_bl I q (by simp))
    | bl j => cases ry; exact PySem.EqNone.eq_none_bool (fin_bl I q (by simp))
    | int j => obtain ⟨t', rfl⟩ := ry; exact PySem.EqNone.eq_none_int (fin_bl I q (by simp))
    | str j => obtain ⟨t', rfl⟩ := ry; exact PySem.EqNone.eq_none_str (fin_bl I q (by simp))
    | _ => exact absurd (show false = true from hs) Bool.false_ne_true
  | bl i =>
    cases rx
    cases y with
    | non => cases ry; exact PySem.EqNone.eq_bool_none (fin_bl I q (by simp))
    | bl j => cases ry; exact eq_bool (fin_bl I q dec_bl)
    | str j => obtain ⟨t', rfl⟩ := ry; exact PySem.EqMixed.eq_bool_str (fin_bl I q (by simp))
    | _ => exact absurd (show false = true from hs) Bool.false_ne_true
  | int i =>
    obtain ⟨t, rfl⟩ := rx
    cases y with
    | non => cases ry; exact PySem.EqNone.eq_int_none (fin_bl I q (by simp))
    | int j => obtain ⟨t', rfl⟩ := ry; exact eq_int (fin_bl I q dec_int)
    | str j => obtain ⟨t', rfl⟩ := ry; exact PySem.EqMixed.eq_int_str (fin_bl I q (by simp))
    | _ => exact absurd (show false = true from hs) Bool.false_ne_true
  | str i =>
    obtain ⟨t, rfl⟩ := rx
    cases y with
    | non => cases ry; exact PySem.EqNone.eq_str_none (fin_bl I q (by simp))
    | bl j => cases ry; exact PySem.EqMixed.eq_str_bool (fin_bl I q (by simp))
    | int j => obtain ⟨t', rfl⟩ := ry; exact PySem.EqMixed.eq_str_int (fin_bl I q (by simp))
    | str j => obtain ⟨t', rfl⟩ := ry; exact eq_str (fin_bl I q dec_str)
    | _ => exact absurd (show false = true from hs) Bool.false_ne_true
  | byt i =>
    obtain ⟨t, rfl⟩ := rx
    cases y with
    | byt j => obtain ⟨t', rfl⟩ := ry; exact PySem.W.eq_bytes (fin_bl I q dec_byt)
    | _ => exact absurd (show false = true from hs) Bool.false_ne_true
  | _ => cases y <;> exact absurd (show false = true from hs) Bool.false_ne_true
theorem op_ne : OpR X (compareOp .NotEq) rNe := by
  intro pins s σ H x y v u Q I rx ry h
  obtain ⟨hs, q⟩ := h
  cases x with
  | non =>
    cases rx
    cases y with
    | non => cases ry; exact PySem.EqNone.ne_none_none (fin_bl I q (by simp))
    | bl j => cases ry; exact PySem.EqNone.ne_none_bool (fin_bl I q (by simp))
    | int j => obtain ⟨t', rfl⟩ := ry; exact PySem.EqNone.ne_none_int (fin_bl I q (by simp))
    | str j => obtain ⟨t', rfl⟩ := ry; exact PySem.EqNone.ne_none_str (fin_bl I q (by simp))
    | _ => exact absurd (show false = true from hs) Bool.false_ne_true
  | bl i =>
    cases rx
    cases y with
    | non => cases ry; exact PySem.EqNone.ne_bool_none (fin_bl I q (by simp))
    | bl j => cases ry; exact ne_bool (fin_bl I q (congrArg not dec_bl))
    | str j => obtain ⟨t', rfl⟩ := ry; exact PySem.EqMixed.ne_bool_str (fin_bl I q (by simp))
    | _ => exact absurd (show false = true from hs) Bool.false_ne_true
  | int i =>
    obtain ⟨t, rfl⟩ := rx
    cases y with
    | non => cases ry; exact PySem.EqNone.ne_int_none (fin_bl I q (by simp))
    | int j => obtain ⟨t', rfl⟩ := ry; exact ne_int (fin_bl I q (congrArg not dec_int))
    | str j => obtain ⟨t', rfl⟩ := ry; exact PySem.EqMixed.ne_int_str (fin_bl I q (by simp))
    | _ => exact absurd (show false = true from hs) Bool.false_ne_true
  | str i =>
    obtain ⟨t, rfl⟩ := rx
    cases y with
    | non => cases ry; exact PySem.EqNone.ne_str_none (fin_bl I q (by simp))
    | bl j => cases ry; exact PySem.EqMixed.ne_str_bool (fin_bl I q (by simp))
    | int j => obtain ⟨t', rfl⟩ := ry; exact PySem.EqMixed.ne_str_int (fin_bl I q (by simp))
    | str j => obtain ⟨t', rfl⟩ := ry; exact ne_str (fin_bl I q (congrArg not dec_str))
    | _ => exact absurd (show false = true from hs) Bool.false_ne_true
  | byt i =>
    obtain ⟨t, rfl⟩ := rx
    cases y with
    | byt j => obtain ⟨t', rfl⟩ := ry; exact PySem.W.ne_bytes (fin_bl I q (congrArg not dec_byt))
    | _ => exact absurd (show false = true from hs) Bool.false_ne_true
  | _ => cases y <;> exact absurd (show false = true from hs) Bool.false_ne_true
theorem op_lt : OpR X (compareOp .Lt) (rI0 fun i j => .bl (decide (i < j))) := opB0 fun _ _ _ _ _ _ _ q => lt_int q
theorem op_le : OpR X (compareOp .LtE) (rI0 fun i j => .bl (decide (i ≤ j))) := opB0 fun _ _ _ _ _ _ _ q => le_int q
theorem op_gt : OpR X (compareOp .Gt) (rI0 fun i j => .bl (decide (j < i))) := opB0 fun _ _ _ _ _ _ _ q => gt_int q
theorem op_ge : OpR X (compareOp .GtE) (rI0 fun i j => .bl (decide (j ≤ i))) := opB0 fun _ _ _ _ _ _ _ q => ge_int q
theorem nomark (b : Expr) {op : CmpOp} (h : op ≠ .In := by decide) (h2 : op ≠ .NotIn := by decide) : behindInMarks op b = false := by
  have e1 : (op == CmpOp.In) = false := by cases op <;> first | rfl | exact absurd rfl h
  have e2 : (op == CmpOp.NotIn) = false := by cases op <;> first | rfl | exact absurd rfl h2
  cases b <;> simp [behindInMarks, e1, e2]
theorem pe_cmpR {op : CmpOp} {r : R2} (ho : OpR X (compareOp op) r) (ha : PE X a ta) (hb : PE X b tb) (hm : behindInMarks op b = false) : PE X (.Compare a [op] [b] pos) (tOp r ta tb) := by
  intro pins s σ H Q I h
  exact wpAny_Compare1 (binT ha hb I h fun v u s2 x y H2 I2 rx ry q => ho pins s2 σ H2 x y v u Q I2 rx ry q) hm
noncomputable def tTest (t : TE) : TT := fun σ H Q => t σ H fun x H' => ∃ k, x = .bl k ∧ Q k H'
theorem pt_cmpR {op : CmpOp} {r : R2} (ho : OpR X (compareOp op) r) (ha : PE X a ta) (hb : PE X b tb) (hm : behindInMarks op b = false) : PT X (.Compare a [op] [b] pos) (tTest (tOp r ta tb)) := by
  intro pins s σ H Q I h
  refine wpAny_isTrue_Compare1 (thn (ha pins s σ H _ I h) fun v s1 ⟨x, H1, I1, r1, q1⟩ => thn (hb pins s1 σ H1 _ I1 q1) fun u s2 ⟨y, H2, I2, r2, q2⟩ =>
    thn (ho pins s2 σ H2 x y v u _ I2 r1 r2 q2) fun c s3 ⟨z, H3, I3, r3, k, e, q3⟩ => ?_) hm
  subst e
  cases r3
  exact wpAny_truthy_bool ⟨H3, I3, q3⟩
noncomputable def tChain (r r' : R2) (ta tb tc : TE) : TE := fun σ H Q => ta σ H fun x H1 => tb σ H1 fun y H2 => r x y H2 fun z H3 => ∃ k, z = .bl k ∧
  (if k = true then tc σ H3 fun w' H4 => r' y w' H4 Q else Q (.bl false) H3)
theorem pe_chain {op op' : CmpOp} {r r' : R2} (ho : OpR X (compareOp op) r) (ho' : OpR X (compareOp op') r') (ha : PE X a ta) (hb : PE X b tb) (hc : PE X c tc)
    (hm : lastMarks [op, op'] [b, c] = false := by with_unfolding_all rfl) : PE X (.Compare a [op, op'] [b, c] pos) (tChain r r' ta tb tc) := by
  intro pins s σ H Q I h
  refine Compare_chain (thn (ha pins s σ H _ I h) fun v s1 ⟨x, H1, I1, r1, q1⟩ => chain_link (thn (hb pins s1 σ H1 _ I1 q1) fun u s2 ⟨y, H2, I2, r2, q2⟩ =>
    thn (ho pins s2 σ H2 x y v u _ I2 r1 r2 q2) fun d s3 ⟨z, H3, I3, r3, k, e, q3⟩ => ?_)) hm
  subst e
  cases r3
  refine wpAny_truthy_bool ?_
  cases k with
  | false => exact ite_ff ⟨.bl false, H3, I3, rfl, q3⟩
  | true => exact ite_tt (chain_last (thn (hc pins s3 σ H3 _ I3 q3) fun w' s4 ⟨z', H4, I4, r4, q4⟩ => ho' pins s4 σ H4 y z' u w' Q I4 r2 r4 q4))
theorem line63 : (sizeLine : Nat) < 2 ^ 63 := by rw [sizeLine_eq]; decide
theorem vals1 {x : V} {us : List Value} (r : Vals [x] us) : ∃ u, us = [u] ∧ RelV x u := by
  cases r with
  | cons r1 r2 => cases r2; exact ⟨_, rfl, r1⟩
theorem vals2 {x y : V} {us : List Value} (r : Vals [x, y] us) : ∃ u w', us = [u, w'] ∧ RelV x u ∧ RelV y w' := by
  cases r with
  | cons r1 r2 =>
    cases r2 with
    | cons r3 r4 => cases r4; exact ⟨_, _, rfl, r1, r3⟩
theorem call_max2 (hc : X.calm = true) : CallR X (.builtin "max") (fun xs H Q => ∃ i j, xs = [.int i, .int j] ∧ Q (.int (if j > i then j else i)) H) := by
  intro pins s σ H xs us Q I r h
  obtain ⟨i, j, rfl, q⟩ := h
  obtain ⟨u, w', rfl, ⟨t, rfl⟩, ⟨t', rfl⟩⟩ := vals2 r
  refine max_two_ints (I.ok.hd hc) fun h' tk k => ⟨_, H, I.kept k, ?_, q⟩
  by_cases hj : j > i
  · rw [if_pos hj, if_pos hj]; exact ⟨_, rfl⟩
  · rw [if_neg hj, if_neg hj]; exact ⟨_, rfl⟩
theorem call_min2 (hc : X.calm = true) : CallR X (.builtin "min") (fun xs H Q => ∃ i j, xs = [.int i, .int j] ∧ Q (.int (if j < i then j else i)) H) := by
  intro pins s σ H xs us Q I r h
  obtain ⟨i, j, rfl, q⟩ := h
  obtain ⟨u, w', rfl, ⟨t, rfl⟩, ⟨t', rfl⟩⟩ := vals2 r
  refine min_two_ints (I.ok.hd hc) fun h' tk k => ⟨_, H, I.kept k, ?_, q⟩
  by_cases hj : j < i
  · rw [if_pos hj, if_pos hj]; exact ⟨_, rfl⟩
  · rw [if_neg hj, if_neg hj]; exact ⟨_, rfl⟩
end
end L2
namespace L2
open PySem PySem.Spec PyProof.Rows
structure ObjM (h : Heap) (x dx C : Addr) (mA : Str → Option Value) : Prop where
  obj : h.get? x = some (PySem.W.instObj C dx)
  ns : h.Ns1 dx mA
  ne : dx ≠ x
theorem lookIn_ns {h : Heap} {dx : Addr} {mA : Str → Option Value} (n : h.Ns1 dx mA) : ∃ od, h.get? dx = some od ∧ ∀ name, PySem.W.lookIn name od = some (mA name) := by
  obtain ⟨o, es, ep, ho, hd, hk, _, hm⟩ := n
  refine ⟨o, ho, fun name => ?_⟩
  have e := hm name
  unfold nsFind findBy at e
  rw [← Array.find?_toList] at e
  unfold PySem.W.lookIn
  rw [hd]
  dsimp only
  split
  · rename_i y q
    rw [q] at e
    exact congrArg some e
  · rename_i q
    rw [q] at e
    have a : es.toList.any (·.refKey) = false := by
      rw [List.any_eq_false]
      intro y hy
      obtain ⟨z, t, hkey⟩ := hk y (Array.mem_toList_iff.mp hy)
      simp [DictEntry.refKey, hkey]
    have a' : ¬ es.toList.any (·.refKey) = true := by rw [a]; exact Bool.false_ne_true
    rw [if_neg a']
    exact congrArg some e
theorem ObjM.look {h : Heap} {x dx C : Addr} {mA : Str → Option Value} (I : ObjM h x dx C mA) : ∃ od, PySem.W.InstAt h x (PySem.W.instObj C dx) C (some od) ∧ ∀ name, PySem.W.lookIn name od = some (mA name) :=
  let ⟨od, ho, hl⟩ := lookIn_ns I.ns
  ⟨od, ⟨I.obj, rfl, rfl, ho⟩, hl⟩
section
variable {prog : Program} {w : World} {A : Around} {E : Value → Shared → Prop} {s : Shared} {K : PySem.W.Frag} {x dx C f : Addr} {mA : Str → Option Value} {name : Str} {v : Value}
theorem get_map {expr : Bool} {Q : Value → Shared → Prop} (X : K.In s.heap) (I : ObjM s.heap x dx C mA) (hg : PySem.W.plainGet K C name = true) (hh : PySem.W.hasDictIn K C = true)
    (ha : PySem.W.findIn K (.ref C) name = some none) (hv : mA name = some v) (hv' : PySem.W.handedIn v = true) (h : Q v { s with toks := s.toks + 1 }) :
    wpAny (model prog w) A (getAttr (.ref x) name expr) Q E s := by
  obtain ⟨od, J, hl⟩ := I.look
  exact PySem.W.get_value X J (PySem.W.plainGet_of hg).1 (PySem.W.findObj_own hh ha rfl (by rw [hl, hv])) hv' h
theorem get_meth {pl : Sem Bool} {Q : Value × List Value → Shared → Prop} (X : K.In s.heap) (I : ObjM s.heap x dx C mA) (hg : PySem.W.plainGet K C name = true)
    (hf : PySem.W.findIn K (.ref C) name = some (some (.ref f))) (ht : PySem.W.isFn K (.ref f) = true) (hv : mA name = none) (h : Q (.ref f, [.ref x]) s) :
    wpAny (model prog w) A (getMethod (.ref x) name pl) Q E s := by
  obtain ⟨od, J, hl⟩ := I.look
  exact PySem.W.method_fn X J (PySem.W.plainGet_of hg).1 (PySem.W.plainGet_of hg).2 hf (beq_iff_eq.mp ht) (by show (PySem.W.lookIn name od).map (·.isSome) = some false; rw [hl, hv]; rfl) h
theorem set_map {ns : List Str} {Q : Unit → Shared → Prop} (X : K.In s.heap) (I : ObjM s.heap x dx C mA)
    (hs : PySem.W.findIn K (.ref C) "__setattr__" = some (some (.builtin "object.__setattr__"))) (hp : PySem.W.plainOver K C = true) (ht : PySem.W.takerIn K C name = some none) (hh : PySem.W.hasDictIn K C = true)
    (hw : PySem.Within mA ns) (hsz : ns.length ≤ sizeLine)
    (h : ∀ h', ObjM h' x dx C (fun y => if y = name then some v else mA y) → Heap.SameBut dx s.heap h' → Q () { s with heap := h', toks := s.toks + 2 }) :
    wpAny (model prog w) A (setAttr (.ref x) name v) Q E s := by
  obtain ⟨od, J, hl⟩ := I.look
  refine PySem.W.set_plain X J hs (PySem.W.osa_open (s := { s with toks := s.toks + 1 }) (r := none) X J hp ht fun b => ?_)
  obtain ⟨cd, hc, hd'⟩ := PySem.W.any_some hh
  have hx : s.heap.get? x = some ⟨.ref C, some dx, .plain, #[]⟩ := I.obj
  refine wpAny_bind (wpAny_pure (wpAny_bind (wpAny_bind (wpAny_loadPart hx (wpAny_bind (PySem.W.Looks.here (s := { s with toks := s.toks + 1 }) (PySem.W.looks_clsIn X hc) ?_))))))
  rw [hd']
  refine wpAny_pure (a := some dx) (wpAny_bind (wpAny_pure (wpAny_bind ?_)))
  refine wpAny_nsSet1 (s := { s with toks := s.toks + 1 }) I.ns fun h' hn2 hs2 => ?_
  obtain ⟨oD, esD, epD, hoD, hdD, hcD⟩ := hn2.count (PySem.Within.cons name v hw)
  refine wpAny_bind (wpAny_lookBehind hoD (by rw [hdD]; exact pastItsLine_dict (Nat.le_trans hcD (by rw [List.length_cons]; lia))) ?_)
  exact wpAny_pure (h _ ⟨(hs2.2 _ (Ne.symm I.ne)).trans I.obj, hn2, I.ne⟩ hs2)
theorem make_map {R : Result → Shared → Prop} {vs : List Value} {kw : List (Str × Value)} (X : K.In s.heap) (hm : PySem.W.makesIn K C = true)
    (hi : PySem.W.findIn K (.ref C) "__init__" = some (some (.ref f))) (hf : PySem.W.typeIn K (.ref f) = some (.type "function"))
    (h : codeAny (model prog w) (A.under (.builtin "type.__call__" ⟨.ref C :: vs, kw⟩)) (.call (.ref f) ⟨.ref (s.heap.objs.size + 1) :: vs, kw⟩) (PySem.W.InitBack (s.heap.objs.size + 1) R)
      { s with heap := (s.heap.push PySem.W.emptyDict).push (PySem.W.instObj C s.heap.objs.size) }) :
    codeAny (model prog w) A (.call (.ref C) ⟨vs, kw⟩) R s := by
  obtain ⟨hh, g, d, t, os⟩ := s
  exact PySem.W.make_core (PySem.W.makes_of X hm) (PySem.W.looks_findIn X hi) (fun self => PySem.W.bind_fn X self hf) (.inl rfl) h
end
noncomputable def putF (f : Str) (v : V) : List (Str × V) → List (Str × V)
  | [] => [(f, v)]
  | (g, x) :: r => if g = f then (g, v) :: r else (g, x) :: putF f v r
theorem lookup_putF (f g : Str) (v : V) : ∀ fs : List (Str × V), (putF f v fs).lookup g = if g = f then some v else fs.lookup g
  | [] => by
    show List.lookup g [(f, v)] = _
    by_cases h : g = f
    · have hb : (g == f) = true := beq_iff_eq.mpr h
      simp only [List.lookup, hb, if_pos h]
    · have hb : (g == f) = false := beq_eq_false_iff_ne.mpr h
      simp only [List.lookup, hb, if_neg h]
  | (k, x) :: r => by
    have ih := lookup_putF f g v r
    rw [show putF f v ((k, x) :: r) = (if k = f then (k, v) :: r else (k, x) :: putF f v r) from rfl]
    by_cases hk : k = f
    · rw [if_pos hk]
      by_cases h : g = k
      · have hb : (g == k) = true := beq_iff_eq.mpr h
        simp only [List.lookup, hb, if_pos (h.trans hk)]
      · have hb : (g == k) = false := beq_eq_false_iff_ne.mpr h
        simp only [List.lookup, hb, if_neg (fun e : g = f => h (e.trans hk.symm))]
    · rw [if_neg hk]
      by_cases h : g = k
      · have hb : (g == k) = true := beq_iff_eq.mpr h
        simp only [List.lookup, hb, if_neg (fun e : g = f => hk (h.symm.trans e))]
      · have hb : (g == k) = false := beq_eq_false_iff_ne.mpr h
        simp only [List.lookup, hb]
        exact ih
theorem keys_putF (f : Str) (v : V) : ∀ fs : List (Str × V), f ∈ (putF f v fs).map (·.1) ∧ ∀ g, g ∈ fs.map (·.1) → g ∈ (putF f v fs).map (·.1)
  | [] => ⟨by simp [putF], fun g h => by simp at h⟩
  | (k, x) :: r => by
    obtain ⟨i1, i2⟩ := keys_putF f v r
    rw [show putF f v ((k, x) :: r) = (if k = f then (k, v) :: r else (k, x) :: putF f v r) from rfl]
    by_cases hk : k = f
    · rw [if_pos hk]
      subst hk
      exact ⟨by simp, fun g h => by simpa using h⟩
    · rw [if_neg hk]
      refine ⟨?_, fun g h => ?_⟩
      · rw [List.map_cons]
        exact List.mem_cons_of_mem _ i1
      · rw [List.map_cons] at h ⊢
        rcases List.mem_cons.mp h with e | e
        · exact List.mem_cons.mpr (.inl e)
        · exact List.mem_cons_of_mem _ (i2 g e)
theorem length_putF (f : Str) (v : V) : ∀ fs : List (Str × V), (putF f v fs).length ≤ fs.length + 1
  | [] => by simp [putF]
  | (k, x) :: r => by
    have ih := length_putF f v r
    rw [show putF f v ((k, x) :: r) = (if k = f then (k, v) :: r else (k, x) :: putF f v r) from rfl]
    by_cases hk : k = f
    · rw [if_pos hk, List.length_cons, List.length_cons]; lia
    · rw [if_neg hk, List.length_cons, List.length_cons]; lia
theorem RelO.some_of {v : V} {o : Option Value} (r : RelO (some v) o) : ∃ u, o = some u ∧ RelV v u := by
  cases o with
  | none => exact (show False from r).elim
  | some u => exact ⟨u, rfl, r⟩
theorem RelO.none_of {o : Option Value} (r : RelO none o) : o = none := by
  cases o with
  | none => rfl
  | some u => exact (show False from r).elim
theorem handed_of {v : V} {u : Value} (r : RelV v u) : PySem.W.handedIn u = true := by
  cases v with
  | non => cases (show u = Value.none from r); rfl
  | bl b => cases (show u = Value.bool b from r); rfl
  | int i => obtain ⟨t, e⟩ := (show ∃ t, u = Value.int i t from r); cases e; rfl
  | str x => obtain ⟨t, e⟩ := (show ∃ t, u = Value.str x t from r); cases e; rfl
  | byt b => obtain ⟨t, e⟩ := (show ∃ t, u = Value.bytes b t from r); cases e; rfl
  | flt b => obtain ⟨t, e⟩ := (show ∃ t, u = Value.float b t from r); cases e; rfl
  | ref a => cases (show u = Value.ref a from r); rfl
  | ty n => cases (show u = Value.type n from r); rfl
section
variable {P : Program} {w : World} {H H' : Hp} {h h' : Heap} {a C dx : Addr} {fs fs' : List (Str × V)}
theorem ins_get (hok : HOk P w H h) (e : H a = some (.ins C dx fs)) : ∃ mA, ObjM h a dx C mA ∧ (∀ f, RelO (fs.lookup f) (mA f)) ∧ PySem.Within mA (fs.map (·.1)) ∧ fs.length ≤ 1000 ∧ H dx = some (.own a) := by
  obtain ⟨d, z, ne, ob, mA, n, r, q⟩ := (show ObjOk P w H h a (.ins C dx fs) from hok a _ e)
  exact ⟨mA, ⟨ob, n, ne⟩, r, q, z, d⟩
end
structure Cls (K : PySem.W.Frag) (C : Addr) : Prop where
  pg : PySem.W.plainGet K C Str.empty = true
  hd : PySem.W.hasDictIn K C = true
  po : PySem.W.plainOver K C = true
  sa : PySem.W.findIn K (.ref C) "__setattr__" = some (some (.builtin "object.__setattr__"))
theorem Cls.get {K : PySem.W.Frag} {C : Addr} (c : Cls K C) (f : Str) : PySem.W.plainGet K C f = true := c.pg
noncomputable def NoAttr (K : PySem.W.Frag) (C : Addr) (f : Str) : Prop := PySem.W.findIn K (.ref C) f = some none
theorem NoAttr.taker {K : PySem.W.Frag} {C : Addr} {f : Str} (n : NoAttr K C f) : PySem.W.takerIn K C f = some none := by
  unfold PySem.W.takerIn
  rw [show PySem.W.findIn K (.ref C) f = some none from n]
  rfl
structure Meth (K : PySem.W.Frag) (C : Addr) (m : Str) (f : Addr) : Prop where
  at_ : PySem.W.findIn K (.ref C) m = some (some (.ref f))
  fn : PySem.W.isFn K (.ref f) = true
  kp : PySem.W.keepIn K (.ref f) = true
section
variable {X : Cx} {pins : List (Addr × Obj)} {σ : St} {H : Hp} {s : Shared} {a C dx : Addr} {fs : List (Str × V)} {f : Str} {v : V} {A : Around} {E : Value → Shared → Prop}
theorem getattr_ok {b : Bool} {Q : Value → Shared → Prop} (I : Inv X pins σ H s) (e : H a = some (.ins C dx fs)) (c : Cls X.K C) (n : NoAttr X.K C f) (l : fs.lookup f = some v)
    (h : ∀ u s', Inv X pins σ H s' → RelV v u → Q u s') : wpAny (model X.prog X.w) A (getAttr (.ref a) f b) Q E s := by
  obtain ⟨mA, O, r, _, _, _⟩ := ins_get I.hok e
  obtain ⟨u, hu, ru⟩ := RelO.some_of (v := v) (o := mA f) (by rw [← l]; exact r f)
  exact get_map I.kIn O (c.get f) c.hd n hu (handed_of ru) (h u _ (I.tok _) ru)
theorem getmeth_ok {m : Str} {g : Addr} {pl : Sem Bool} {Q : Value × List Value → Shared → Prop} (I : Inv X pins σ H s) (e : H a = some (.ins C dx fs)) (c : Cls X.K C) (k : Meth X.K C m g) (l : fs.lookup m = none)
    (h : Q (.ref g, [.ref a]) s) : wpAny (model X.prog X.w) A (getMethod (.ref a) m pl) Q E s := by
  obtain ⟨mA, O, r, _, _, _⟩ := ins_get I.hok e
  have hn : mA m = none := RelO.none_of (by rw [← l]; exact r m)
  exact get_meth I.kIn O (c.get m) k.at_ k.fn hn h
theorem setattr_ok {y : V} {u : Value} {Q : Unit → Shared → Prop} (I : Inv X pins σ H s) (e : H a = some (.ins C dx fs)) (c : Cls X.K C) (n : NoAttr X.K C f) (hl : fs.length < 1000) (ry : RelV y u)
    (h : ∀ s', Inv X pins σ (upd H a (.ins C dx (putF f y fs))) s' → Q () s') : wpAny (model X.prog X.w) A (setAttr (.ref a) f u) Q E s := by
  obtain ⟨mA, O, r, wi, _, ho⟩ := ins_get I.hok e
  have hz : (fs.map (·.1)).length ≤ sizeLine := by rw [List.length_map, sizeLine_eq]; lia
  refine set_map I.kIn O c.sa c.po n.taker c.hd wi hz fun h' O' sb => h _ ?_
  have hd : ∃ o, h'.get? dx = some o := let ⟨o, _, _, e', _⟩ := O'.ns; ⟨o, e'⟩
  refine I.write (x := a) (e := dx) (by rw [e]; exact True.intro) (.inr ho) (fun b q hb z => (sb.2 b hb).trans z) hd ?_
  refine ⟨by rw [upd_ne O.ne]; exact ho, ?_, O.ne, O'.obj, _, O'.ns, fun g => ?_, fun g hg => ?_⟩
  · have := length_putF f y fs; lia
  · show RelO ((putF f y fs).lookup g) (if g = f then some u else mA g)
    rw [lookup_putF]
    by_cases q : g = f
    · rw [if_pos q, if_pos q]; exact ry
    · rw [if_neg q, if_neg q]; exact r g
  · by_cases q : g = f
    · rw [q]; exact (keys_putF f y fs).1
    · refine (keys_putF f y fs).2 g (wi g fun z => hg ?_)
      show (if g = f then some u else mA g) = none
      rw [if_neg q]; exact z
theorem Inv.made (I : Inv X pins σ H s) : Inv X pins σ (upd (upd H s.heap.objs.size (.own (s.heap.objs.size + 1))) (s.heap.objs.size + 1) (.ins C s.heap.objs.size []))
    { s with heap := (s.heap.push PySem.W.emptyDict).push (PySem.W.instObj C s.heap.objs.size) } := by
  have e1 : (s.heap.push PySem.W.emptyDict).get? s.heap.objs.size = some PySem.W.emptyDict := Heap.get?_push_size s.heap rfl
  have e2 : ((s.heap.push PySem.W.emptyDict).push (PySem.W.instObj C s.heap.objs.size)).get? (s.heap.objs.size + 1) = some (PySem.W.instObj C s.heap.objs.size) := by
    have := Heap.get?_push_size (s.heap.push PySem.W.emptyDict) (o := PySem.W.instObj C s.heap.objs.size) rfl
    rwa [Heap.size_push] at this
  have e3 : (s.heap.push PySem.W.emptyDict).Ns s.heap.objs.size (fun _ => none) := ⟨PySem.W.emptyDict, #[], _, e1, rfl, (fun e he => absurd he (by simp)), fun _ => rfl⟩
  have I1 := I.laid (a := s.heap.objs.size) (o := .own (s.heap.objs.size + 1)) (h' := s.heap.push PySem.W.emptyDict) (t' := s.toks) (fun b u q => Heap.get?_push_of_some _ q) (Nat.le_refl _) ⟨_, e1⟩
  refine I1.laid (a := s.heap.objs.size + 1) (o := .ins C s.heap.objs.size []) (t' := s.toks) (fun b u q => Heap.get?_push_of_some _ q) (Nat.le_of_eq (Heap.size_push _ _)) ?_
  have ne : s.heap.objs.size ≠ s.heap.objs.size + 1 := Nat.ne_of_lt (Nat.lt_succ_self _)
  refine ⟨by rw [upd_ne ne, upd_same], Nat.zero_le _, ne, e2, fun _ => none, (Heap.Ns1.of_empty e3).at fun o q => Heap.get?_push_of_some _ q, fun _ => True.intro, fun y hy => absurd rfl hy⟩
theorem attr_of {prog : Program} {w : World} {env : Env} {e : Expr} {f : Str} {pos : Pos} {s : Shared} {Q : Value → Shared → Prop} (hb : attributeBase e f env (eval e env) = eval e env)
    (h : wpAny (model prog w) A (eval e env) (fun o s₁ => wpAny (model prog w) A (getAttr o f true) Q E s₁) E s) : wpAny (model prog w) A (eval (.Attribute e f pos) env) Q E s :=
  Attribute_any_ h (by rw [arm_eval_Attribute, hb])
end
noncomputable def tFld (K : PySem.W.Frag) (ta : TE) (f : Str) : TE := fun σ H Q => ta σ H fun x H1 => ∃ a C dx fs v, x = .ref a ∧ H1 a = some (.ins C dx fs) ∧ Cls K C ∧ NoAttr K C f ∧ fs.lookup f = some v ∧ Q v H1
noncomputable def sFld (K : PySem.W.Frag) (ta tv : TE) (f : Str) : TS := fun D σ H => tv σ H fun y H1 => ta σ H1 fun x H2 => ∃ a C dx fs, x = .ref a ∧ H2 a = some (.ins C dx fs) ∧ Cls K C ∧ NoAttr K C f ∧ fs.length < 1000 ∧
  D.nx σ (upd H2 a (.ins C dx (putF f y fs)))
noncomputable def InOp (X : Cx) (op : Operator) (rd : V → V → Hp → VK → Prop) : Prop :=
  ∀ (pins : List (Addr × Obj)) (s : Shared) (σ : St) (H : Hp) (x y : V) (u v : Value) (Q : VK), Inv X pins σ H s → RelV x u → RelV y v → rd x y H Q → wpAny (model X.prog X.w) X.A (inplaceOp op u v) (EP X pins σ Q) X.xe s
noncomputable def sFldAug (K : PySem.W.Frag) (ta tv : TE) (rd : V → V → Hp → VK → Prop) (f : Str) : TS := fun D σ H => ta σ H fun x H1 => ∃ a C dx fs v, x = .ref a ∧ H1 a = some (.ins C dx fs) ∧ Cls K C ∧ NoAttr K C f ∧ fs.lookup f = some v ∧
  tv σ H1 fun y H2 => rd v y H2 fun z H3 => ∃ dx' fs', H3 a = some (.ins C dx' fs') ∧ fs'.length < 1000 ∧ D.nx σ (upd H3 a (.ins C dx' (putF f z fs')))
section
variable {X : Cx} {o e value : Expr} {f : Str} {pos pos' tpos : Pos} {ta tv : TE}
theorem pe_fld (he : PE X e ta) (hb : attributeBase e f X.env (eval e X.env) = eval e X.env) : PE X (.Attribute e f pos) (tFld X.K ta f) := by
  intro pins s σ H Q I h
  refine attr_of hb (thn (he pins s σ H _ I h) fun u s1 hz21 => ?_)
  obtain ⟨x, H1, I1, rx, a, C, dx, fs, v, ex, ea, c, n, l, q⟩ := hz21
  subst ex
  obtain rfl : u = Value.ref a := rx
  exact getattr_ok I1 ea c n l fun u' s2 I2 ru => ⟨v, H1, I2, ru, q⟩
theorem ps_fld (ha : PE X o ta) (hv : PE X value tv) (hs : swapsWith value (some (.Attribute o f pos')) pos.line X.env = pure false) : PS X (.Assign [.Attribute o f pos'] value pos) (sFld X.K ta tv f) := by
  intro pins s σ H D I h
  refine plainObj_wpAny_Assign_Attribute (thn (hv pins s σ H _ I h) fun u s1 ⟨y, H1, I1, ry, q⟩ => thn (ha pins s1 σ H1 _ I1 q) fun ov s2 hz22 => ?_) hs
  obtain ⟨x, H2, I2, rx, a, C, dx, fs, ex, ea, c, n, l, q2⟩ := hz22
  subst ex
  obtain rfl : ov = Value.ref a := rx
  exact setattr_ok I2 ea c n l ry fun s3 I3 => ⟨σ, _, I3, q2⟩
theorem ps_fldaug {op : Operator} {rd : V → V → Hp → VK → Prop} (ha : PE X o ta) (hv : PE X value tv) (hop : InOp X op rd) : PS X (.AugAssign (.Attribute o f tpos) op value pos) (sFldAug X.K ta tv rd f) := by
  intro pins s σ H D I h
  refine wpAny_AugAssign_AttributeAny (thn (ha pins s σ H _ I h) fun ov s1 hz23 => ?_)
  obtain ⟨x, H1, I1, rx, a, C, dx, fs, v, ex, ea, c, n, l, q⟩ := hz23
  subst ex
  obtain rfl : ov = Value.ref a := rx
  refine getattr_ok I1 ea c n l fun u s2 I2 ru => thn (hv pins s2 σ H1 _ I2 q) fun w3 s3 ⟨y, H2, I3, ry, q3⟩ => thn (hop pins s3 σ H2 v y u w3 _ I3 ru ry q3) fun w4 s4 hz24 => ?_
  obtain ⟨z, H3, I4, rz, dx', fs', ea', l', q4⟩ := hz24
  exact setattr_ok I4 ea' c n l' rz fun s5 I5 => ⟨σ, _, I5, q4⟩
noncomputable def rAdd : V → V → Hp → VK → Prop := fun x y H Q => ∃ i j, x = .int i ∧ y = .int j ∧ Q (.int (i + j)) H
theorem in_add : InOp X .Add rAdd := by
  rintro pins s σ H x y u v Q I rx ry ⟨i, j, rfl, rfl, q⟩
  obtain ⟨t, rfl⟩ := (show ∃ t, u = Value.int i t from rx)
  obtain ⟨t', rfl⟩ := (show ∃ t', v = Value.int j t' from ry)
  exact PyProof.Rows.iadd_int ⟨.int (i + j), H, I.tok _, ⟨_, rfl⟩, q⟩
end
section
variable {X : Cx} {pins : List (Addr × Obj)} {σ : St} {H : Hp} {s : Shared} {A : Around} {E : Value → Shared → Prop} {Q : Value → Shared → Prop} {c : Value} {b : Bool}
end
end L2
namespace L2
open PySem PySem.Spec PyProof.Rows
structure Room (k : Nat) (A : Around) : Prop where
  hd : A.handled = none
  dp : A.depth + 3 * k + 5 < recursionLimit
  un : A.units + 16 * k + 200 < cLine
theorem Room.mono {j k : Nat} {A : Around} (r : Room k A) (h : j ≤ k) : Room j A := ⟨r.hd, by have := r.dp; lia, by have := r.un; lia⟩
theorem Room.deeper {k : Nat} {A : Around} (r : Room (k + 1) A) (env : Env) : Room k (A.deeper env) :=
  ⟨r.hd, by have := r.dp; show A.depth + 1 + 3 * k + 5 < _; lia, by have := r.un; show A.units + 3 + 16 * k + 200 < _; lia⟩
theorem make_depth {A : Around} {C : Addr} {us : List Value} {kw : List (Str × Value)} : (A.under (.builtin "type.__call__" ⟨.ref C :: us, kw⟩)).depth = A.depth + 1 := by
  first | rfl | simp [Around.under, Code.weight, Code.isCreation, Code.isGuard, Code.isCaller, Code.frames, Code.isFrame, guardIds]
theorem make_units {A : Around} {C : Addr} {us : List Value} {kw : List (Str × Value)} : (A.under (.builtin "type.__call__" ⟨.ref C :: us, kw⟩)).units = A.units + 1 := by
  first | rfl | simp [Around.under, Code.cUnits, Code.frames, Code.isFrame]
theorem Room.make {k : Nat} {A : Around} (r : Room (k + 1) A) (C : Addr) (us : List Value) (kw : List (Str × Value)) : Room k (A.under (.builtin "type.__call__" ⟨.ref C :: us, kw⟩)) :=
  ⟨r.hd, by have := r.dp; rw [make_depth]; lia, by have := r.un; rw [make_units]; lia⟩
theorem Room.depth {k : Nat} {A : Around} (r : Room k A) : A.depth < recursionLimit := by have := r.dp; lia
theorem Room.units {k : Nat} {A : Around} (r : Room k A) : A.units + 64 < cLine := by have := r.un; lia
noncomputable def tNil : TA := fun _ H Q => Q [] H
noncomputable def tCons (ta : TE) (tr : TA) : TA := fun σ H Q => ta σ H fun x H1 => tr σ H1 fun xs H2 => Q (x :: xs) H2
section
variable {X : Cx} {e : Expr} {es : List Expr} {te : TE} {t : TA} {pos : Pos}
theorem pa_nil : PA X [] tNil := fun _ _ _ _ H Q I h => Calls.spliced_nil ⟨[], H, I, .nil, h⟩
theorem pa_cons (ha : PE X e te) (hr : PA X es t) (hs : starEach (e :: es) X.env = (false, eval e X.env) :: starEach es X.env := by rfl) : PA X (e :: es) (tCons te t) := by
  intro pos pins s σ H Q I h
  rw [hs]
  show wpAny _ _ (spliced ((false, eval e X.env) :: backTo pos (starEach es X.env))) _ _ s
  refine Calls.spliced_cons (thn (ha pins s σ H _ I h) fun u s1 hz25 => ?_)
  obtain ⟨x, H1, I1, r1, q1⟩ := hz25
  exact thn (hr pos pins s1 σ H1 _ I1 q1) fun us s2 ⟨xs, H2, I2, r2, q2⟩ => ⟨x :: xs, H2, I2, .cons r1 r2, q2⟩
noncomputable def tLst (t : TA) : TE := fun σ H Q => t σ H fun xs H1 => xs.length ≤ sizeLine ∧ ∀ p, H1 p = none → Q (.ref p) (upd H1 p (.lst xs))
theorem pe_lst (h : PA X es t) : PE X (.List es pos) (tLst t) := by
  intro pins s σ H Q I hq
  refine wpAny_List_spliced (thn (h pos pins s σ H _ I hq) fun us s1 ⟨xs, H1, I1, r, z, q⟩ => ⟨by rw [← r.length]; exact z, ?_⟩)
  have hf : H1 s1.heap.objs.size = none := I1.hok.fresh (Nat.le_refl _)
  refine ⟨.ref s1.heap.objs.size, upd H1 s1.heap.objs.size (.lst xs), I1.laid (t' := s1.toks) (fun b u e => Heap.get?_push_of_some _ e) (Nat.le_refl _) ?_, rfl, q _ hf⟩
  exact ⟨z, us, 0, r, Heap.get?_push_size _ rfl⟩
end
noncomputable abbrev Sp := List V → Hp → VK → XK → Prop
noncomputable abbrev CXT := List Env → Hp → Shared → XK → Value → Shared → Prop
structure Env0 (P : Program) (w : World) (K : PySem.W.Frag) (mg : Str → Option Value) (base : Heap) (A : Around) (outer : List Env) (s : Shared) (H : Hp) : Prop where
  frames : A.frames = some outer
  mod : Mod K mg base
  bs : ∀ b o, base.get? b = some o → s.heap.get? b = some o ∧ H b = none
  bsz : base.objs.size ≤ s.heap.objs.size
  funs : s.heap.FunFrames base outer
  frf : ∀ b ∈ frs outer, H b = none
  hok : HOk P w H s.heap
  bare : AllBare s.gens
noncomputable def CE (outer : List Env) (P : Program) (w : World) (H : Hp) (s : Shared) (Q : VK) (u : Value) (s' : Shared) : Prop :=
  ∃ v H', s'.os = s.os ∧ AllBare s'.gens ∧ Un (frs outer) [] H H' s.heap s'.heap ∧ HOk P w H' s'.heap ∧ RelV v u ∧ Q v H'
noncomputable def CR (CX : CXT) (outer : List Env) (P : Program) (w : World) (H : Hp) (s : Shared) (Q : VK) (E : XK) (r : Result) (s' : Shared) : Prop :=
  match r with
  | .ok (.ret u) => CE outer P w H s Q u s'
  | .ok _ => False
  | .error e => CX outer H s E e s'
structure FnOk (P : Program) (w : World) (K : PySem.W.Frag) (mg : Str → Option Value) (base : Heap) (CX : CXT) (k : Nat) (f : Addr) (fd : FuncData) (ps : List Str) (sp : Sp) : Prop where
  len : ∀ vs H Q E, sp vs H Q E → vs.length = ps.length
  run : ∀ (A : Around) (outer : List Env) (s : Shared) (H : Hp) (args : Args) (us : List Value) (vs : List V) (Q : VK) (E : XK), Room k A → Env0 P w K mg base A outer s H → BindsTo s fd args (ps.zip us) → Vals vs us → sp vs H Q E →
    codeAny (model P w) A (.call (.ref f) args) (CR CX outer P w H s Q E) s
theorem Env0.make {P : Program} {w : World} {K : PySem.W.Frag} {mg : Str → Option Value} {base : Heap} {A : Around} {outer : List Env} {s : Shared} {H : Hp} (e : Env0 P w K mg base A outer s H) (C : Addr) (us : List Value) (kw : List (Str × Value)) :
    Env0 P w K mg base (A.under (.builtin "type.__call__" ⟨.ref C :: us, kw⟩)) outer s H := ⟨by first | exact e.frames | (simpa [Around.under, Code.envs, Code.isFrame, pushEnvs] using e.frames), e.mod, e.bs, e.bsz, e.funs, e.frf, e.hok, e.bare⟩
section
variable {X : Cx} {pins : List (Addr × Obj)} {σ : St} {H : Hp} {s s' : Shared}
theorem Inv.env0 (I : Inv X pins σ H s) : Env0 X.prog X.w X.K X.mg X.base X.A X.stack s H :=
  ⟨I.ok.frames, I.ok.mod, I.bs, Nat.le_trans I.ok.bsz I.sz, I.stack, I.stkFree, I.hok, I.bare⟩
theorem Inv.after {Q : VK} {u : Value} (I : Inv X pins σ H s) (h : CE X.stack X.prog X.w H s Q u s') : EP X pins σ Q u s' := by
  obtain ⟨v, H', os, bare, un, hok, r, q⟩ := h
  obtain ⟨hh, g, d, t, os'⟩ := s'
  obtain rfl : os' = s.os := os
  exact ⟨v, H', I.call (h' := hh) (g' := g) (d' := d) (t' := t) (ch := []) un hok bare (fun b z => absurd z (by simp)), r, q⟩
end
noncomputable def tCall (sp : Sp) (dvs : List V) (E : XK) (t : TA) : TE := fun σ H Q => t σ H fun vs H1 => sp (vs ++ dvs) H1 Q E
noncomputable def tMeth (C : Addr) (m : Str) (sp : Sp) (dvs : List V) (E : XK) (ta : TE) (t : TA) : TE := fun σ H Q => ta σ H fun x H1 => ∃ a dx fs, x = .ref a ∧ H1 a = some (.ins C dx fs) ∧ fs.lookup m = none ∧
  t σ H1 fun vs H2 => sp (x :: (vs ++ dvs)) H2 Q E
noncomputable def tMake (C : Addr) (sp : Sp) (dvs : List V) (E : XK) (t : TA) : TE := fun σ H Q => t σ H fun vs H1 => ∀ x dx, H1 x = none → H1 dx = none → dx ≠ x →
  sp (.ref x :: (vs ++ dvs)) (upd (upd H1 dx (.own x)) x (.ins C dx [])) (fun v H2 => v = .non ∧ Q (.ref x) H2) E
noncomputable def Binds (K : PySem.W.Frag) (fd : FuncData) (ps : List Str) (ds : List Value) : Prop :=
  ∀ (s : Shared) (us : List Value), K.In s.heap → (us ++ ds).length = ps.length → BindsTo s fd ⟨us, []⟩ (ps.zip (us ++ ds))
theorem Binds.all {K : PySem.W.Frag} {fd : FuncData} {ps : List Str} (h : ∀ us : List Value, us.length = ps.length → bindArgs fd ⟨us, []⟩ = pure (ps.zip us)) : Binds K fd ps [] := fun s us _ hl => by
  rw [List.append_nil] at hl ⊢
  exact .of_eq (h us hl)
noncomputable def Passes (CX : CXT) (X : Cx) (E : XK) : Prop := ∀ (pins : List (Addr × Obj)) (σ : St) (H : Hp) (s : Shared) (e : Value) (s' : Shared), Inv X pins σ H s → CX X.stack H s E e s' → X.xe e s'
section
variable {X : Cx} {CX : CXT} {k : Nat} {f C : Addr} {fd : FuncData} {ps : List Str} {sp : Sp} {dvs : List V} {ds : List Value} {E : XK} {x m : Str} {p pos apos : Pos} {e o : Expr} {es : List Expr} {ta : TE} {t : TA}
theorem run_fn {pins : List (Addr × Obj)} {σ : St} {H : Hp} {s : Shared} {Q : VK} {us : List Value} {vs : List V} (F : FnOk X.prog X.w X.K X.mg X.base CX k f fd ps sp) (hr : Room k X.A) (hb : Binds X.K fd ps ds) (hd : Vals dvs ds) (hx : Passes CX X E)
    (I : Inv X pins σ H s) (r : Vals vs us) (h : sp (vs ++ dvs) H Q E) : wpAny (model X.prog X.w) X.A (call (.ref f) us) (EP X pins σ Q) X.xe s := by
  have r2 : Vals (vs ++ dvs) (us ++ ds) := r.append hd
  have hl : (us ++ ds).length = ps.length := by rw [← r2.length]; exact F.len _ _ _ _ h
  refine wpAny_call (codeAny_mono (F.run X.A X.stack s H ⟨us, []⟩ (us ++ ds) (vs ++ dvs) Q E hr I.env0 (hb s us I.kIn hl) r2 h) fun r s' hq => ?_)
  cases r with
  | error e => exact hx pins σ H s e s' I hq
  | ok fl =>
    cases fl with
    | ret u => exact I.after hq
    | next => exact False.elim hq
    | brk => exact False.elim hq
    | cont => exact False.elim hq
theorem pe_call (F : FnOk X.prog X.w X.K X.mg X.base CX k f fd ps sp) (hr : Room k X.A) (hg : Gl X x) (hm : X.mg x = some (.ref f)) (hk : PySem.W.keepIn X.K (.ref f) = true) (hb : Binds X.K fd ps ds) (hd : Vals dvs ds) (hx : Passes CX X E)
    (ha : PA X (e :: es) t) (hdb : (x == ("__debug__" : Str)) = false := by decide) (he : starEach (e :: es) X.env = (false, eval e X.env) :: starEach es X.env := by rfl) (hpl : (backTo pos (starEach es X.env)).any (·.1) = false := by rfl) :
    PE X (.Call (.Name x p) (e :: es) [] pos) (tCall sp dvs E t) := by
  intro pins s σ H Q I h
  refine wpAny_Call_Name_kw (ld_glob I hg hm ?_ hdb)
  refine PySem.W.callWith_K (h₀ := X.base) I.ok.mod.kin hk (thn (ha pos pins s σ H _ I h) fun us s1 ⟨vs, H1, I1, r, q⟩ => ⟨I1.kIn, ?_⟩) he hpl
  exact run_fn F hr hb hd hx I1 r q
theorem pe_meth {pl : Sem Bool} (he : PE X o ta) (c : Cls X.K C) (hm : Meth X.K C m f) (F : FnOk X.prog X.w X.K X.mg X.base CX k f fd ps sp) (hr : Room k X.A) (hb : Binds X.K fd ps ds) (hd : Vals dvs ds) (hx : Passes CX X E) (ha : PA X (e :: es) t)
    (hst : starEach (e :: es) X.env = (false, eval e X.env) :: starEach es X.env := by rfl) (hpl : (backTo pos (starEach es X.env)).any (·.1) = false := by rfl)
    (ht : eval (.Call (.Attribute o m apos) (e :: es) [] pos) X.env = (do
      let ov ← eval o X.env
      standAt apos.atName
      let (f, first) ← holding [ov] (getMethod ov m pl)
      callWith pos f first (backTo pos (starEach (e :: es) X.env)) (backToKw pos (keywordEach [] X.env))) := by rfl) :
    PE X (.Call (.Attribute o m apos) (e :: es) [] pos) (tMeth C m sp dvs E ta t) := by
  intro pins s σ H Q I h
  refine PySem.W.methodCall_KW (pl := pl) (thn (he pins s σ H _ I h) fun u s1 hz26 => ?_) ht
  obtain ⟨x, H1, I1, rx, a, dx, fs, ex, ea, l, q⟩ := hz26
  subst ex
  obtain rfl : u = Value.ref a := rx
  refine getmeth_ok I1 ea c hm l ?_
  refine PySem.W.callWith_K (first := [.ref a]) (h₀ := X.base) I.ok.mod.kin hm.kp (thn (ha pos pins s1 σ H1 _ I1 q) fun us s2 ⟨vs, H2, I2, r, q2⟩ => ⟨I2.kIn, ?_⟩) hst hpl
  exact run_fn (us := .ref a :: us) (vs := .ref a :: vs) F hr hb hd hx I2 (.cons rfl r) q2
theorem pe_meth0 {pl : Sem Bool} (he : PE X o ta) (c : Cls X.K C) (hm : Meth X.K C m f) (F : FnOk X.prog X.w X.K X.mg X.base CX k f fd ps sp) (hr : Room k X.A) (hb : Binds X.K fd ps ds) (hd : Vals dvs ds) (hx : Passes CX X E)
    (ht : eval (.Call (.Attribute o m apos) [] [] pos) X.env = (do
      let ov ← eval o X.env
      standAt apos.atName
      let (f, first) ← holding [ov] (getMethod ov m pl)
      callWith pos f first (backTo pos (starEach [] X.env)) (backToKw pos (keywordEach [] X.env))) := by rfl) :
    PE X (.Call (.Attribute o m apos) [] [] pos) (tMeth C m sp dvs E ta tNil) := by
  intro pins s σ H Q I h
  refine PySem.W.methodCall_KW (pl := pl) (thn (he pins s σ H _ I h) fun u s1 hz27 => ?_) ht
  obtain ⟨x, H1, I1, rx, a, dx, fs, ex, ea, l, q⟩ := hz27
  subst ex
  obtain rfl : u = Value.ref a := rx
  refine getmeth_ok I1 ea c hm l ?_
  exact PySem.W.callWith_K0 (first := [.ref a]) I1.kIn hm.kp (run_fn (us := [.ref a]) (vs := [.ref a]) F hr hb hd hx I1 (.cons rfl .nil) q)
structure Mk (K : PySem.W.Frag) (C f : Addr) : Prop where
  makes : PySem.W.makesIn K C = true
  init : PySem.W.findIn K (.ref C) "__init__" = some (some (.ref f))
  fn : PySem.W.isFn K (.ref f) = true
  kp : PySem.W.keepIn K (.ref C) = true
theorem run_make {pins : List (Addr × Obj)} {σ : St} {H : Hp} {s : Shared} {Q : VK} {us : List Value} {vs : List V} (M : Mk X.K C f) (F : FnOk X.prog X.w X.K X.mg X.base CX k f fd ps sp) (hr : Room (k + 1) X.A) (hb : Binds X.K fd ps ds) (hd : Vals dvs ds)
    (hx : Passes CX X E) (I : Inv X pins σ H s) (r : Vals vs us)
    (h : ∀ x dx, H x = none → H dx = none → dx ≠ x → sp (.ref x :: (vs ++ dvs)) (upd (upd H dx (.own x)) x (.ins C dx [])) (fun v H2 => v = .non ∧ Q (.ref x) H2) E) :
    wpAny (model X.prog X.w) X.A (call (.ref C) us) (EP X pins σ Q) X.xe s := by
  have hq := h (s.heap.objs.size + 1) s.heap.objs.size (I.hok.fresh (Nat.le_succ _)) (I.hok.fresh (Nat.le_refl _)) (Nat.ne_of_lt (Nat.lt_succ_self _))
  have I2 := Inv.made (C := C) I
  have r2 : Vals (V.ref (s.heap.objs.size + 1) :: (vs ++ dvs)) (Value.ref (s.heap.objs.size + 1) :: (us ++ ds)) := .cons rfl (r.append hd)
  have hl : (Value.ref (s.heap.objs.size + 1) :: us ++ ds).length = ps.length := by
    have e := r2.length
    rw [F.len _ _ _ _ hq] at e
    exact e.symm
  refine wpAny_call (make_map (f := f) I.kIn M.makes M.init (beq_iff_eq.mp M.fn) (codeAny_mono (F.run _ X.stack _ _ ⟨Value.ref (s.heap.objs.size + 1) :: us, []⟩ (Value.ref (s.heap.objs.size + 1) :: (us ++ ds)) _ _ E (hr.make C us [])
    (I2.env0.make C us []) (hb _ (Value.ref (s.heap.objs.size + 1) :: us) I2.kIn hl) r2 hq) fun r s' hq' => ?_))
  cases r with
  | error e => exact hx pins σ _ _ e s' I2 hq'
  | ok fl =>
    cases fl with
    | ret u =>
      obtain ⟨v, H', I3, rv, ev, q3⟩ := I2.after hq'
      subst ev
      exact ⟨rv, ⟨V.ref (s.heap.objs.size + 1), H', I3, rfl, q3⟩⟩
    | next => exact False.elim hq'
    | brk => exact False.elim hq'
    | cont => exact False.elim hq'
theorem pe_make (M : Mk X.K C f) (F : FnOk X.prog X.w X.K X.mg X.base CX k f fd ps sp) (hr : Room (k + 1) X.A) (hg : Gl X x) (hm : X.mg x = some (.ref C)) (hb : Binds X.K fd ps ds) (hd : Vals dvs ds) (hx : Passes CX X E)
    (ha : PA X (e :: es) t) (hdb : (x == ("__debug__" : Str)) = false := by decide) (he : starEach (e :: es) X.env = (false, eval e X.env) :: starEach es X.env := by rfl) (hpl : (backTo pos (starEach es X.env)).any (·.1) = false := by rfl) :
    PE X (.Call (.Name x p) (e :: es) [] pos) (tMake C sp dvs E t) := by
  intro pins s σ H Q I h
  refine wpAny_Call_Name_kw (ld_glob I hg hm ?_ hdb)
  refine PySem.W.callWith_K (h₀ := X.base) I.ok.mod.kin M.kp (thn (ha pos pins s σ H _ I h) fun us s1 ⟨vs, H1, I1, r, q⟩ => ⟨I1.kIn, ?_⟩) he hpl
  exact run_make M F hr hb hd hx I1 r q
end
section
variable {X : Cx} {CX : CXT} {k : Nat} {f C : Addr} {fd : FuncData} {ps ks : List Str} {sp : Sp} {E : XK} {x m : Str} {p pos apos kpos : Pos} {e o : Expr} {es : List Expr} {kws : List Keyword} {te ta : TE} {t tk : TA} {nm : Option Str}
variable {g : List Value → List Value → List Value} {gV : List V → List V → List V}
end
structure FnScope (N P : List Str) (sc : Scope) : Prop where
  kind : sc.kind = .function
  co : sc.isCoroutine = false
  gen : sc.isGenerator = false
  nd : N.Nodup
  pre : N.take P.length = P
  par : ∀ x ∈ P, sc.names.lookup x = some .local ∨ sc.names.lookup x = some .cell
  nofree : ∀ y ∈ sc.names, y.2 ≠ .free
theorem bindL_out {kindOf : Str → Option NameKind} {x : Str} : ∀ {binds : List (Str × Value)} {m : Str → Option Value}, (∀ v, (x, v) ∉ binds) → bindL kindOf binds m x = m x
  | [], _, _ => rfl
  | (n, v) :: r, m, h => by
    unfold bindL
    rw [bindL_out fun w hw => h w (List.mem_cons_of_mem _ hw)]
    split
    · have : x ≠ n := by rintro rfl; exact h v List.mem_cons_self
      simp [this]
    · rfl
theorem bindC_out {kindOf : Str → Option NameKind} {x : Str} : ∀ {binds : List (Str × Value)} {m : Str → Option Value}, (∀ v, (x, v) ∉ binds) → bindC kindOf binds m x = m x
  | [], _, _ => rfl
  | (n, v) :: r, m, h => by
    unfold bindC
    rw [bindC_out fun w hw => h w (List.mem_cons_of_mem _ hw)]
    split
    · rfl
    · have : x ≠ n := by rintro rfl; exact h v List.mem_cons_self
      simp [this]
theorem bindL_get {kindOf : Str → Option NameKind} {x : Str} {v : Value} : ∀ {P : List Str} {vs : List Value} {i : Nat} {m : Str → Option Value}, P.Nodup → P[i]? = some x → vs[i]? = some v → kindOf x = some .local →
    bindL kindOf (P.zip vs) m x = some v
  | [], _, _, _, _, h, _, _ => by simp at h
  | _ :: _, [], _, _, _, _, h, _ => by simp at h
  | p :: P, w :: vs, 0, m, nd, h1, h2, hk => by
    simp at h1 h2; subst h1; subst h2
    show bindL kindOf ((p, w) :: P.zip vs) m p = _
    unfold bindL
    rw [bindL_out fun v hv => (List.nodup_cons.mp nd).1 (List.of_mem_zip hv).1, if_pos hk]
    simp
  | p :: P, w :: vs, i + 1, m, nd, h1, h2, hk => by
    show bindL kindOf ((p, w) :: P.zip vs) m x = _
    unfold bindL
    exact bindL_get (i := i) (List.nodup_cons.mp nd).2 (by simpa using h1) (by simpa using h2) hk
theorem bindC_get {kindOf : Str → Option NameKind} {x : Str} {v : Value} : ∀ {P : List Str} {vs : List Value} {i : Nat} {m : Str → Option Value}, P.Nodup → P[i]? = some x → vs[i]? = some v → kindOf x ≠ some .local →
    bindC kindOf (P.zip vs) m x = some v
  | [], _, _, _, _, h, _, _ => by simp at h
  | _ :: _, [], _, _, _, _, h, _ => by simp at h
  | p :: P, w :: vs, 0, m, nd, h1, h2, hk => by
    simp at h1 h2; subst h1; subst h2
    show bindC kindOf ((p, w) :: P.zip vs) m p = _
    unfold bindC
    rw [bindC_out fun v hv => (List.nodup_cons.mp nd).1 (List.of_mem_zip hv).1, if_neg hk]
    simp
  | p :: P, w :: vs, i + 1, m, nd, h1, h2, hk => by
    show bindC kindOf ((p, w) :: P.zip vs) m x = _
    unfold bindC
    exact bindC_get (i := i) (List.nodup_cons.mp nd).2 (by simpa using h1) (by simpa using h2) hk
noncomputable def start (N : List Str) (vs : List V) : St := vs.map some ++ List.replicate (N.length - vs.length) none
noncomputable def cxOf (CX : CXT) (P : Program) (w : World) (K : PySem.W.Frag) (mg : Str → Option Value) (base : Heap) (N : List Str) (qual : Str) (scope : Scope) (f : Addr) (cd : Value) (A : Around) (outer : List Env) (s : Shared) (H : Hp) (E : XK) : Cx where
  prog := P
  w := w
  K := K
  mg := mg
  base := base
  A := A.deeper (envOfC qual scope s.heap.objs.size f cd)
  N := N
  s_0 := s
  H_0 := H
  env := envOfC qual scope s.heap.objs.size f cd
  outer := outer
  stack := envOfC qual scope s.heap.objs.size f cd :: outer
  ex := []
  calm := true
  fn := fun _ => true
  pn := []
  xe := fun e s' => wpAny (model P w) (A.deeper (envOfC qual scope s.heap.objs.size f cd)) (leaving (envOfC qual scope s.heap.objs.size f cd) e) (fun _ s'' => CX outer H s E e s'') (fun e' s'' => CX outer H s E e' s'') s'
theorem cell_has {sc : Scope} {n : Nat} {x : Str} (h : sc.names.lookup x = some .cell) : ∃ c, (cellsFrom n sc.names []).lookup x = some c := by
  have q := PySem.W.cellsFrom_some sc.names n [] (.inl h)
  exact Option.isSome_iff_exists.mp q
theorem inv_start {CX : CXT} {P : Program} {w : World} {K : PySem.W.Frag} {mg : Str → Option Value} {base : Heap} {N ps : List Str} {qual : Str} {scope : Scope} {f : Addr} {cd : Value} {A : Around} {outer : List Env} {s s1 : Shared} {H : Hp} {E : XK} {us : List Value} {vs : List V}
    (S : FnScope N ps scope) (hd : A.handled = none) (e0 : Env0 P w K mg base A outer s H) (hl : vs.length = ps.length) (r : Vals vs us)
    (x : InCallC s s.heap.objs.size (bindL (envOfC qual scope s.heap.objs.size f cd).kindOf (ps.zip us) fun _ => none) (cellsFrom (s.heap.objs.size + 1) scope.names []) (bindC (envOfC qual scope s.heap.objs.size f cd).kindOf (ps.zip us) fun _ => none) s1) :
    Inv (cxOf CX P w K mg base N qual scope f cd A outer s H E) [] (start N vs) H s1 := by
  have hpl : ps.length ≤ N.length := by have := congrArg List.length S.pre; rw [List.length_take] at this; lia
  obtain ⟨h1, tk, rfl, hk⟩ := x.done
  have noA : ∀ b : Addr, b ∉ (cxOf CX P w K mg base N qual scope f cd A outer s H E).ex := fun b z => absurd (show b ∈ ([] : List Addr) from z) (by simp)
  refine ⟨⟨e0.mod, S.kind, rfl, rfl, Nat.le_refl _, fun y z c h1 h2 => ?_, fun y hy => ?_, fun y c _ h => ?_, fun _ => hd, Around.frames_deeper e0.frames, .inr ⟨rfl, rfl⟩, fun b z => absurd z (noA b), e0.bs, e0.bsz, fun b _ _ => noA b, fun b z => absurd z (noA b), e0.funs, e0.frf⟩,
    rfl, e0.bare, Un.kept hk, ⟨_, x.toInCall.ns, fun i y v h1 h2 h3 => ?_⟩, fun y c h => ⟨_, x.cell y c h⟩, e0.hok.fresh (Nat.le_refl _), fun y c h => ?_, fun p hp => absurd (show p ∈ ([] : List (Addr × Obj)) from hp) (by simp), e0.hok.kept hk, ?_⟩
  · exact name_of_addr x.apart (PySem.mem_of_lookup h1) (PySem.mem_of_lookup h2)
  · have hy : scope.names.lookup y = some .cell ∨ scope.names.lookup y = some .free := hy
    rcases hy with hy | hy
    · exact cell_has hy
    · exact absurd rfl (S.nofree _ (PySem.mem_of_lookup hy))
  · exact Nat.le_of_lt (x.above y c (PySem.mem_of_lookup h))
  · have hi : i < vs.length := by
      unfold start at h2
      by_cases hi : i < vs.length
      · exact hi
      · rw [List.getElem?_append_right (by simpa using hi)] at h2
        rw [List.getElem?_replicate] at h2
        split at h2 <;> cases h2
    have ha : vs[i]? = some v := by
      unfold start at h2
      rw [List.getElem?_append_left (by simpa using hi), List.getElem?_map] at h2
      cases e : vs[i]? with
      | none => rw [e] at h2; cases h2
      | some a => rw [e] at h2; cases h2; rfl
    obtain ⟨u, hu, rv⟩ := r.get ha
    have hp : ps[i]? = some y := by
      rw [← S.pre, List.getElem?_take_of_lt (by lia)]; exact h1
    have ndP : ps.Nodup := by rw [← S.pre]; exact S.nd.sublist (List.take_sublist _ _)
    refine ⟨u, rv, ?_⟩
    rcases S.par y (List.mem_of_getElem? hp) with k | k
    · exact .inl ⟨k, bindL_get ndP hp hu k⟩
    · obtain ⟨c, e⟩ := cell_has (n := s.heap.objs.size + 1) k
      refine .inr ⟨.inl k, c, e, ?_⟩
      have q := x.cell y c e
      rw [bindC_get ndP hp hu (by show scope.names.lookup y ≠ _; rw [k]; decide)] at q
      exact q
  · exact e0.hok.fresh (Nat.le_of_lt (x.above y c (PySem.mem_of_lookup h)))
  · unfold start
    show _ = N.length
    rw [List.length_append, List.length_map, List.length_replicate]
    lia
theorem fn_of {CX : CXT} {P : Program} {w : World} {K : PySem.W.Frag} {mg : Str → Option Value} {base : Heap} {k : Nat} {f : Addr} {name qual : Str} {params : Arguments} {body : List Stmt} {scope : Scope} {dV kV doc pm cdv ct oc : Value} {an od : Option Addr}
    {osl : Array (Option Value)} {N ps : List Str} {sp : Sp} (lk : K.lookup f = some ⟨oc, od, .func (PySem.W.fnOf name qual params body scope dV kV doc pm an cdv ct), osl⟩) (hcd : PySem.W.codeIn K cdv qual = true) (S : FnScope N ps scope)
    (len : ∀ vs H Q E, sp vs H Q E → vs.length = ps.length)
    (hbody : ∀ (A : Around) (outer : List Env) (s : Shared) (H : Hp) (vs : List V) (Q : VK) (E : XK), Room k (A.deeper (envOfC qual scope s.heap.objs.size f cdv)) → sp vs H Q E →
      ∃ t, PSs (cxOf CX P w K mg base N qual scope f cdv A outer s H E) body t ∧ t { nx := fun _ H' => Q .non H', rt := Q } (start N vs) H) :
    FnOk P w K mg base CX (k + 1) f (PySem.W.fnOf name qual params body scope dV kV doc pm an cdv ct) ps sp := by
  refine ⟨len, fun A outer s H args us vs Q E hr e0 hb r hsp => ?_⟩
  have hl := len _ _ _ _ hsp
  have KX : K.In s.heap := e0.mod.kin.keeps fun b o e => (e0.bs b o e).1
  have lim : s.heap.NoLimit := e0.mod.nolimit.keeps fun b o e => (e0.bs b o e).1
  have hkind : ∀ y ∈ ps.zip us, scope.names.lookup y.1 = some .local ∨ (scope.names.lookup y.1 = some .cell ∧ ((cellsFrom (s.heap.objs.size + 1) scope.names []).lookup y.1).isSome = true) := fun ⟨n, v⟩ hy => by
    rcases S.par n (List.of_mem_zip hy).1 with q | q
    · exact .inl q
    · exact .inr ⟨q, PySem.W.cellsFrom_some _ _ _ (.inl q)⟩
  refine codeAny_call_function hr.depth (KX _ _ lk) rfl S.co S.gen rfl (PySem.W.codeRec_of KX hcd) (hb _ _ _ _ ?_)
  refine wpAny_newFunctionEnv_cells S.kind hkind fun env he s1 x => ?_
  subst he
  refine ⟨lim.keeps x.toInCall.keep, codeAny_func ?_⟩
  obtain ⟨t, ht, hq⟩ := hbody A outer s H vs Q E (hr.deeper _) hsp
  have I : Inv (cxOf CX P w K mg base N qual scope f cdv A outer s H E) [] (start N vs) H s1 := inv_start S hr.hd e0 hl r x
  refine wpAny_mono (ht [] s1 (start N vs) H _ I hq) (fun fl s' hs => ?_) fun e s' hs => hs
  have fin : ∀ {σ' : St} {H' : Hp} {v : V} {u : Value}, Inv (cxOf CX P w K mg base N qual scope f cdv A outer s H E) [] σ' H' s' → RelV v u → Q v H' → CE outer P w H s Q u s' :=
    fun {σ' H' v u} J rv q => ⟨v, H', J.os, J.bare, J.base, J.hok, rv, q⟩
  cases fl with
  | ret u =>
    obtain ⟨v, σ', H', J, rv, q⟩ := hs
    exact fin J rv q
  | next =>
    obtain ⟨σ', H', J, q⟩ := hs
    exact fin (v := V.non) (u := Value.none) J rfl q
  | brk =>
    obtain ⟨_, _, _, q⟩ := hs
    exact False.elim q
  | cont =>
    obtain ⟨_, _, _, q⟩ := hs
    exact False.elim q
end L2
namespace L2
open PySem PySem.Spec PyProof.Rows
section
variable {X : Cx} {x : Str} {p pos : Pos} {e : Expr} {es : List Expr} {t : TA} {id T : String} {r : List V → Hp → VK → Prop}
noncomputable def tCB (r : List V → Hp → VK → Prop) (t : TA) : TE := fun σ H Q => t σ H fun vs H1 => r vs H1 Q
theorem pe_callB (hc : CallR X (.builtin id) r) (hg : Gl X x) (hm : X.mg x = none) (hv : bootBuiltins x = some (.builtin id)) (ha : PA X (e :: es) t) (hn : x ≠ "__name__" := by decide) (hdb : (x == ("__debug__" : Str)) = false := by decide)
    (he : starEach (e :: es) X.env = (false, eval e X.env) :: starEach es X.env := by rfl) (hpl : (backTo pos (starEach es X.env)).any (·.1) = false := by rfl) : PE X (.Call (.Name x p) (e :: es) [] pos) (tCB r t) := by
  intro pins s σ H Q I h
  refine wpAny_Call_Name_kw (ld_blt I hg hm hv ?_ hn hdb)
  exact PyProof.Rows.callWith_builtin1 (thn (ha pos pins s σ H _ I h) fun us s1 ⟨vs, H1, I1, r1, q1⟩ => hc pins s1 σ H1 vs us Q I1 r1 q1) he hpl
theorem pe_callTy (hc : CallR X (.type T) r) (hg : Gl X x) (hm : X.mg x = none) (hv : bootBuiltins x = some (.type T)) (ha : PA X (e :: es) t) (hn : x ≠ "__name__" := by decide) (hdb : (x == ("__debug__" : Str)) = false := by decide)
    (he : starEach (e :: es) X.env = (false, eval e X.env) :: starEach es X.env := by rfl) (hpl : (backTo pos (starEach es X.env)).any (·.1) = false := by rfl) : PE X (.Call (.Name x p) (e :: es) [] pos) (tCB r t) := by
  intro pins s σ H Q I h
  refine wpAny_Call_Name_kw (ld_blt I hg hm hv ?_ hn hdb)
  exact PyProof.Rows.callWith_type1 (thn (ha pos pins s σ H _ I h) fun us s1 ⟨vs, H1, I1, r1, q1⟩ => hc pins s1 σ H1 vs us Q I1 r1 q1) he hpl
end
end L2
namespace HT
open PySem PyProof.Rows
section
open PySem.SeqAt
open PySem.AutoSeq1 (wpAny_loadPart')
open PySem.MeetsSeq PySem.MeetsSeq2 PySem.MeetsSeq3
end
section
variable {prog : Program} {w : World} {A : Around} {E : Value → Shared → Prop} {s : Shared}
noncomputable def sIx (n d : Nat) : Option Int → Nat
  | none => d
  | some v => if v < 0 then (v + (n : Int)).toNat else min v.toNat n
theorem sIx_nat (n d k : Nat) : sIx n d (some (k : Int)) = min k n := by
  show (if (k : Int) < 0 then ((k : Int) + (n : Int)).toNat else min (k : Int).toNat n) = min k n
  rw [if_neg (by lia), Int.toNat_natCast]
end
end HT
namespace L2
open PySem PySem.Spec PyProof.Rows
noncomputable abbrev TO := St → Hp → (Option Int → Hp → Prop) → Prop
noncomputable def PO (X : Cx) (e : Option Expr) (t : TO) : Prop :=
  ∀ (pins : List (Addr × Obj)) (s : Shared) (σ : St) (H : Hp) (Q : Option Int → Hp → Prop), Inv X pins σ H s → t σ H Q →
    wpAny (model X.prog X.w) X.A (evalPart e X.env) (fun u s' => ∃ o H', Inv X pins σ H' s' ∧ IsPart u o ∧ Q o H') X.xe s
noncomputable def tPart (t : TE) : TO := fun σ H Q => t σ H fun x H1 => ∃ i, x = .int i ∧ Q (some i) H1
section
variable {X : Cx} {e : Expr} {te : TE} {lo hi : Option Expr} {tl th : TO} {pos p2 : Pos}
theorem po_some (h : PE X e te) : PO X (some e) (tPart te) := by
  intro pins s σ H Q I hw
  rw [evalPart_some]
  refine thn (h pins s σ H _ I hw) fun u s1 hz28 => ?_
  obtain ⟨x, H1, I1, r1, q1⟩ := hz28
  obtain ⟨i, rfl, q⟩ := q1
  obtain ⟨t, rfl⟩ := r1
  exact ⟨some i, H1, I1, .int i t, q⟩
noncomputable def SlR (X : Cx) (r : V → Option Int → Option Int → Hp → VK → Prop) : Prop :=
  ∀ (pins : List (Addr × Obj)) (s : Shared) (σ : St) (H : Hp) (x : V) (v vl vu : Value) (lo hi : Option Int) (sl : Addr) (Q : VK), Inv X pins σ H s → RelV x v → s.heap.IsSliceOf sl vl vu .none → IsPart vl lo → IsPart vu hi → r x lo hi H Q →
    ∃ T id, typeLookup (.type T) "__getitem__" = pure (some (.builtin id)) ∧ s.TypeIs v T ∧ wpAny (model X.prog X.w) X.A (getItem v (.ref sl)) (EP X pins σ Q) X.xe s
noncomputable def tSl (r : V → Option Int → Option Int → Hp → VK → Prop) (te : TE) (tl th : TO) : TE := fun σ H Q => te σ H fun x H1 => tl σ H1 fun l H2 => th σ H2 fun u H3 => r x l u H3 Q
theorem pe_slice {r : V → Option Int → Option Int → Hp → VK → Prop} (hr : SlR X r) (he : PE X e te) (hl : PO X lo tl) (hu : PO X hi th) : PE X (.Subscript e (.Slice lo hi none p2) pos) (tSl r te tl th) := by
  intro pins s σ H Q I h
  refine Subscript_ (thn (he pins s σ H _ I h) fun v s1 hz29 => ?_)
  obtain ⟨x, H1, I1, r1, q1⟩ := hz29
  refine wpAny_Slice (thn (hl pins s1 σ H1 _ I1 q1) fun vl s2 ⟨l, H2, I2, pl, q2⟩ => thn (hu pins s2 σ H2 _ I2 q2) fun vu s3 hz30 => ?_)
  obtain ⟨u, H3, I3, pu, q3⟩ := hz30
  rw [evalPart_none]
  refine wpAny_pure ?_
  have I4 : Inv X pins σ H3 { s3 with heap := s3.heap.push { cls := .type "slice", data := .fields #[vl, vu, .none] } } := I3.kept (t' := s3.toks) fun b ob q => Heap.get?_push_of_some _ q
  obtain ⟨T, id, hT, ht, hg⟩ := hr pins { s3 with heap := s3.heap.push { cls := .type "slice", data := .fields #[vl, vu, .none] } } σ H3 x v vl vu l u s3.heap.objs.size Q I4 r1 (Heap.IsSliceOf.new ..) pl pu q3
  show wpAny (model X.prog X.w) X.A (subscriptTail e (.Slice lo hi none p2) v (.ref s3.heap.objs.size)) (EP X pins σ Q) X.xe { s3 with heap := s3.heap.push { cls := .type "slice", data := .fields #[vl, vu, .none] } }
  exact tail_any (ops := [.ref s3.heap.objs.size, v]) ht hT hg (by with_unfolding_all rfl)
noncomputable def cutV (xs : List V) (lo hi : Option Int) : List V := (xs.drop (HT.sIx xs.length 0 lo)).take (HT.sIx xs.length xs.length hi - HT.sIx xs.length 0 lo)
theorem cutV_length (xs : List V) (lo hi : Option Int) : (cutV xs lo hi).length ≤ xs.length := by
  unfold cutV
  rw [List.length_take, List.length_drop]
  lia
end
end L2
namespace L2
open PySem PySem.Spec PyProof.Rows
noncomputable def ixN (n : Nat) (i : Int) : Option Nat := if 0 ≤ i then (if i < n then some i.toNat else none) else if -(n : Int) ≤ i then some (i + n).toNat else none
noncomputable def atI {α : Type} (xs : List α) (i : Int) : Option α := (ixN xs.length i).bind fun j => xs[j]?
theorem ixN_seq {n : Nat} {i : Int} {j : Nat} (h : ixN n i = some j) : seqIndex? i n = some j ∧ j < n ∧ -(n : Int) ≤ i ∧ i < n := by
  unfold ixN at h
  by_cases h0 : 0 ≤ i
  · rw [if_pos h0] at h
    by_cases h1 : i < n
    · rw [if_pos h1] at h
      have e : i.toNat = j := Option.some.inj h
      exact ⟨by rw [seqIndex_of h0 h1, e], by lia, by lia, h1⟩
    · rw [if_neg h1] at h; cases h
  · rw [if_neg h0] at h
    by_cases h1 : -(n : Int) ≤ i
    · rw [if_pos h1] at h
      have e : (i + n).toNat = j := Option.some.inj h
      exact ⟨by rw [seqIndex_neg (by lia) h1, e], by lia, h1, by lia⟩
    · rw [if_neg h1] at h; cases h
theorem atI_get {α : Type} {xs : List α} {i : Int} {v : α} (h : atI xs i = some v) : ∃ j, seqIndex? i xs.length = some j ∧ xs[j]? = some v ∧ j < xs.length ∧ -(xs.length : Int) ≤ i ∧ i < xs.length := by
  unfold atI at h
  cases e : ixN xs.length i with
  | none => rw [e] at h; cases h
  | some j =>
    rw [e] at h
    obtain ⟨h1, h2, h3, h4⟩ := ixN_seq e
    exact ⟨j, h1, h, h2, h3, h4⟩
theorem atI_nat {α : Type} {xs : List α} {j : Nat} {v : α} (h : xs[j]? = some v) : atI xs (j : Int) = some v := by
  have hj : j < xs.length := (List.getElem?_eq_some_iff.mp h).1
  have e : ixN xs.length (j : Int) = some j := by
    unfold ixN
    rw [if_pos (by lia), if_pos (by lia)]; simp
  unfold atI; rw [e]; exact h
noncomputable def PlainIx (b : Expr) : Prop := ∀ o i, subscripted b false o i = operate [o, i] (getItem o i)
noncomputable def IxR (X : Cx) (r : R2) : Prop :=
  ∀ (value slice : Expr) (pins : List (Addr × Obj)) (s : Shared) (σ : St) (H : Hp) (x y : V) (v u : Value) (Q : VK), Inv X pins σ H s → RelV x v → RelV y u → r x y H Q →
    subscripted slice false v u = operate [v, u] (getItem v u) → wpAny (model X.prog X.w) X.A (subscriptTail value slice v u) (EP X pins σ Q) X.xe s
noncomputable def MtR (X : Cx) (id : String) (r : V → List V → Hp → VK → Prop) : Prop :=
  ∀ (pins : List (Addr × Obj)) (s : Shared) (σ : St) (H : Hp) (x : V) (xs : List V) (v : Value) (us : List Value) (Q : VK), Inv X pins σ H s → RelV x v → Vals xs us → r x xs H Q →
    wpAny (model X.prog X.w) X.A (call (.builtin id) (v :: us)) (EP X pins σ Q) X.xe s
section
variable {X : Cx} {a b : Expr} {ta tb : TE} {pos : Pos}
theorem pe_ix {r : R2} (hr : IxR X r) (ha : PE X a ta) (hb : PE X b tb) (hs : PlainIx b) : PE X (.Subscript a b pos) (tOp r ta tb) := by
  intro pins s σ H Q I h
  exact Subscript_ (binT ha hb I h fun v u s2 x y H2 I2 rx ry q => hr a b pins s2 σ H2 x y v u Q I2 rx ry q (hs _ _))
noncomputable def rIxL (K : PySem.W.Frag) : R2 := fun x y H Q => ∃ p xs i v, x = .ref p ∧ y = .int i ∧ SqL K H p xs ∧ atI xs i = some v ∧ Q v H
theorem ix_list : IxR X (rIxL X.K) := by
  intro value slice pins s σ H x y v u Q I rx ry h hs
  obtain ⟨p, xs, i, z, rfl, rfl, hq, he, q⟩ := h
  cases rx
  obtain ⟨t, rfl⟩ := ry
  obtain ⟨its, r, pl, hz⟩ := I.list hq
  obtain ⟨j, h1, h2, h3, h4, h5⟩ := atI_get he
  obtain ⟨w, ew, rw'⟩ := r.get h2
  have hl := r.length
  have hn := line63
  have fin : EP X pins σ Q w s := ⟨z, H, I, rw', q⟩
  by_cases h0 : 0 ≤ i
  · have hj : i.toNat = j := by
      rw [seqIndex_of h0 h5] at h1
      exact Option.some.inj h1
    exact item_listR pl.isList h0 (by lia) (by rw [hj]; simpa using ew) fin hs
  · have hj : (i + (its.toArray.size : Int)).toNat = j := by
      rw [seqIndex_neg (by lia) h4] at h1
      rw [List.size_toArray, ← hl]
      exact Option.some.inj h1
    exact subscriptTail_builtinR (x := w) pl.isList.typeIs slot_list_getitem.lookup
      (wpAny_getItem_list_neg (Q := fun r s' => r = w ∧ EP X pins σ Q r s') pl.isList (by lia) (by rw [List.size_toArray] <;> lia) (by lia) (by rw [hj]; simpa using ew) ⟨rfl, fin⟩) hs
theorem slice_bounds (lo hi : Option Int) (n : Nat) : (sliceBounds lo hi none n).1 = ((HT.sIx n 0 lo : Nat) : Int) ∧ (sliceBounds lo hi none n).2.1 = ((HT.sIx n n hi : Nat) : Int) ∧ (sliceBounds lo hi none n).2.2 = 1 := by
  refine ⟨?_, ?_, rfl⟩
  · cases lo with
    | none => simp [sliceBounds, HT.sIx]
    | some i =>
      simp only [sliceBounds, HT.sIx, Option.getD_none, show (1 : Int) > 0 by decide, if_true]
      by_cases h : i < 0
      · simp only [h, if_true] <;> lia
      · simp only [h, if_false] <;> lia
  · cases hi with
    | none => simp [sliceBounds, HT.sIx]
    | some i =>
      simp only [sliceBounds, HT.sIx, Option.getD_none, show (1 : Int) > 0 by decide, if_true]
      by_cases h : i < 0
      · simp only [h, if_true] <;> lia
      · simp only [h, if_false] <;> lia
theorem slicePick_cut (its : List Value) (lo hi : Option Int) : slicePick its.toArray lo hi none = ((its.drop (HT.sIx its.length 0 lo)).take (HT.sIx its.length its.length hi - HT.sIx its.length 0 lo)).toArray := by
  obtain ⟨h1, h2, h3⟩ := slice_bounds lo hi its.toArray.size
  unfold slicePick
  rw [h1, h2, h3]
  simp only [sliceRange_one, pick_run, List.size_toArray] <;> rfl
noncomputable def rSlL (K : PySem.W.Frag) : V → Option Int → Option Int → Hp → VK → Prop := fun x lo hi H Q => ∃ a xs, x = .ref a ∧ SqL K H a xs ∧ ∀ p, H p = none → Q (.ref p) (upd H p (.lst (cutV xs lo hi)))
theorem sl_list : SlR X (rSlL X.K) := by
  intro pins s σ H x v vl vu lo hi sl Q I rx hs pl pu h
  obtain ⟨a, xs, rfl, hx, q⟩ := h
  cases rx
  obtain ⟨its, r, ht, hz⟩ := I.list hx
  have hlen := r.length
  refine ⟨"list", _, slot_list_getitem.lookup, ht.isList.typeIs, ?_⟩
  refine wpAny_getItem_list_slice ht.isList hs pl pu .none (by simp) ?_ (by rw [List.size_toArray] <;> lia)
  rw [slicePick_cut, ← hlen]
  refine ⟨.ref s.heap.objs.size, _, I.laid (t' := s.toks) (o := .lst (cutV xs lo hi)) (fun b ob q => Heap.get?_push_of_some _ q) (Nat.le_refl _) ?_, rfl, q _ (I.hok.fresh (Nat.le_refl _))⟩
  exact ⟨Nat.le_trans (cutV_length xs lo hi) hz, _, 0, (r.drop (HT.sIx xs.length 0 lo)).take (HT.sIx xs.length xs.length hi - HT.sIx xs.length 0 lo), Heap.get?_push_size _ rfl⟩
theorem call_len_seq : CallR X (.builtin "len") (fun xs H Q => ∃ p ys, xs = [.ref p] ∧ (SqL X.K H p ys ∨ SqT X.K H p ys) ∧ Q (.int ys.length) H) := by
  intro pins s σ H xs us Q I r h
  obtain ⟨p, ys, rfl, hq, q⟩ := h
  obtain ⟨u, rfl, rx⟩ := vals1 r
  cases rx
  have hn := line63
  rcases hq with hq | hq
  · obtain ⟨its, r', pl, hz⟩ := I.list hq
    have hlen := r'.length
    exact Calls.call_len_list pl.isList (by simp only [List.size_toArray] <;> lia) ⟨.int ys.length, H, I.tok _, ⟨s.toks + 1, by rw [List.size_toArray, hlen]⟩, q⟩
  · obtain ⟨its, r', pl, hz⟩ := I.tuple hq
    have hlen := r'.length
    exact len_tuple pl (by simp only [List.size_toArray] <;> lia) ⟨.int ys.length, H, I.tok _, ⟨s.toks + 1, by rw [List.size_toArray, hlen]⟩, q⟩
theorem call_list_of : CallR X (.type "list") (fun xs H Q => ∃ p ys, xs = [.ref p] ∧ (SqL X.K H p ys ∨ SqT X.K H p ys) ∧ ∀ l, H l = none → Q (.ref l) (upd H l (.lst ys))) := by
  intro pins s σ H xs us Q I r h
  obtain ⟨p, ys, rfl, hq, q⟩ := h
  obtain ⟨u, rfl, rx⟩ := vals1 r
  cases rx
  have fin : ∀ (its : List Value), Vals ys its → ys.length ≤ sizeLine → ∀ (h' : Heap) (c' : Nat), (∀ b o', s.heap.get? b = some o' → h'.get? b = some o') →
      h'.get? s.heap.objs.size = some { cls := .type "list", dict := none, data := .seq its.toArray c', slots := #[] } → EP X pins σ Q (.ref s.heap.objs.size) { s with heap := h' } := fun its r' hz h' c' kp e =>
    ⟨.ref s.heap.objs.size, _, I.laid (t' := s.toks) kp (Nat.le_refl _) (show ObjOk X.prog X.w _ h' _ (.lst ys) from ⟨hz, its, c', r', e⟩), rfl, q _ (I.hok.fresh (Nat.le_refl _))⟩
  rcases hq with hq | hq
  · obtain ⟨its, r', pl, hz⟩ := I.list hq
    have hlen := r'.length
    obtain ⟨o, ho, hc, n, hd⟩ := pl.isList
    exact call_list_seq p (.inl rfl) ho hc hd (fun h' c' kp e => fin its r' hz h' c' kp e) (by simp only [List.size_toArray] <;> lia)
  · obtain ⟨its, r', pl, hz⟩ := I.tuple hq
    have hlen := r'.length
    obtain ⟨o, ho, hc, n, hd⟩ := pl
    exact call_list_seq p (.inr rfl) ho hc hd (fun h' c' kp e => fin its r' hz h' c' kp e) (by simp only [List.size_toArray] <;> lia)
noncomputable def tyV (K : PySem.W.Frag) (T : String) (x : V) (H : Hp) : Prop := match x with
  | .str _ => T = "str"
  | .int _ => T = "int"
  | .ref p => (T = "list" ∧ ∃ xs, SqL K H p xs) ∨ (T = "tuple" ∧ ∃ o, K.lookup p = some o ∧ o.cls = .type "tuple" ∧ o.dict = none) ∨
      (T = "dict" ∧ ((∃ kvs, H p = some (.dK kvs)) ∨ ∃ kvs, H p = some (.dT kvs))) ∨ (T = "set" ∧ ∃ S n, H p = some (.set S n))
  | _ => False
theorem tyV_is {pins : List (Addr × Obj)} {σ : St} {H : Hp} {s : Shared} {T : String} {x : V} {v : Value} (I : Inv X pins σ H s) (r : RelV x v) (ty : tyV X.K T x H) :
    s.TypeIs v T ∧ ∀ a, v = .ref a → ∃ ob, s.heap.get? a = some ob ∧ ob.dict = none := by
  cases x with
  | str z =>
    obtain ⟨t, rfl⟩ := r
    cases (show T = "str" from ty)
    exact ⟨typeIs_str s z t, fun _ e => nomatch e⟩
  | int i =>
    obtain ⟨t, rfl⟩ := r
    cases (show T = "int" from ty)
    exact ⟨typeIs_int s i t, fun _ e => nomatch e⟩
  | ref p =>
    cases r
    rcases ty with ⟨rfl, xs, hq⟩ | ⟨rfl, o, hk, hc, hd⟩ | ⟨rfl, hk⟩ | ⟨rfl, S, n, hk⟩
    · obtain ⟨its, _, pl, _⟩ := I.list hq
      refine ⟨pl.isList.typeIs, fun a e => ?_⟩
      cases e
      obtain ⟨o, n, e, c, hd, _⟩ := pl
      exact ⟨o, e, hd⟩
    · refine ⟨⟨o, I.kIn p o hk, hc⟩, fun a e => ?_⟩
      cases e
      exact ⟨o, I.kIn _ o hk, hd⟩
    · have z : ∃ o, s.heap.get? p = some o ∧ o.ExactDict := by
        rcases hk with ⟨kvs, hk⟩ | ⟨kvs, hk⟩
        · obtain ⟨_, _, _, _, o, _, _, e, ex, _⟩ := I.hok p _ hk
          exact ⟨o, e, ex⟩
        · obtain ⟨_, _, _, _, o, _, _, e, ex, _⟩ := I.hok p _ hk
          exact ⟨o, e, ex⟩
      obtain ⟨o, e, ex⟩ := z
      refine ⟨⟨o, e, ex.1⟩, fun a e2 => ?_⟩
      cases e2
      exact ⟨o, e, ex.2.1⟩
    · obtain ⟨o, _, _, _, e, ex, _⟩ := I.hok p _ hk
      refine ⟨⟨o, e, ex.1⟩, fun a e2 => ?_⟩
      cases e2
      exact ⟨o, e, ex.2.1⟩
  | _ => exact False.elim ty
noncomputable def tBM (K : PySem.W.Frag) (T : String) (r : V → List V → Hp → VK → Prop) (to : TE) (t : TA) : TE := fun σ H Q => to σ H fun x H1 => tyV K T x H1 ∧ t σ H1 fun xs H2 => r x xs H2 Q
variable {o e : Expr} {es : List Expr} {to : TE} {t : TA} {name : Str} {apos cpos : Pos} {T id : String} {r : V → List V → Hp → VK → Prop}
theorem pe_bm (pa : PlainAttrs T) (slot : Slot T name id) (hty : typeOf (.builtin id) = pure (.type "method_descriptor")) (hm : MtR X id r) (ho : PE X o to) (ha : PA X (e :: es) t)
    (hbase : attributeBase o name X.env (eval o X.env) = eval o X.env := by rfl)
    (hfew : ((backTo cpos (starEach (e :: es) X.env)).all (fun x => !x.1) && (backToKw cpos (keywordEach [] X.env)).all (fun x => x.1.isSome)
      && decide ((e :: es).length + ([] : List Keyword).length + (if ([] : List Keyword).isEmpty then 0 else 1) < 30)) = true := by rfl)
    (hline : (apos.endLine == cpos.line) = true := by rfl) (hs : starEach (e :: es) X.env = (false, eval e X.env) :: starEach es X.env := by rfl) (hplain : (backTo cpos (starEach es X.env)).any (·.1) = false := by rfl) :
    PE X (.Call (.Attribute o name apos) (e :: es) [] cpos) (tBM X.K T r to t) := by
  intro pins s σ H Q I h
  refine wpAny_Call_method_late hbase hfew hline rfl (thn (ho pins s σ H _ I h) fun v s1 hz31 => ?_)
  obtain ⟨x, H1, I1, r1, ty, q1⟩ := hz31
  obtain ⟨h1, h2⟩ := tyV_is I1 r1 ty
  refine ⟨T, id, pa, slot, hty, h1, h2, ?_⟩
  have hA := ha cpos pins s1 σ H1 _ I1 q1
  rw [hs] at hA ⊢
  refine Calls.callWith_builtin (by show (false || (backTo cpos (starEach es X.env)).any (·.1)) = false; rw [hplain] <;> rfl) (Calls.evalArgs_plain ?_)
  exact thn hA fun us s2 ⟨vs, H2, I2, r2, q2⟩ => hm pins s2 σ H2 x vs v us Q I2 r1 r2 q2
/- xs.append(e), list.index on a module's tuple .. are MtR facts of 06m -/
end
end L2
namespace L2
open PySem PySem.Spec PyProof.Rows
noncomputable def MtM (X : Cx) (id : String) (r : V → List V → Hp → VK → Prop) : Prop :=
  ∀ (pins : List (Addr × Obj)) (s : Shared) (σ : St) (H : Hp) (x : V) (xs : List V) (v : Value) (us : List Value) (Q : VK), Inv X pins σ H s → RelV x v → Vals xs us → r x xs H Q →
    wpAny (model X.prog X.w) X.A (call (.builtin id) (v :: us)) (EP X pins σ Q) X.xe s
theorem Vals.one : ∀ {x : V} {us : List Value}, Vals [x] us → ∃ u, us = [u] ∧ RelV x u
  | _, _, .cons r .nil => ⟨_, rfl, r⟩
theorem Vals.rep {xs : List V} {us : List Value} (h : Vals xs us) : ∀ k : Nat, Vals (List.replicate k xs).flatten (List.replicate k us).flatten
  | 0 => .nil
  | k + 1 => by
    rw [List.replicate_succ, List.replicate_succ, List.flatten_cons, List.flatten_cons]
    exact Vals.append h (Vals.rep h k)
theorem foldl_rep (its : List Value) : ∀ (k : Nat) (acc : List Value),
    List.foldl (fun x1 x2 => x1 ++ x2) acc.toArray (List.replicate k its.toArray) = (acc ++ (List.replicate k its).flatten).toArray
  | 0, acc => by simp
  | k + 1, acc => by
    have e : acc.toArray ++ its.toArray = (acc ++ its).toArray := by simp
    have e2 : (acc ++ its) ++ (List.replicate k its).flatten = acc ++ (List.replicate (k + 1) its).flatten := by
      rw [List.replicate_succ, List.flatten_cons, List.append_assoc]
    rw [← e2, ← foldl_rep its k (acc ++ its), ← e, List.replicate_succ, List.foldl_cons]
section
variable {X : Cx} {pins : List (Addr × Obj)} {σ : St} {H : Hp} {s : Shared} {l b : Addr} {xs ys zs : List V}
theorem Inv.lset {its its' : List Value} {n : Nat} {f : Array Value → Array Value} {t' : Nat} (I : Inv X pins σ H s) (hH : H l = some (.lst xs))
    (e : s.heap.get? l = some { cls := .type "list", data := .seq its.toArray n }) (hf : f its.toArray = its'.toArray) (hv : Vals ys its') (hz : ys.length ≤ sizeLine) :
    Inv X pins σ (upd H l (.lst ys)) { s with heap := s.heap.update l (Obj.mapSeq f), toks := t' } := by
  have q := PySem.IsL.update e f
  rw [hf] at q
  refine I.write (x := l) (e := l) (by rw [hH]; exact trivial) (.inl rfl) (fun b' u hb hu => (Heap.get?_update_other s.heap (Obj.mapSeq f) (Ne.symm hb)).trans hu) ⟨_, q⟩ ?_
  exact ⟨hz, its', _, hv, q⟩
theorem Inv.lnew {its : List Value} {t' : Nat} (I : Inv X pins σ H s) (hv : Vals ys its) (hz : ys.length ≤ sizeLine) :
    Inv X pins σ (upd H s.heap.objs.size (.lst ys)) { s with heap := s.heap.push { cls := .type "list", data := .seq its.toArray }, toks := t' } :=
  I.laid (fun _ _ q => Heap.get?_push_of_some _ q) (Nat.le_refl _) ⟨hz, its, 0, hv, Heap.get?_push_size _ rfl⟩
theorem Inv.fresh (I : Inv X pins σ H s) : H s.heap.objs.size = none := I.hok.fresh (Nat.le_refl _)
theorem Inv.lstM (I : Inv X pins σ H s) (hH : H l = some (.lst xs)) : xs.length ≤ sizeLine ∧ ∃ (its : List Value) (n : Nat), Vals xs its ∧ xs.length = its.length ∧ s.heap.get? l = some { cls := .type "list", data := .seq its.toArray n } := by
  obtain ⟨z, its, n, r, e⟩ := I.hok l _ hH
  exact ⟨z, its, n, r, r.length, e⟩
theorem notLongL {n : Nat} (h : n ≤ sizeLine) : Builtin.List.listTooLong n = false := by
  unfold Builtin.List.listTooLong
  exact decide_eq_false (by lia)
end
section
variable {X : Cx}
noncomputable def rAppend : V → List V → Hp → VK → Prop := fun x vs H Q => ∃ l xs y, x = .ref l ∧ vs = [y] ∧ H l = some (.lst xs) ∧ xs.length < sizeLine ∧ Q .non (upd H l (.lst (xs ++ [y])))
theorem mt_append : MtM X "list.append" rAppend := by
  intro pins s σ H x vs v us Q I rx rv h
  obtain ⟨l, xs, y, rfl, rfl, hH, hz, q⟩ := h
  cases rx
  obtain ⟨u, rfl, ru⟩ := rv.one
  obtain ⟨z, its, n, r, hl, e⟩ := I.lstM hH
  refine call_meets F.slot_list_append ⟨_, e, rfl⟩ F.entry_list_append (F.args_list_append_2 _ _) (PySem.list_append l its.toArray n u (by rw [List.size_toArray]; lia)) ⟨e, ?_⟩
  refine ⟨.non, _, I.lset (its' := its ++ [u]) hH e (by simp) (r.append (.cons ru .nil)) ?_, rfl, q⟩
  rw [List.length_append, List.length_singleton]
  lia
noncomputable def rExtend : V → List V → Hp → VK → Prop := fun x vs H Q => ∃ l b xs zs, x = .ref l ∧ vs = [.ref b] ∧ H l = some (.lst xs) ∧ H b = some (.lst zs) ∧ xs.length + zs.length ≤ sizeLine ∧ Q .non (upd H l (.lst (xs ++ zs)))
theorem mt_extend : MtM X "list.extend" rExtend := by
  intro pins s σ H x vs v us Q I rx rv h
  obtain ⟨l, b, xs, zs, rfl, rfl, hH, hB, hz, q⟩ := h
  cases rx
  obtain ⟨u, rfl, ru⟩ := rv.one
  cases ru
  obtain ⟨z, its, n, r, hl, e⟩ := I.lstM hH
  obtain ⟨z2, its2, n2, r2, hl2, e2⟩ := I.lstM hB
  have hsz : its.toArray.size + its2.toArray.size ≤ sizeLine := by rw [List.size_toArray, List.size_toArray]; lia
  have hlong : ¬ (!its.toArray.isEmpty && Builtin.List.listTooLong (its.toArray.size + its2.toArray.size)) = true := by
    rw [notLongL hsz, Bool.and_false]
    exact Bool.false_ne_true
  refine call_meets F.slot_list_extend ⟨_, e, rfl⟩ F.entry_list_extend (F.args_list_extend_2 _ _)
    (AutoSeq1.list_extend_list_list_0 l its.toArray n b its2.toArray n2 hlong (by rw [List.size_toArray]; lia) (by lia)) ⟨e, e2, ?_⟩
  refine ⟨.non, _, I.lset (its' := its ++ its2) hH e (by simp) (r.append r2) ?_, rfl, q⟩
  rw [List.length_append]
  lia
noncomputable def rCat : R2 := fun x y H Q => ∃ l b xs zs, x = .ref l ∧ y = .ref b ∧ H l = some (.lst xs) ∧ H b = some (.lst zs) ∧ xs.length + zs.length ≤ sizeLine ∧ ∀ p, H p = none → Q (.ref p) (upd H p (.lst (xs ++ zs)))
theorem op_cat : OpR X (binaryOp .Add) rCat := by
  intro pins s σ H x y v u Q I rx ry h
  obtain ⟨l, b, xs, zs, rfl, rfl, hH, hB, hz, q⟩ := h
  cases rx
  cases ry
  obtain ⟨z, its, n, r, hl, e⟩ := I.lstM hH
  obtain ⟨z2, its2, n2, r2, hl2, e2⟩ := I.lstM hB
  refine PySem.P.add_list e e2 ?_ (by rw [List.size_toArray, List.size_toArray]; lia)
  have ea : its.toArray ++ its2.toArray = (its ++ its2).toArray := by simp
  rw [ea]
  exact ⟨.ref _, _, I.lnew (t' := s.toks) (r.append r2) (by rw [List.length_append]; lia), rfl, q _ I.fresh⟩
noncomputable def rRep : R2 := fun x y H Q => ∃ l k xs, x = .ref l ∧ y = .int k ∧ H l = some (.lst xs) ∧ -(2 ^ 63) ≤ k ∧ k < 2 ^ 63 ∧ xs.length * k.toNat ≤ sizeLine ∧
  ∀ p, H p = none → Q (.ref p) (upd H p (.lst (List.replicate k.toNat xs).flatten))
theorem len_rep {α : Type} (xs : List α) (k : Nat) : (List.replicate k xs).flatten.length = k * xs.length := by
  induction k with
  | zero => simp
  | succ k ih => rw [List.replicate_succ, List.flatten_cons, List.length_append, ih, Nat.succ_mul, Nat.add_comm]
theorem op_rep : OpR X (binaryOp .Mult) rRep := by
  intro pins s σ H x y v u Q I rx ry h
  obtain ⟨l, k, xs, rfl, rfl, hH, h1, h2, hz, q⟩ := h
  cases rx
  obtain ⟨t, rfl⟩ := ry
  obtain ⟨z, its, n, r, hl, e⟩ := I.lstM hH
  have hlen : its.toArray.size * k.toNat ≤ sizeLine := by rw [List.size_toArray, ← hl]; exact hz
  have hcap : ¬ its.toArray.size * k.toNat > (2 ^ 63 - 1) / 8 := by
    have : (sizeLine : Nat) ≤ (2 ^ 63 - 1) / 8 := by decide
    lia
  have hfit : ¬ (!Builtin.List.listFitsIndex k) = true := by
    rw [fitsIndex_both h1 h2]
    exact Bool.false_ne_true
  have hlong : ¬ Builtin.List.listTooLong (its.toArray.size * k.toNat) = true := by
    rw [notLongL hlen]
    exact Bool.false_ne_true
  have hnew : List.foldl (fun x1 x2 => x1 ++ x2) #[] (List.replicate (if its.toArray.isEmpty = true then 0 else k.toNat) its.toArray) = (List.replicate k.toNat its).flatten.toArray := by
    have f0 : ∀ m : Nat, List.foldl (fun x1 x2 => x1 ++ x2) #[] (List.replicate m its.toArray) = (List.replicate m its).flatten.toArray := fun m => by
      have := foldl_rep its m []
      rw [List.nil_append] at this
      exact this
    rw [f0]
    cases its with
    | nil => simp
    | cons a r' => rw [if_neg (by simp)]
  refine wpAny_binaryOp_repeat_ref (T := "list") (U := "int") (by decide) ⟨_, e, rfl⟩ (fun s' => typeIs_int s' k t) noFill_list_mul F.fills_int_mul F.slot_int_rmul repeat_list F.slot_int_index.lookup
    (call_meets F.slot_int_rmul (typeIs_int s k t) F.entry_int_rmul (F.args_int_rmul_2 _ _) (int___rmul___int_list k t l its.toArray n)
      ⟨e, rfl, ⟨_, e, rfl⟩, call_meets F.slot_list_mul ⟨_, e, rfl⟩ F.entry_list_mul (F.args_list_mul_2 _ _) (AutoListH.list___mul___list_int_3 l its.toArray n k t hfit hcap hlong) ⟨e, ?_⟩⟩)
  rw [hnew]
  exact ⟨.ref _, _, I.lnew (t' := s.toks) (r.rep k.toNat) (by rw [len_rep, Nat.mul_comm]; exact hz), rfl, q _ I.fresh⟩
end
section
variable {prog : Program} {w : World} {A : Around} {E : Value → Shared → Prop} {s : Shared}
end
section
variable {X : Cx}
end
end L2
namespace L2
open PySem PySem.Spec PyProof.Rows
section
variable {prog : Program} {w : World} {A : Around} {E : Value → Shared → Prop} {s : Shared} {l : Addr} {its : List Value} {ns : List Int} {Q : Value → Shared → Prop}
end
section
variable {X : Cx}
end
section
variable {X : Cx}
end
section
variable {X : Cx}
end
section
variable {X : Cx}
end
mutual
inductive Dp (K : PySem.W.Frag) (H : Hp) : V → PyData → Prop
  | non : Dp K H .non .none
  | bl (b : Bool) : Dp K H (.bl b) (.bool b)
  | int (i : Int) : Dp K H (.int i) (.int i)
  | str (x : Str) : Dp K H (.str x) (.str x)
  | lst {a : Addr} {xs : List V} {ds : List PyData} : SqL K H a xs → DpAll K H xs ds → Dp K H (.ref a) (.list ds)
  | tup {a : Addr} {xs : List V} {ds : List PyData} : SqT K H a xs → DpAll K H xs ds → Dp K H (.ref a) (.tuple ds)
inductive DpAll (K : PySem.W.Frag) (H : Hp) : List V → List PyData → Prop
  | nil : DpAll K H [] []
  | cons {v : V} {vs : List V} {d : PyData} {ds : List PyData} : Dp K H v d → DpAll K H vs ds → DpAll K H (v :: vs) (d :: ds)
end
section
variable {X : Cx} {pins : List (Addr × Obj)} {σ : St} {H : Hp} {s : Shared}
mutual
theorem Dp.reads (I : Inv X pins σ H s) : ∀ (d : PyData) (v : V) (u : Value), Dp X.K H v d → RelV v u → ∃ as, Reads s.heap u d as
  | .none, _, _, h, r => by
    cases h
    cases r
    exact ⟨_, Reads.none⟩
  | .bool b, _, _, h, r => by
    cases h
    cases r
    exact ⟨_, Reads.bool b⟩
  | .int i, _, _, h, r => by
    cases h
    obtain ⟨t, rfl⟩ := r
    exact ⟨_, Reads.int i t⟩
  | .str x, _, _, h, r => by
    cases h
    obtain ⟨t, rfl⟩ := r
    exact ⟨_, Reads.str x t⟩
  | .list ds, _, _, h, r => by
    cases h with
    | lst hs ha =>
      cases r
      obtain ⟨its, rv, ⟨o, n, ho, hc, _, hd⟩, _⟩ := I.list hs
      obtain ⟨as, hr⟩ := Dp.readsAll I ds _ its ha rv
      exact ⟨_, Reads.list ho hc hd hr⟩
  | .tuple ds, _, _, h, r => by
    cases h with
    | tup hs ha =>
      cases r
      obtain ⟨its, rv, ⟨o, ho, hc, n, hd⟩, _⟩ := I.tuple hs
      obtain ⟨as, hr⟩ := Dp.readsAll I ds _ its ha rv
      exact ⟨_, Reads.tuple ho hc hd hr⟩
  | .dict _, _, _, h, _ => by cases h
theorem Dp.readsAll (I : Inv X pins σ H s) : ∀ (ds : List PyData) (vs : List V) (us : List Value), DpAll X.K H vs ds → Vals vs us → ∃ as, ReadsAll s.heap us ds as
  | [], _, _, h, r => by
    cases h
    cases r
    exact ⟨_, ReadsAll.nil⟩
  | d :: ds, _, _, h, r => by
    cases h with
    | cons h1 h2 =>
      cases r with
      | cons r1 r2 =>
        obtain ⟨as, q1⟩ := Dp.reads I d _ _ h1 r1
        obtain ⟨bs, q2⟩ := Dp.readsAll I ds _ _ h2 r2
        exact ⟨_, ReadsAll.cons q1 q2⟩
end
end
section
variable {X : Cx}
noncomputable def rEqD (K : PySem.W.Frag) : R2 := fun x y H Q => ∃ d e, Dp K H x d ∧ Dp K H y e ∧ SeqAt.shaped d = true ∧ SeqAt.shaped e = true ∧ Q (.bl (PyData.eqv d e)) H
noncomputable def rNeD (K : PySem.W.Frag) : R2 := fun x y H Q => ∃ d e, Dp K H x d ∧ Dp K H y e ∧ SeqAt.shaped d = true ∧ SeqAt.shaped e = true ∧ Q (.bl (!PyData.eqv d e)) H
theorem op_eqD (hu : X.A.units + 64 < cLine) : OpR X (compareOp .Eq) (rEqD X.K) := by
  intro pins s σ H x y v u Q I rx ry h
  obtain ⟨d, e, hd, he, sd, se, q⟩ := h
  obtain ⟨as, r1⟩ := Dp.reads I d x v hd rx
  obtain ⟨bs, r2⟩ := Dp.reads I e y u he ry
  exact SeqAt.compareEq_shaped r1 r2 sd se hu ⟨.bl _, H, I, rfl, q⟩
theorem op_neD (hu : X.A.units + 64 < cLine) : OpR X (compareOp .NotEq) (rNeD X.K) := by
  intro pins s σ H x y v u Q I rx ry h
  obtain ⟨d, e, hd, he, sd, se, q⟩ := h
  obtain ⟨as, r1⟩ := Dp.reads I d x v hd rx
  obtain ⟨bs, r2⟩ := Dp.reads I e y u he ry
  exact SeqAt.compareNe_shaped r1 r2 sd se hu ⟨.bl _, H, I, rfl, q⟩
end
end L2
namespace L2
open PySem PySem.Spec PyProof.Rows
noncomputable abbrev CellAt (h : Heap) (c : Addr) (v : Option Value) : Prop := h.IsCell c v
noncomputable def relS (scope sc : Scope) : Scope :=
  { scope with names := scope.names.map fun (n, k) => if (k == .free && sc.kind == .function && sc.names.lookup n == some .cell) then (n, .cell) else (n, k) }
noncomputable def cloFrom (cells : List (Str × Addr)) : List (Str × NameKind) → List (Str × Addr) → List (Str × Addr)
  | [], acc => acc
  | (n, k) :: r, acc => if k == .free then cloFrom cells r ((n, (cells.lookup n).getD 0) :: acc) else cloFrom cells r acc
theorem closure_loop (env : Env) (f : Str × NameKind → List (Str × Addr) → Sem (ForInStep (List (Str × Addr))))
    (hf : ∀ n k c, f (n, k) c = if k == .free then (do let a ← cellOf env n; pure (.yield ((n, a) :: c))) else pure (.yield c)) :
    ∀ (names : List (Str × NameKind)) (acc : List (Str × Addr)), (∀ y ∈ names, y.2 = .free → ∃ c, env.cells.lookup y.1 = some c) → forIn names acc f = pure (cloFrom env.cells names acc)
  | [], acc, _ => by rw [List.forIn_nil]; rfl
  | (n, k) :: r, acc, h => by
    rw [List.forIn_cons, hf]
    have ih := fun acc => closure_loop env f hf r acc fun y hy => h y (List.mem_cons_of_mem _ hy)
    unfold cloFrom
    by_cases hk : (k == NameKind.free) = true
    · rw [if_pos hk, if_pos hk]
      obtain ⟨c, hc⟩ := h (n, k) List.mem_cons_self (by simpa using hk)
      have e : cellOf env n = pure c := by unfold cellOf; rw [hc]
      rw [e]
      have e2 : (env.cells.lookup n).getD 0 = c := by rw [hc]; rfl
      rw [e2]
      exact ih _
    · rw [if_neg hk, if_neg hk]
      exact ih _
theorem closure_ok {scope : Scope} {env : Env} (h : ∀ y ∈ scope.names, y.2 = .free → ∃ c, env.cells.lookup y.1 = some c) : closureFor scope env = pure (cloFrom env.cells scope.names []) := by
  simp only [closureFor]
  rw [closure_loop env _ (fun n k c => rfl) scope.names [] h]
  rfl
theorem mem_lookup {α : Type} : ∀ {l : List (Str × α)} {n : Str} {c : α}, (n, c) ∈ l → ∃ c', l.lookup n = some c'
  | (k, v) :: r, n, c, h => by
    rw [List.lookup_cons]
    cases hb : n == k with
    | true => exact ⟨_, rfl⟩
    | false =>
      rcases List.mem_cons.mp h with e | h
      · cases e; simp at hb
      · exact mem_lookup h
theorem cloFrom_mem {cells : List (Str × Addr)} : ∀ {names : List (Str × NameKind)} {acc : List (Str × Addr)} {n : Str} {c : Addr}, (n, c) ∈ cloFrom cells names acc → (n, c) ∈ acc ∨ ((n, .free) ∈ names ∧ c = (cells.lookup n).getD 0)
  | [], _, _, _, h => .inl h
  | (m, k) :: r, acc, n, c, h => by
    unfold cloFrom at h
    split at h
    · rename_i hk
      have hk : k = .free := by simpa using hk
      rcases cloFrom_mem h with h | ⟨h1, h2⟩
      · rcases List.mem_cons.mp h with e | h
        · cases e; exact .inr ⟨hk ▸ List.mem_cons_self, rfl⟩
        · exact .inl h
      · exact .inr ⟨List.mem_cons_of_mem _ h1, h2⟩
    · rcases cloFrom_mem h with h | ⟨h1, h2⟩
      · exact .inl h
      · exact .inr ⟨List.mem_cons_of_mem _ h1, h2⟩
theorem cloFrom_acc {cells : List (Str × Addr)} : ∀ {names : List (Str × NameKind)} {acc : List (Str × Addr)} {p : Str × Addr}, p ∈ acc → p ∈ cloFrom cells names acc
  | [], _, _, h => h
  | (m, k) :: r, acc, p, h => by
    unfold cloFrom
    split
    · exact cloFrom_acc (List.mem_cons_of_mem _ h)
    · exact cloFrom_acc h
theorem cloFrom_has {cells : List (Str × Addr)} : ∀ {names : List (Str × NameKind)} {acc : List (Str × Addr)} {n : Str}, (n, .free) ∈ names → (n, (cells.lookup n).getD 0) ∈ cloFrom cells names acc
  | (m, k) :: r, acc, n, h => by
    unfold cloFrom
    rcases List.mem_cons.mp h with e | h
    · cases e
      exact cloFrom_acc List.mem_cons_self
    · split
      · exact cloFrom_has h
      · exact cloFrom_has h
theorem cells_mem : ∀ {names : List (Str × NameKind)} {h : Heap} {acc : List (Str × Addr)} {x : Str} {c : Addr}, (x, c) ∈ cellsFrom h.objs.size names acc →
    (x, c) ∈ acc ∨ ((x, .cell) ∈ names ∧ h.objs.size ≤ c ∧ CellAt (pushCells h names) c none)
  | [], _, _, _, _, h => .inl h
  | (n, k) :: r, h, acc, x, c, hm => by
    unfold cellsFrom at hm
    unfold pushCells
    split at hm
    · rename_i hk
      rw [if_pos hk]
      have hk : k = .cell := by simpa using hk
      rw [← Heap.size_push h { cls := .type "cell", data := .cell none }] at hm
      rcases cells_mem hm with hm | ⟨h1, h2, h3⟩
      · rcases List.mem_cons.mp hm with e | hm
        · cases e
          exact .inr ⟨hk ▸ List.mem_cons_self, Nat.le_refl _, _, pushCells_keeps r _ _ _ (Heap.get?_push_size _ rfl), rfl⟩
        · exact .inl hm
      · rw [Heap.size_push] at h2
        exact .inr ⟨List.mem_cons_of_mem _ h1, Nat.le_of_succ_le h2, h3⟩
    · rename_i hk
      rw [if_neg hk]
      rcases cells_mem hm with hm | ⟨h1, h2, h3⟩
      · exact .inl hm
      · exact .inr ⟨List.mem_cons_of_mem _ h1, h2, h3⟩
theorem cells_acc : ∀ {names : List (Str × NameKind)} {n : Nat} {acc : List (Str × Addr)} {p : Str × Addr}, p ∈ acc → p ∈ cellsFrom n names acc
  | [], _, _, _, h => h
  | (m, k) :: r, n, acc, p, h => by
    unfold cellsFrom
    split
    · exact cells_acc (List.mem_cons_of_mem _ h)
    · exact cells_acc h
theorem cells_has : ∀ {names : List (Str × NameKind)} {n : Nat} {acc : List (Str × Addr)} {x : Str}, (x, .cell) ∈ names → ∃ c, (x, c) ∈ cellsFrom n names acc
  | (m, k) :: r, n, acc, x, h => by
    unfold cellsFrom
    rcases List.mem_cons.mp h with e | h
    · cases e
      exact ⟨n, cells_acc List.mem_cons_self⟩
    · split
      · exact cells_has h
      · exact cells_has h
theorem cells_inj : ∀ {names : List (Str × NameKind)} {h : Heap} {acc : List (Str × Addr)} {x y : Str} {c : Addr}, (∀ p ∈ acc, p.2 < h.objs.size) → (∀ x y c, (x, c) ∈ acc → (y, c) ∈ acc → x = y) →
    (x, c) ∈ cellsFrom h.objs.size names acc → (y, c) ∈ cellsFrom h.objs.size names acc → x = y
  | [], _, _, _, _, _, _, hi, h1, h2 => hi _ _ _ h1 h2
  | (n, k) :: r, h, acc, x, y, c, hl, hi, h1, h2 => by
    unfold cellsFrom at h1 h2
    split at h1
    · rename_i hk
      rw [if_pos hk] at h2
      rw [← Heap.size_push h { cls := .type "cell", data := .cell none }] at h1 h2
      refine cells_inj (h := h.push _) (fun p hp => ?_) (fun x y c a b => ?_) h1 h2
      · rw [Heap.size_push]
        rcases List.mem_cons.mp hp with rfl | hp
        · exact Nat.lt_succ_self _
        · exact Nat.lt_succ_of_lt (hl p hp)
      · rcases List.mem_cons.mp a with e | a <;> rcases List.mem_cons.mp b with e' | b
        · cases e; cases e'; rfl
        · cases e; exact absurd (hl _ b) (Nat.lt_irrefl _)
        · cases e'; exact absurd (hl _ a) (Nat.lt_irrefl _)
        · exact hi _ _ _ a b
    · rename_i hk
      rw [if_neg hk] at h2
      exact cells_inj hl hi h1 h2
theorem newEnv_comp {M : Model} {A : Around} {E : Value → Shared → Prop} {s : Shared} {scope : Scope} {globals : Addr} {closure : List (Str × Addr)} {qual : Str} {func : Option Addr} {code : Value} {around : Env} {builtins : Addr} {Q : Env → Shared → Prop}
    (h : Q (newEnv scope s.heap.objs.size globals (cellsFrom (s.heap.objs.size + 1) scope.names closure) qual func code (some around) builtins)
      { s with heap := pushCells (s.heap.push { cls := .type "dict", data := .dict #[] }) scope.names }) :
    wpAny M A (newFunctionEnv scope globals closure [] qual func code (some around) builtins) Q E s := by
  simp only [newFunctionEnv, Option.isSome_some, if_true]
  refine wpAny_bind (wpAny_alloc ?_)
  refine wpAny_bind (wpAny_layCells _ (fun n k c => rfl) scope.names closure _ _ ?_)
  rw [show ({ s with heap := s.heap.push { cls := .type "dict", data := .dict #[] } } : Shared).heap.objs.size = s.heap.objs.size + 1 from Heap.size_push ..]
  rw [List.forIn_nil]
  exact wpAny_bind (wpAny_pure (wpAny_pure h))
theorem lookup_relS {sc : Scope} : ∀ {names : List (Str × NameKind)} {x : Str} {k : NameKind},
    (names.map fun (n, k) => if (k == NameKind.free && sc.kind == .function && sc.names.lookup n == some .cell) then (n, NameKind.cell) else (n, k)).lookup x = some k →
    ∃ k', names.lookup x = some k' ∧ (k = k' ∨ (k' = .free ∧ k = .cell))
  | [], _, _, h => by simp at h
  | (n, k₀) :: r, x, k, h => by
    have ih := @lookup_relS sc r x k
    have h' : List.lookup x ((if (k₀ == NameKind.free && sc.kind == .function && sc.names.lookup n == some .cell) = true then (n, NameKind.cell) else (n, k₀)) :: (r.map _)) = some k := h
    cases hx : x == n with
    | true =>
      simp only [List.lookup_cons, hx]
      by_cases hc : (k₀ == NameKind.free && sc.kind == .function && sc.names.lookup n == some .cell) = true
      · rw [if_pos hc] at h'
        simp only [List.lookup_cons, hx] at h'
        cases h'
        simp only [Bool.and_eq_true, beq_iff_eq] at hc
        exact ⟨k₀, rfl, .inr ⟨hc.1.1, rfl⟩⟩
      · rw [if_neg hc] at h'
        simp only [List.lookup_cons, hx] at h'
        cases h'
        exact ⟨_, rfl, .inl rfl⟩
    | false =>
      simp only [List.lookup_cons, hx]
      by_cases hc : (k₀ == NameKind.free && sc.kind == .function && sc.names.lookup n == some .cell) = true
      · rw [if_pos hc] at h'
        simp only [List.lookup_cons, hx] at h'
        exact ih h'
      · rw [if_neg hc] at h'
        simp only [List.lookup_cons, hx] at h'
        exact ih h'
structure BlkOk (N : List Str) (sc scope : Scope) (own : List (Str × Nat)) : Prop where
  kind : scope.kind = .function
  uniq : ∀ y ∈ scope.names, scope.names.lookup y.1 = some y.2
  ix : ∀ p ∈ own, N[p.2]? = some p.1
  free : ∀ y ∈ scope.names, y.2 = .free → sc.names.lookup y.1 = some .cell ∨ sc.names.lookup y.1 = some .free
  own : ∀ y ∈ scope.names, y.2 = .local ∨ y.2 = .cell → y.1 ∈ own.map (·.1) ∨ y.1 ∉ N
noncomputable def wipe (σ : St) : List Nat → St
  | [] => σ
  | v :: vs => (wipe σ vs).set v none
theorem wipe_length (σ : St) : ∀ vs : List Nat, (wipe σ vs).length = σ.length
  | [] => rfl
  | v :: vs => by unfold wipe; rw [List.length_set, wipe_length σ vs]
theorem wipe_some {σ : St} {i : Nat} {x : V} : ∀ {vs : List Nat}, (wipe σ vs)[i]? = some (some x) → σ[i]? = some (some x) ∧ i ∉ vs
  | [], h => ⟨h, by simp⟩
  | v :: vs, h => by
    unfold wipe at h
    by_cases hi : v = i
    · subst hi
      by_cases hv : v < (wipe σ vs).length
      · rw [List.getElem?_set_self hv] at h; cases h
      · rw [List.getElem?_eq_none (by simpa using hv)] at h; cases h
    · rw [List.getElem?_set_ne hi] at h
      obtain ⟨h1, h2⟩ := wipe_some h
      exact ⟨h1, by simp only [List.mem_cons, not_or]; exact ⟨fun e => hi e.symm, h2⟩⟩
noncomputable abbrev Cx.blk (X : Cx) (s : Shared) (H : Hp) (scope : Scope) (cenv : Env) (fp : List Addr) : Cx := { X with s_0 := s, H_0 := H, env := cenv, outer := X.stack, ex := fp, fn := fun x => scope.names.lookup x == some .cell, pn := [], xe := fun _ _ => False }
section
variable {X : Cx} {pins : List (Addr × Obj)} {σ : St} {H : Hp} {s : Shared}
theorem block_start {scope : Scope} {own : List (Str × Nat)} {fp : List Addr} (I : Inv X pins σ H s) (ok : BlkOk X.N X.env.scope scope own) (hN : X.N.Nodup) (hfp : ∀ b ∈ fp, FpOk X pins H b ∧ b < s.heap.objs.size) :
    Inv (X.blk s H scope (compEnvC scope (cellsFrom (s.heap.objs.size + 1) scope.names (cloFrom X.env.cells scope.names [])) s.heap.objs.size X.env) fp) [] (wipe σ (own.map (·.2))) H { s with heap := pushCells (s.heap.push { cls := .type "dict", data := .dict #[] }) scope.names } := by
  have hfree : ∀ y ∈ scope.names, y.2 = .free → ∃ c, X.env.cells.lookup y.1 = some c := fun y hy e => by
    rcases ok.free y hy e with k | k
    · exact I.ok.has _ (.inl k)
    · exact I.ok.has _ (.inr k)
  generalize hcenv : compEnvC scope (cellsFrom (s.heap.objs.size + 1) scope.names (cloFrom X.env.cells scope.names [])) s.heap.objs.size X.env = cenv
  have kp : ∀ b o, s.heap.get? b = some o → (pushCells (s.heap.push { cls := .type "dict", data := .dict #[] }) scope.names).get? b = some o := fun b o e => pushCells_keeps _ _ _ _ (Heap.get?_push_of_some _ e)
  have hL : cenv.locals = s.heap.objs.size := by rw [← hcenv]; rfl
  have hcl : cenv.cells = cellsFrom (s.heap.objs.size + 1) scope.names (cloFrom X.env.cells scope.names []) := by rw [← hcenv]; rfl
  have hsc : cenv.scope = relS scope X.env.scope := by rw [← hcenv]; rfl
  rw [← Heap.size_push s.heap { cls := .type "dict", data := .dict #[] }] at hcl
  have cm : ∀ {y c}, (y, c) ∈ cloFrom X.env.cells scope.names [] → X.env.cells.lookup y = some c ∧ c < s.heap.objs.size := fun {y c} hm => by
    rcases cloFrom_mem hm with hm | ⟨h1, rfl⟩
    · cases hm
    · obtain ⟨c, hc⟩ := hfree _ h1 rfl
      rw [hc]
      obtain ⟨w, z⟩ := I.cell _ _ hc
      exact ⟨rfl, z.lt⟩
  have mem : ∀ {y c}, cenv.cells.lookup y = some c → (X.env.cells.lookup y = some c ∧ c < s.heap.objs.size) ∨ (s.heap.objs.size + 1 ≤ c ∧ CellAt (pushCells (s.heap.push { cls := .type "dict", data := .dict #[] }) scope.names) c none) := fun {y c} e => by
    rw [hcl] at e
    rcases cells_mem (PySem.mem_of_lookup e) with hm | ⟨_, h2, h3⟩
    · exact .inl (cm hm)
    · rw [Heap.size_push] at h2; exact .inr ⟨h2, h3⟩
  have look : ∀ {y}, scope.names.lookup y = some .free → ∃ c, cenv.cells.lookup y = some c ∧ X.env.cells.lookup y = some c := fun {y} hl => by
    have hy : (y, NameKind.free) ∈ scope.names := PySem.mem_of_lookup hl
    obtain ⟨c', e'⟩ := mem_lookup (cells_acc (names := scope.names) (n := (s.heap.push { cls := .type "dict", data := .dict #[] }).objs.size) (cloFrom_has (cells := X.env.cells) (acc := []) hy))
    rw [← hcl] at e'
    refine ⟨c', e', ?_⟩
    rw [hcl] at e'
    rcases cells_mem (PySem.mem_of_lookup e') with hm | ⟨h1, _, _⟩
    · exact (cm hm).1
    · have := ok.uniq _ h1
      rw [hl] at this; cases this
  have okB : (X.blk s H scope cenv fp).Ok := by
    refine ⟨I.ok.mod, by show cenv.scope.kind = _; rw [hsc]; exact ok.kind, by show cenv.globals = _; rw [← hcenv]; exact I.ok.glob, by show cenv.builtins = _; rw [← hcenv]; exact I.ok.blt, by show s.heap.objs.size ≤ cenv.locals; rw [hL]; exact Nat.le_refl _,
      fun y z c e1 e2 => ?_, fun y hy => ?_, fun y c z e => ?_, I.ok.hd, I.ok.frames, .inl rfl, fun b hb => ⟨?_, fun y c e z => ?_⟩, I.bs, Nat.le_trans I.ok.bsz I.sz, fun b o e hb => ?_, fun b hb z => ?_, I.stack, I.stkFree⟩
    · have e1 : cenv.cells.lookup y = some c := e1
      have e2 : cenv.cells.lookup z = some c := e2
      rw [hcl] at e1 e2
      refine cells_inj (fun p hp => ?_) (fun y z c a b => I.ok.inj y z c (cm a).1 (cm b).1) (PySem.mem_of_lookup e1) (PySem.mem_of_lookup e2)
      rw [Heap.size_push]
      exact Nat.lt_succ_of_lt (cm (y := p.1) (c := p.2) hp).2
    · show ∃ c, cenv.cells.lookup y = some c
      have key : ∀ k, cenv.kindOf y = some k → (k = .cell ∨ k = .free) → ∃ c, cenv.cells.lookup y = some c := fun k hk hk' => by
        unfold Env.kindOf at hk
        rw [hsc] at hk
        obtain ⟨k', e, r⟩ := lookup_relS hk
        have : k' = .cell ∨ k' = .free := by
          rcases r with rfl | ⟨rfl, _⟩
          · exact hk'
          · exact .inr rfl
        rcases this with rfl | rfl
        · obtain ⟨c, hm⟩ := cells_has (n := (s.heap.push { cls := .type "dict", data := .dict #[] }).objs.size) (acc := cloFrom X.env.cells scope.names []) (PySem.mem_of_lookup e)
          obtain ⟨c', e'⟩ := mem_lookup hm
          exact ⟨c', by rw [hcl]; exact e'⟩
        · obtain ⟨c, h1, _⟩ := look e
          exact ⟨c, h1⟩
      rcases hy with hy | hy
      · exact key _ hy (.inl rfl)
      · exact key _ hy (.inr rfl)
    · have z : (scope.names.lookup y == some NameKind.cell) = true := z
      have z : scope.names.lookup y = some .cell := by simpa using z
      have e : cenv.cells.lookup y = some c := e
      rw [hcl] at e
      rcases cells_mem (PySem.mem_of_lookup e) with hm | ⟨_, h2, _⟩
      · rcases cloFrom_mem hm with hm | ⟨h1, _⟩
        · cases hm
        · have q := ok.uniq _ h1
          rw [z] at q; cases q
      · rw [Heap.size_push] at h2
        exact Nat.le_of_succ_le h2
    · show b ≠ cenv.locals
      rw [hL]; exact Nat.ne_of_lt (hfp b hb).2
    · have e : cenv.cells.lookup y = some c := e
      rcases mem e with ⟨h1, _⟩ | ⟨h1, _⟩
      · exact (hfp b hb).1.2.2.2.2.1 y c h1 z
      · have h2 : s.heap.objs.size + 1 ≤ b := by rw [← z]; exact h1
        exact absurd (Nat.lt_of_lt_of_le (hfp b hb).2 (Nat.le_of_succ_le h2)) (Nat.lt_irrefl _)
    · rcases (hfp b hb).1.2.2.2.1 with z | z
      · exact I.ok.noex b o e z
      · exact absurd (Nat.lt_of_lt_of_le (Heap.lt_size e) (Nat.le_trans I.ok.bsz z)) (Nat.lt_irrefl _)
    · rcases List.mem_cons.mp (I.stkSub b z) with z | z
      · exact (hfp b hb).1.2.1 z
      · exact (hfp b hb).1.2.2.1 z
  refine ⟨okB, rfl, I.bare, Un.kept kp, ⟨fun _ => none, ?_, fun i y av e1 e2 e3 => ?_⟩, fun y c e => ?_, ?_, fun y c e => ?_, fun p hp => ?_, I.hok.kept kp, by rw [wipe_length]; exact I.len⟩
  · show Heap.Ns _ cenv.locals _
    rw [hL]
    exact Heap.Ns.keeps (Heap.Ns.new ..) fun b o e => pushCells_keeps _ _ _ _ e
  · obtain ⟨e2, hne⟩ := wipe_some e2
    have hfr : scope.names.lookup y = some .free ∧ (cenv.kindOf y = some .cell ∨ cenv.kindOf y = some .free) := by
      have key : ∀ k, cenv.scope.names.lookup y = some k → k = .local ∨ k = .cell ∨ k = .free → scope.names.lookup y = some .free ∧ (cenv.kindOf y = some .cell ∨ cenv.kindOf y = some .free) := fun k hk hk' => by
        have hk0 := hk
        rw [hsc] at hk
        obtain ⟨k', e, r⟩ := lookup_relS hk
        have no : ¬ (k' = .local ∨ k' = .cell) := fun hh => by
          rcases ok.own _ (PySem.mem_of_lookup e) hh with e' | e'
          · obtain ⟨p, hp, hpy⟩ := List.mem_map.mp e'
            have e3 := ok.ix p hp
            have : p.1 = y := hpy
            rw [this] at e3
            exact hne (List.mem_map.mpr ⟨p, hp, nodup_ix hN e3 e1⟩)
          · exact e' (List.mem_of_getElem? e1)
        rcases r with rfl | ⟨rfl, rfl⟩
        · rcases hk' with rfl | rfl | rfl
          · exact absurd (.inl rfl) no
          · exact absurd (.inr rfl) no
          · exact ⟨e, .inr hk0⟩
        · exact ⟨e, .inl hk0⟩
      have e3 : Vis cenv.scope y := e3
      rcases e3 with e3 | e3 | e3
      · exact key _ e3 (.inl rfl)
      · exact key _ e3 (.inr (.inl rfl))
      · exact key _ e3 (.inr (.inr rfl))
    obtain ⟨m, hn, hl⟩ := I.loc
    have hvis : Vis X.env.scope y := (ok.free _ (PySem.mem_of_lookup hfr.1) rfl).elim (fun k => .inr (.inl k)) (fun k => .inr (.inr k))
    obtain ⟨w, r, q⟩ := hl i y av e1 e2 hvis
    refine ⟨w, r, .inr ⟨hfr.2, ?_⟩⟩
    obtain ⟨c, h1, h2⟩ := look hfr.1
    rcases q with ⟨k, _⟩ | ⟨_, c', e', z⟩
    · have k : X.env.scope.names.lookup y = some .local := k
      rcases ok.free _ (PySem.mem_of_lookup hfr.1) rfl with k' | k' <;> rw [show X.env.scope.names.lookup y = _ from k'] at k <;> cases k
    · rw [h2] at e'; cases e'
      exact ⟨c, h1, z.keeps kp⟩
  · have e : cenv.cells.lookup y = some c := e
    rcases mem e with ⟨h1, _⟩ | ⟨_, z⟩
    · obtain ⟨w, z⟩ := I.cell y c h1
      exact ⟨w, z.keeps kp⟩
    · exact ⟨_, z⟩
  · show H cenv.locals = none
    rw [hL]; exact I.hok.fresh (Nat.le_refl _)
  · have e : cenv.cells.lookup y = some c := e
    rcases mem e with ⟨h1, _⟩ | ⟨h1, _⟩
    · exact I.freeC y c h1
    · exact I.hok.fresh (Nat.le_of_succ_le h1)
  · exact absurd (show p ∈ ([] : List (Addr × Obj)) ++ [] from hp) (by simp)
theorem app_ok {E : Value → Shared → Prop} {D : Addr} {xs : List V} {y : V} {v : Value} {Q : Value → Shared → Prop} (I : Inv X pins σ H s) (hD : H D = some (.lst xs)) (hz : xs.length < sizeLine) (r : RelV y v)
    (h : ∀ s', Inv X pins σ (upd H D (.lst (xs ++ [y]))) s' → Q .none s') : wpAny (model X.prog X.w) X.A (call (.builtin "list.append") [.ref D, v]) Q E s := by
  obtain ⟨hz', its, n, ri, e⟩ := I.hok D _ hD
  have hl := ri.length
  refine append_at (hsz := by rw [List.size_toArray]; lia) e fun h' sb ho' => ?_
  refine h { s with heap := h' } (I.write (t' := s.toks) (by rw [hD]; trivial) (.inl rfl) (fun b u hb q => (sb.2 b hb).trans q) ⟨_, ho'⟩ ⟨by rw [List.length_append]; exact hz, its ++ [v], n + 1, ri.append (.cons r .nil), ?_⟩)
  rw [ho']
  simp
noncomputable def PTs (X : Cx) (ifs : List Expr) (t : TT) : Prop :=
  ∀ (pins : List (Addr × Obj)) (s : Shared) (σ : St) (H : Hp) (Q : Bool → Hp → Prop), Inv X pins σ H s → t σ H Q →
    wpAny (model X.prog X.w) X.A (forIn ifs true fun c r => if r = true then do let ok ← isTrue c X.env (eval c X.env); pure (ForInStep.yield ok) else pure (ForInStep.yield r)) (TP X pins σ Q) X.xe s
noncomputable def tYes : TT := fun _ H Q => Q true H
theorem pts_nil : PTs X [] tYes := fun _ _ _ H _ I h => wpAny_tests_nil ⟨H, I, h⟩
end
theorem thnF {α : Type} {t : Sem α} {Q Q' : α → Shared → Prop} {M : Model} {A : Around} {E : Value → Shared → Prop} {s : Shared} (h : wpAny M A t Q (fun _ _ => False) s) (hQ : ∀ a s, Q a s → Q' a s) : wpAny M A t Q' E s := wpAny_mono h hQ fun _ _ z => False.elim z
theorem compLoop_any {prog : Program} {w : World} {A : Around} {R : Result → Shared → Prop} {s : Shared} {elt target iter : Expr} {ifs : List Expr} {scope : Scope} {pos : Pos} {it acc : Value} {env : Env} (I : Nat → Shared → Prop)
    (turn : ∀ n s, I n s → wpAny (model prog w) A (pyNext it) (fun r s₁ => match r with
      | none => R (.ok .next) s₁
      | some v => wpAny (model prog w) A (letOwnedTupleGo target it v) (fun _ s₁' => wpAny (model prog w) A (assign target env v) (fun _ s₂ =>
          wpAny (model prog w) A (forIn ifs true fun c r => if r = true then do let ok ← isTrue c env (eval c env); pure (ForInStep.yield ok) else pure (ForInStep.yield r)) (fun ok s₃ =>
            if ok = true then wpAny (model prog w) A (eval elt env) (fun x s₄ =>
              wpAny (model prog w) A (call (.builtin "list.append") [acc, x]) (fun _ s₅ => ∃ m, m < n ∧ I m s₅) (notedBy (model prog w) A env fun e s' => R (.error e) s') s₄) (notedBy (model prog w) A env fun e s' => R (.error e) s') s₃
            else ∃ m, m < n ∧ I m s₃) (notedBy (model prog w) A env fun e s' => R (.error e) s') s₂) (notedBy (model prog w) A env fun e s' => R (.error e) s') s₁') (notedBy (model prog w) A env fun e s' => R (.error e) s') s₁) (notedBy (model prog w) A env fun e s' => R (.error e) s') s)
    (n : Nat) (h : I n s) :
    codeAny (model prog w) A (.compLoop (.ListComp elt [⟨target, iter, ifs, 0⟩] scope pos) 0 it acc env) R s := by
  refine codeAny_loop rfl I (fun n s hI => ?_) n h
  show wpAny _ A ((compTurn (.ListComp elt [⟨target, iter, ifs, 0⟩] scope pos) 0 it acc env).onRaise (fun x => do noteFrame x env; theTreesLotGoes x)) _ _ s
  refine wpAny_noted ?_
  rw [compTurn_list]
  refine wpAny_bind (wpAny_standAt (wpAny_bind (wpAny_mono (turn n s hI) (fun r s₁ h₁ => ?_) fun _ _ h' => h')))
  cases r with
  | none => exact wpAny_pure h₁
  | some v =>
    refine wpAny_bind (wpAny_mono h₁ (fun _ s₁' h₁' => ?_) fun _ _ h' => h')
    refine wpAny_bind (wpAny_mono h₁' (fun _ s₂ h₂ => wpAny_bind (wpAny_mono h₂ (fun ok s₃ h₃ => ?_) fun _ _ h' => h')) fun _ _ h' => h')
    cases ok with
    | false => exact wpAny_pure ⟨rfl, h₃⟩
    | true =>
      exact wpAny_bind (wpAny_bind (wpAny_mono h₃ (fun x s₄ h₄ => wpAny_bind (wpAny_mono h₄ (fun _ s₅ h₅ => wpAny_pure (wpAny_pure ⟨rfl, h₅⟩)) fun _ _ h' => h')) fun _ _ h' => h'))
section
variable {X : Cx}
noncomputable def tLc (wi : TI) (g : TG) (tt : TT) (te : TE) (vs : List Nat) : TE := fun σ H Q => wi σ H fun J H1 => ∀ D, H1 D = none → ∃ W : Nat → Nat → Hp → Prop, (∃ m, W 0 m (upd H1 D (.lst []))) ∧ ∀ i m H, W i m H →
  (J.stop i H ∧ Q (.ref D) H) ∨ (J.go i H ∧ ∃ Nx : Hp → Prop, (∀ H', Nx H' → ∃ m', m' < m ∧ W (i + 1) m' H') ∧ ∀ x H', J.yld i H x H' → g x (wipe σ vs) H' fun σ2 H2 => wipe σ2 vs = wipe σ vs ∧ tt σ2 H2 fun b H3 =>
    if b = true then te σ2 H3 fun y H4 => ∃ acc, H4 D = some (.lst acc) ∧ acc.length < sizeLine ∧ Nx (upd H4 D (.lst (acc ++ [y]))) else Nx H3)
end
theorem lc_range {lo : Int} {n : Nat} {g : TG} {tt : TT} {te : TE} {vs : List Nat} {σ : St} {H1 : Hp} {D : Addr} {Qd : Hp → Prop} (Pv : Nat → Hp → Prop) (h0 : Pv 0 (upd H1 D (.lst [])))
    (hs : ∀ i H, i < n → Pv i H → g (.int (lo + i)) (wipe σ vs) H fun σ2 H2 => wipe σ2 vs = wipe σ vs ∧ tt σ2 H2 fun b H3 =>
      if b = true then te σ2 H3 fun y H4 => ∃ acc, H4 D = some (.lst acc) ∧ acc.length < sizeLine ∧ Pv (i + 1) (upd H4 D (.lst (acc ++ [y]))) else Pv (i + 1) H3) (hd : ∀ H, Pv n H → Qd H) :
    ∃ W : Nat → Nat → Hp → Prop, (∃ m, W 0 m (upd H1 D (.lst []))) ∧ ∀ i m H, W i m H →
      ((Itr lo n).stop i H ∧ Qd H) ∨ ((Itr lo n).go i H ∧ ∃ Nx : Hp → Prop, (∀ H', Nx H' → ∃ m', m' < m ∧ W (i + 1) m' H') ∧ ∀ x H', (Itr lo n).yld i H x H' → g x (wipe σ vs) H' fun σ2 H2 => wipe σ2 vs = wipe σ vs ∧ tt σ2 H2 fun b H3 =>
        if b = true then te σ2 H3 fun y H4 => ∃ acc, H4 D = some (.lst acc) ∧ acc.length < sizeLine ∧ Nx (upd H4 D (.lst (acc ++ [y]))) else Nx H3) := by
  refine ⟨fun i m H => m = n - i ∧ i ≤ n ∧ Pv i H, ⟨n, by simp, Nat.zero_le _, h0⟩, ?_⟩
  rintro i m H ⟨rfl, hi, p⟩
  by_cases hlt : i < n
  · refine .inr ⟨hlt, Pv (i + 1), fun H' p' => ⟨n - (i + 1), by lia, rfl, hlt, p'⟩, fun x H' y => ?_⟩
    obtain ⟨e, y⟩ := y
    subst e y
    exact hs i _ hlt p
  · have e : i = n := by lia
    subst e
    exact .inl ⟨Nat.le_refl _, hd H p⟩
theorem lc_tup {K : PySem.W.Frag} {a : Addr} {xs : List V} {g : TG} {tt : TT} {te : TE} {vs : List Nat} {σ : St} {H1 : Hp} {D : Addr} {Qd : Hp → Prop} (Pv : Nat → Hp → Prop) (h0 : Pv 0 (upd H1 D (.lst []))) (hl : ∀ i H, i ≤ xs.length → Pv i H → SqT K H a xs)
    (hs : ∀ i x H, xs[i]? = some x → Pv i H → g x (wipe σ vs) H fun σ2 H2 => wipe σ2 vs = wipe σ vs ∧ tt σ2 H2 fun b H3 =>
      if b = true then te σ2 H3 fun y H4 => ∃ acc, H4 D = some (.lst acc) ∧ acc.length < sizeLine ∧ Pv (i + 1) (upd H4 D (.lst (acc ++ [y]))) else Pv (i + 1) H3) (hd : ∀ H, Pv xs.length H → Qd H) :
    ∃ W : Nat → Nat → Hp → Prop, (∃ m, W 0 m (upd H1 D (.lst []))) ∧ ∀ i m H, W i m H →
      ((Itt K a).stop i H ∧ Qd H) ∨ ((Itt K a).go i H ∧ ∃ Nx : Hp → Prop, (∀ H', Nx H' → ∃ m', m' < m ∧ W (i + 1) m' H') ∧ ∀ x H', (Itt K a).yld i H x H' → g x (wipe σ vs) H' fun σ2 H2 => wipe σ2 vs = wipe σ vs ∧ tt σ2 H2 fun b H3 =>
        if b = true then te σ2 H3 fun y H4 => ∃ acc, H4 D = some (.lst acc) ∧ acc.length < sizeLine ∧ Nx (upd H4 D (.lst (acc ++ [y]))) else Nx H3) := by
  refine ⟨fun i m H => m = xs.length - i ∧ i ≤ xs.length ∧ Pv i H, ⟨xs.length, by simp, Nat.zero_le _, h0⟩, ?_⟩
  rintro i m H ⟨rfl, hi, p⟩
  have q := hl i H hi p
  by_cases hlt : i < xs.length
  · refine .inr ⟨⟨xs, xs[i], q, by simp [hlt]⟩, Pv (i + 1), fun H' p' => ⟨xs.length - (i + 1), by lia, rfl, hlt, p'⟩, fun x H' y => ?_⟩
    obtain ⟨e, y⟩ := y
    subst e
    exact hs i x _ (y xs q) p
  · have e : i = xs.length := by lia
    subst e
    exact .inl ⟨⟨xs, q, Nat.le_refl _⟩, hd H p⟩
noncomputable def blkC (N : List Str) (sc scope : Scope) (own : List (Str × Nat)) : Bool :=
  (match scope.kind with | .function => true | _ => false) && (scope.names.all fun y => decide (scope.names.lookup y.1 = some y.2)) && (own.all fun p => decide (N[p.2]? = some p.1)) &&
    (scope.names.all fun y => match y.2 with
      | .free => (match sc.names.lookup y.1 with | some .cell => true | some .free => true | _ => false)
      | .local => decide (y.1 ∈ own.map (·.1)) || decide (y.1 ∉ N)
      | .cell => decide (y.1 ∈ own.map (·.1)) || decide (y.1 ∉ N)
      | _ => true)
theorem blkOk_by {N : List Str} {sc scope : Scope} {own : List (Str × Nat)} (h : blkC N sc scope own = true) : BlkOk N sc scope own := by
  unfold blkC at h
  simp only [Bool.and_eq_true, List.all_eq_true, decide_eq_true_eq] at h
  obtain ⟨⟨⟨h1, h2⟩, h3⟩, h4⟩ := h
  refine ⟨?_, h2, h3, fun y hy e => ?_, fun y hy e => ?_⟩
  · split at h1
    · assumption
    · cases h1
  · have q := h4 y hy
    simp only [e] at q
    split at q <;> first | exact .inl (by assumption) | exact .inr (by assumption) | cases q
  · have q := h4 y hy
    rcases e with e | e <;> (simp only [e, Bool.or_eq_true, decide_eq_true_eq] at q; exact q)
end L2
namespace L2
open PySem PySem.Spec PyProof.Rows
section
variable {prog : Program} {w : World} {A : Around} {R : Result → Shared → Prop} {s : Shared} {elt t0 i0 t1 i1 : Expr} {ifs0 ifs1 : List Expr} {scope : Scope} {pos : Pos} {it acc : Value} {env : Env}
end
section
variable {X : Cx}
end
end L2
namespace L2
open PySem PySem.Spec PyProof.Rows
section
variable {κ : Type} [DecidableEq κ]
end
section
variable {P : Program} {w : World} {H : Hp} {h : Heap} {a : Addr}
end
section
variable {X : Cx} {pins : List (Addr × Obj)} {σ : St} {H : Hp} {s : Shared} {a : Addr} {y v : V} {u r : Value} {o : Option V} {A : Around} {E : Value → Shared → Prop}
end
section
variable {X : Cx} {pins : List (Addr × Obj)} {σ : St} {H : Hp} {s : Shared} {a : Addr} {kvs : List (Key × V)} {k : Key} {u : Value} {A : Around} {E : Value → Shared → Prop}
end
section
variable {X : Cx} {o i e value : Expr} {pos pos' tpos : Pos} {td ty tv : TE}
end
section
variable {X : Cx} {pos : Pos}
end
section
variable {X : Cx} {pins : List (Addr × Obj)} {σ : St} {H : Hp} {s : Shared} {a : Addr} {y d : V} {u r : Value} {o : Option V} {A : Around} {E : Value → Shared → Prop}
end
section
variable {X : Cx} {o e f : Expr} {apos cpos : Pos} {td ty tx : TE}
end
section
variable {X : Cx} {pins : List (Addr × Obj)} {σ : St} {H : Hp} {s : Shared} {a : Addr} {kvs : List (Key × V)} {A : Around} {E : Value → Shared → Prop}
end
section
variable {X : Cx} {pins : List (Addr × Obj)} {σ : St} {H : Hp} {s : Shared} {a : Addr} {y : V} {u : Value} {A : Around} {E : Value → Shared → Prop}
end
end L2
namespace L2
open PySem PySem.Spec PyProof.Rows
section
variable {prog : Program} {w : World} {A : Around} {E : Value → Shared → Prop}
end
section
variable {X : Cx}
end
end L2
namespace L2
open PySem PySem.Spec PyProof.Rows
section
variable {X : Cx} {pins : List (Addr × Obj)} {σ : St} {H : Hp} {s : Shared} {h' : Heap}
theorem Inv.turnedNew {t' : Nat} {ch : List Addr} {T : Addr} {ob : HO} (I : Inv X pins σ H s) (k : ∀ b o, b ∉ ch → s.heap.get? b = some o → h'.get? b = some o) (hf : ∀ b ∈ ch, FpOk X pins H b) (hT : s.heap.objs.size ≤ T)
    (new : ObjOk X.prog X.w (upd H T ob) h' T ob) : Inv X pins σ (upd H T ob) { s with heap := h', toks := t' } := by
  have hn : H T = none := I.hok.fresh hT
  have nit : ∀ b u, H b = some u → b ∉ ch := fun b u e z => by
    have q := (hf b z).1
    rw [q] at e; cases e
  refine I.step (g' := s.gens) (d' := s.drawn) (ch := ch) (fun b hb => ⟨(hf b hb).2.2.2.1, (hf b hb).2.1, (hf b hb).2.2.2.2.1, (hf b hb).2.2.2.2.2⟩) (fun b o _ _ hc e _ => k b o hc e) (fun b o _ _ hc e _ => ⟨o.slots, k b o hc e⟩)
    (fun b o _ e n => ?_) (fun b o hc e => ⟨o, k b o hc e⟩) (fun b xs e => ?_) (fun b o u e => ?_) (fun b ps e => ⟨#[], ?_⟩) (fun m hm => ?_) (fun b u e => ?_) I.bare
  · rw [upd_ne (Nat.ne_of_lt (Nat.lt_of_lt_of_le (Heap.lt_size e) hT))]; exact n
  · rw [upd_ne (ne_of_none e hn)]; exact e
  · rw [upd_ne (ne_of_none e hn)]; exact e
  · rw [upd_ne (ne_of_none e hn), e]; simp
  · obtain ⟨o, es, ep, ho, r⟩ := hm
    exact ⟨o, es, ep, k _ o (fun z => (hf _ z).2.1 rfl) ho, r⟩
  · by_cases hb : b = T
    · subst hb
      rw [upd_same] at e
      cases e
      exact new
    · rw [upd_ne hb] at e
      refine (I.hok b u e).stay (fun c v hc q => k c v ?_ q) (fun c q => by rw [upd_ne (ne_of_none q hn)]; exact q) fun c xs q => by rw [upd_ne (ne_of_none q hn)]; exact q
      rcases hc with z | z
      · rw [z]; exact nit b u e
      · exact nit c _ z
end
section
variable {X : Cx}
end
section
variable {X : Cx} {tg : Expr}
end
section
variable {X : Cx} {tg : Expr}
end
section
variable {prog : Program} {w : World} {A : Around} {E : Value → Shared → Prop} {s : Shared}
end
section
variable {X : Cx} {pins : List (Addr × Obj)} {σ : St} {H : Hp} {s : Shared} {d : Addr} {o : Obj}
end
section
variable {P : Program} {w : World} {K : PySem.W.Frag} {tg : Expr} {d : Addr} {o : Obj} {es : Array DictEntry} {ep : Nat}
end
section
variable {X : Cx} {tg e : Expr} {td : TE} {apos cpos : Pos}
end
noncomputable def Ite (K : PySem.W.Frag) (a : Addr) : It :=
  ⟨fun i H => ∃ (xs : List V) (x : V), SqL K H a xs ∧ xs[i]? = some x, fun i H v H' => ∃ T x, v = .ref T ∧ H T = none ∧ H' = upd H T (.tup [.int (i : Nat), x]) ∧ ∀ xs, SqL K H a xs → xs[i]? = some x, fun i H => ∃ xs : List V, SqL K H a xs ∧ xs.length ≤ i⟩
theorem turn_enum {P : Program} {w : World} {K : PySem.W.Frag} {elts : List Expr} {kk : Nat} {tpos : Pos} (a e it : Addr) :
    Turn P w K (.Tuple elts kk tpos) (Ite K a) [e, it] e (fun i h => (∃ old, IsEnum h e it ((i : Nat) : Int) old) ∧ h.IsListIter it a i ∧ e ≠ it) where
  mem := by simp
  obj := fun i h st b hb => by
    obtain ⟨⟨old, he⟩, ⟨o, ho, hc, hd⟩, _⟩ := st
    have e' : b = e ∨ b = it := by simpa using hb
    rcases e' with z | z
    · rw [z]; exact ⟨_, he, fun v q => nomatch q⟩
    · rw [z]; exact ⟨o, ho, fun v q => by rw [hd] at q; cases q⟩
  keep := fun i h h' st k => let ⟨⟨old, he⟩, hi, hne⟩ := st; ⟨⟨old, k e (by simp) _ he⟩, hi.at fun o q => k it (by simp) o q, hne⟩
  item := by
    intro X hP hw hK hc i pins s σ H E I hf st hg
    subst hP hw hK
    obtain ⟨⟨old, he⟩, hit, hne⟩ := st
    obtain ⟨xs, x, hq, hx⟩ := hg
    obtain ⟨its, rv, p, hz⟩ := I.list hq
    obtain ⟨u, hu, ru⟩ := rv.get hx
    have hel : e < s.heap.objs.size := Heap.lt_size he
    have hil : it < s.heap.objs.size := by obtain ⟨_, q, _⟩ := hit; exact Heap.lt_size q
    refine wpAny_pyNext_enum_item he hit p.isList (x := u) (by simpa using hu) hne fun h' ho hit' hT hsz hk => ?_
    refine ⟨_, rfl, wpAny_letOwnedTupleGo_enum (s := { s with heap := h', toks := s.toks + 1 }) ho fun h'' he' sb => ?_⟩
    have hT2 : h''.get? s.heap.objs.size = some { cls := .type "tuple", data := .seq #[.int i s.toks, u] } := (sb.2 _ (Nat.ne_of_gt hel)).trans hT
    have new : ObjOk X.prog X.w (upd H s.heap.objs.size (.tup [.int (i : Nat), x])) h'' s.heap.objs.size (.tup [.int (i : Nat), x]) :=
      ⟨by show 2 ≤ sizeLine; decide, [.int i s.toks, u], .cons ⟨_, rfl⟩ (.cons ru .nil), ⟨_, hT2, rfl, _, rfl⟩⟩
    have I1 : Inv X pins σ (upd H s.heap.objs.size (.tup [.int (i : Nat), x])) { s with heap := h'', toks := s.toks + 1 } :=
      I.turnedNew (ch := [e, it]) (fun b ob hb q => (sb.2 b (fun z => hb (by simp [z]))).trans (hk b ob (fun z => hb (by simp [z])) (fun z => hb (by simp [z])) q)) hf (Nat.le_refl _) new
    refine ⟨.ref s.heap.objs.size, _, I1, rfl, ⟨_, x, rfl, I.hok.fresh (Nat.le_refl _), rfl, fun ys hy => by rw [I.list_inj hy hq]; exact hx⟩, ⟨⟨u, ?_⟩, hit'.at fun o q => (sb.2 it (Ne.symm hne)).trans q, hne⟩, fun b hb => ?_⟩
    · have e1 : ((i + 1 : Nat) : Int) = (i : Int) + 1 := by lia
      rw [e1]; exact he'
    · have hb' : b < s.heap.objs.size := by
        have e' : b = e ∨ b = it := by simpa using hb
        rcases e' with z | z
        · rw [z]; exact hel
        · rw [z]; exact hil
      rw [upd_ne (Nat.ne_of_lt hb')]
      exact (hf b hb).1
  done := by
    intro X hP hw hK hc i pins s σ H E I hf st hg
    subst hP hw hK
    obtain ⟨⟨old, he⟩, hit, hne⟩ := st
    obtain ⟨xs, hq, hx⟩ := hg
    obtain ⟨its, rv, p, hz⟩ := I.list hq
    obtain ⟨f0, f1, f2, f3, f4, f5⟩ := hf it (by simp)
    have hl := rv.length
    exact wpAny_pyNext_enum_end (I.ok.hd hc) he hit p.isList (by simp; lia) fun h' eb => ⟨rfl, I.turned (t' := s.toks) (fun b o hb q => eb b o hb q) f0 f1 f3 f4 f5⟩
  self := fun A i s Q E st h => let ⟨⟨_, he⟩, _⟩ := st; wpAny_pyIter_enum he h
noncomputable def iEnum (K : PySem.W.Frag) (ta : TA) : TI := fun σ H R => ta σ H fun vs H1 => ∃ a xs, vs = [.ref a] ∧ SqL K H1 a xs ∧ R (Ite K a) H1
theorem pi_enum {X : Cx} {e : Expr} {ta : TA} {p pos tpos : Pos} {elts : List Expr} {kk : Nat} (hg : Gl X "enumerate") (hm : X.mg "enumerate" = none) (ha : PA X [e] ta) (hs : starEach [e] X.env = [(false, eval e X.env)] := by rfl) :
    PI X (.Tuple elts kk tpos) (.Call (.Name "enumerate" p) [e] [] pos) (iEnum X.K ta) := by
  intro pins s σ H R I h
  refine Call_ (ld_blt I hg hm boot_enumerate (PyProof.Rows.callWith_type1 (thn (ha pos pins s σ H _ I h) fun us s1 hz32 => ?_) hs rfl))
  obtain ⟨vs, H1, I1, r1, q1⟩ := hz32
  obtain ⟨a, xs, ex, hq, q⟩ := q1
  subst ex
  cases r1 with
  | cons r rr =>
    cases rr
    cases r
    obtain ⟨its, rv, p', hz⟩ := I1.list hq
    refine call_enumerate_list p'.isList fun h' he hit hsz hk => wpAny_pyIter_enum he ?_
    have I2 : Inv X pins σ H1 { s1 with heap := h' } := I1.kept (t' := s1.toks) hk
    refine ⟨s1.heap.objs.size + 1, [s1.heap.objs.size + 1, s1.heap.objs.size], _, _, H1, rfl, I2, turn_enum a (s1.heap.objs.size + 1) s1.heap.objs.size, ⟨⟨.none, he⟩, hit, Nat.succ_ne_self _⟩, fun b hb => ?_, q⟩
    have e' : b = s1.heap.objs.size + 1 ∨ b = s1.heap.objs.size := by simpa using hb
    have hle : s1.heap.objs.size ≤ b := by
      rcases e' with z | z
      · rw [z]; exact Nat.le_add_right _ _
      · rw [z]; exact Nat.le_refl _
    exact I1.fpOk hle (I1.hok.fresh hle)
end L2
section 
namespace Bits
open PySem PyProof.Rows
end Bits
end 
section 
namespace TL
open PySem PySem.Builtin PySem.Builtin.Str PySem.StrLaws
end TL
end 
namespace L2
open PySem PySem.Spec PyProof.Rows
section
variable {X : Cx} {pins : List (Addr × Obj)} {σ : St} {H : Hp} {s : Shared} {Q : VK}
end
section
variable {X : Cx}
end
section
variable {X : Cx} {o e : Expr} {to te : TE}
end
end L2
namespace L2
open PySem PySem.Spec PyProof.Rows
section
variable {X : Cx}
end
end L2
namespace Att
open PySem PySem.W PySem.Calls PyProof.Rows
section
variable {prog : Program} {w : World} {A : Around} {E : Value → Shared → Prop} {s : Shared} {K : Frag}
end
end Att
namespace L2
open PySem PySem.Spec PyProof.Rows
end L2
namespace L2
open PySem PySem.Spec PyProof.Rows
end L2
namespace L2
open PySem PySem.Spec PyProof.Rows
noncomputable def inClass (s : Stmt) (j : Nat) : Stmt := match s with
  | .ClassDef _ _ _ body _ _ _ _ _ _ _ => body.getD j (.Pass ⟨0, 0, 0, 0⟩)
  | _ => .Pass ⟨0, 0, 0, 0⟩
noncomputable def defArgs (s : Stmt) : Arguments := match s with
  | .FunctionDef _ a _ _ _ _ _ _ _ _ => a
  | _ => { posonlyargs := [], args := [], vararg := none, kwonlyargs := [], kw_defaults := [], kwarg := none, defaults := [] }
noncomputable def defBody (s : Stmt) : List Stmt := match s with
  | .FunctionDef _ _ b _ _ _ _ _ _ _ => b
  | _ => []
noncomputable def defScope (s : Stmt) : Scope := match s with
  | .FunctionDef _ _ _ _ _ _ sc _ _ _ => sc
  | _ => { kind := .function, names := [], isGenerator := false, isCoroutine := false }
noncomputable abbrev CX0 : CXT := fun _ _ _ _ _ _ => False
noncomputable abbrev E0 : XK := fun _ _ _ => False
theorem pass0 {X : Cx} : Passes CX0 X E0 := fun _ _ _ _ _ _ _ h => h.elim
structure Fun (K : PySem.W.Frag) (x qual : Str) (st : Stmt) (f : Addr) (fd : FuncData) : Prop where
  ex : ∃ (oc : Value) (od : Option Addr) (kV doc pm : Value) (an : Option Addr) (cdv ct : Value) (osl : Array (Option Value)),
    fd = PySem.W.fnOf x qual (defArgs st) (defBody st) (defScope st) .none kV doc pm an cdv ct ∧ K.lookup f = some ⟨oc, od, .func fd, osl⟩ ∧ PySem.W.codeIn K cdv qual = true
  kp : PySem.W.keepIn K (.ref f) = true
section
variable {P : Program} {w : World} {K : PySem.W.Frag} {mg : Str → Option Value} {base : Heap}
theorem Fun.binds {x qual : Str} {st : Stmt} {f : Addr} {fd : FuncData} {ps : List Str} (F : Fun K x qual st f fd)
    (h : ∀ (kV doc pm : Value) (an : Option Addr) (cdv ct : Value) (us : List Value), us.length = ps.length → bindArgs (PySem.W.fnOf x qual (defArgs st) (defBody st) (defScope st) .none kV doc pm an cdv ct) ⟨us, []⟩ = pure (ps.zip us)) : Binds K fd ps [] := by
  obtain ⟨oc, od, kV, doc, pm, an, cdv, ct, osl, rfl, lk, hcd⟩ := F.ex
  exact .all (h kV doc pm an cdv ct)
theorem fun_mk {x qual : Str} {st : Stmt} {f : Addr} {oc : Value} {od an : Option Addr} {osl : Array (Option Value)} {kV doc pm cdv ct : Value} (l : K.lookup f = some ⟨oc, od, .func (PySem.W.fnOf x qual (defArgs st) (defBody st) (defScope st) .none kV doc pm an cdv ct), osl⟩)
    (c : PySem.W.codeIn K cdv qual = true) (k : PySem.W.keepIn K (.ref f) = true) : Fun K x qual st f (PySem.W.fnOf x qual (defArgs st) (defBody st) (defScope st) .none kV doc pm an cdv ct) := ⟨⟨oc, od, kV, doc, pm, an, cdv, ct, osl, rfl, l, c⟩, k⟩
end
section
variable {X : Cx}
theorem pv (i : Nat) {x : Str} {pos : Pos} (hN : X.N[i]? = some x := by rfl) (hv : Vis X.env.scope x := by first | exact Or.inl rfl | exact Or.inr (Or.inl rfl) | exact Or.inr (Or.inr rfl)) (hd : (x == ("__debug__" : Str)) = false := by decide)
    (hcd : (x == ("__classdict__" : Str)) = false := by decide) : PE X (.Name x pos) (tVar i) := pe_var hN hv hd hcd
end
theorem iteF {A B : Prop} (h : B) : if false = true then A else B := by
  rw [if_neg Bool.false_ne_true]
  exact h
theorem iteT {A B : Prop} (h : A) : if true = true then A else B := by
  rw [if_pos rfl]
  exact h
theorem iteNS {c A B : Prop} [Decidable c] (hc : c) (h : B) : if (!decide c) = true then A else B := by
  rw [decide_eq_true hc]
  exact iteF h
noncomputable def Same (H H' : Hp) : Prop := ∀ b o, H b = some o → H' b = some o
theorem Same.refl (H : Hp) : Same H H := fun _ _ h => h
theorem Same.trans {H H1 H2 : Hp} (a : Same H H1) (b : Same H1 H2) : Same H H2 := fun c o h => b c o (a c o h)
theorem Same.free {H H' : Hp} (e : Same H H') {l : Addr} (h : H' l = Option.none) : H l = Option.none := by
  cases q : H l with
  | none => rfl
  | some o =>
    rw [e l o q] at h
    cases h
section
variable {κ : Type} [DecidableEq κ]
end
theorem at_of {xs : List V} {z : Int} {j : Nat} {v : V} (e : z = (j : Int)) (h : xs[j]? = some v) : atI xs z = some v := by
  rw [e]
  exact atI_nat h
theorem Same.made {H H1 : Hp} {x dx C : Addr} (nx : H x = Option.none) (nd : H dx = Option.none) (k : ∀ b o, (upd (upd H dx (.own x)) x (.ins C dx [])) b = some o → b ≠ x → H1 b = some o) : Same H H1 := fun b o e =>
  k b o (by rw [upd_ne (ne_of_none e nx), upd_ne (ne_of_none e nd)]; exact e) (ne_of_none e nx)
end L2
section
set_option Elab.async false
set_option genSizeOf false
set_option linter.all false
set_option maxRecDepth 100000
set_option maxHeartbeats 2000000
namespace L2
open PySem PySem.Spec PyProof.Rows
open PySem.W (WData Codec OpenSpec Well WellAll ReadsW ReadsAllW)
mutual
inductive Dw (K : PySem.W.Frag) (H : Hp) : V → WData → Prop
  | non : Dw K H .non .none
  | bl (b : Bool) : Dw K H (.bl b) (.bool b)
  | int (i : Int) : Dw K H (.int i) (.int i)
  | str (x : Str) : Dw K H (.str x) (.str x)
  | byt (b : Array UInt8) : Dw K H (.byt b) (.bytes b.toList)
  | lst {a : Addr} {xs : List V} {ds : List WData} : SqL K H a xs → DwAll K H xs ds → Dw K H (.ref a) (.list ds)
  | tup {a : Addr} {xs : List V} {ds : List WData} : SqT K H a xs → DwAll K H xs ds → Dw K H (.ref a) (.tuple ds)
inductive DwAll (K : PySem.W.Frag) (H : Hp) : List V → List WData → Prop
  | nil : DwAll K H [] []
  | cons {v : V} {vs : List V} {d : WData} {ds : List WData} : Dw K H v d → DwAll K H vs ds → DwAll K H (v :: vs) (d :: ds)
end
theorem dw_ints {K : PySem.W.Frag} {H : Hp} : ∀ ns : List Int, DwAll K H (ns.map V.int) (ns.map WData.int)
  | [] => .nil
  | n :: r => .cons (.int n) (dw_ints r)
theorem ints_dw {K : PySem.W.Frag} {H : Hp} : ∀ (ns : List Int) (xs : List V), DwAll K H xs (ns.map WData.int) → xs = ns.map V.int
  | [], xs, h => by
    cases h
    rfl
  | n :: r, xs, h => by
    cases h with
    | cons h1 h2 =>
      cases h1
      rw [ints_dw r _ h2] <;> rfl
section
variable {P : Program} {w : World} {K : PySem.W.Frag} {H : Hp} {h : Heap} {R : PySem.W.WRecords} {cl : Str → Option Addr}
theorem sqL_at {a : Addr} {xs : List V} (hok : HOk P w H h) (KX : K.In h) (q : SqL K H a xs) : ∃ (its : List Value) (o : Obj) (n : Nat), Vals xs its ∧ h.get? a = some o ∧ o.cls = .type "list" ∧ o.data = .seq its.toArray n := by
  rcases q with q | ⟨o, its, n, e, hc, _, hd, _, hv⟩
  · obtain ⟨_, its, n, hv, e⟩ := (show ObjOk P w H h a (.lst xs) from q.ok hok)
    exact ⟨its, _, n, hv, e, rfl, rfl⟩
  · exact ⟨its.toList, o, n, hv, KX _ _ e, hc, by simp [hd]⟩
theorem sqT_at {a : Addr} {xs : List V} (hok : HOk P w H h) (KX : K.In h) (q : SqT K H a xs) : ∃ (its : List Value) (o : Obj) (n : Nat), Vals xs its ∧ h.get? a = some o ∧ o.cls = .type "tuple" ∧ o.data = .seq its.toArray n := by
  rcases q with q | ⟨o, its, n, e, hc, hd, _, hv⟩
  · obtain ⟨_, its, hv, o, e, hc, n, hd⟩ := (show ObjOk P w H h a (.tup xs) from q.ok hok)
    exact ⟨its, o, n, hv, e, hc, hd⟩
  · exact ⟨its.toList, o, n, hv, KX _ _ e, hc, by simp [hd]⟩
mutual
theorem Dw.reads (hok : HOk P w H h) (KX : K.In h) : ∀ (d : WData) (v : V) (u : Value), Dw K H v d → RelV v u → ∃ as, ReadsW R cl h u d as
  | .none, _, _, x, r => by
    cases x
    cases r
    exact ⟨_, ReadsW.none⟩
  | .bool b, _, _, x, r => by
    cases x
    cases r
    exact ⟨_, ReadsW.bool b⟩
  | .int i, _, _, x, r => by
    cases x
    obtain ⟨t, rfl⟩ := r
    exact ⟨_, ReadsW.int i t⟩
  | .str s, _, _, x, r => by
    cases x
    obtain ⟨t, rfl⟩ := r
    exact ⟨_, ReadsW.str s t⟩
  | .bytes b, _, _, x, r => by
    cases x
    obtain ⟨t, rfl⟩ := r
    exact ⟨_, ReadsW.bytes _ t⟩
  | .list ds, _, _, x, r => by
    cases x with
    | lst hs ha =>
      cases r
      obtain ⟨its, o, n, rv, ho, hc, hd⟩ := sqL_at hok KX hs
      obtain ⟨as, hr⟩ := Dw.readsAll hok KX ds _ its ha rv
      exact ⟨_, ReadsW.list ho hc hd hr⟩
  | .tuple ds, _, _, x, r => by
    cases x with
    | tup hs ha =>
      cases r
      obtain ⟨its, o, n, rv, ho, hc, hd⟩ := sqT_at hok KX hs
      obtain ⟨as, hr⟩ := Dw.readsAll hok KX ds _ its ha rv
      exact ⟨_, ReadsW.tuple ho hc hd hr⟩
  | .float _, _, _, x, _ => by cases x
  | .dict _, _, _, x, _ => by cases x
  | .bytearray _, _, _, x, _ => by cases x
  | .set _, _, _, x, _ => by cases x
  | .frozenset _, _, _, x, _ => by cases x
  | .obj _ _, _, _, x, _ => by cases x
theorem Dw.readsAll (hok : HOk P w H h) (KX : K.In h) : ∀ (ds : List WData) (vs : List V) (us : List Value), DwAll K H vs ds → Vals vs us → ∃ as, ReadsAllW R cl h us ds as
  | [], _, _, x, r => by
    cases x
    cases r
    exact ⟨_, ReadsAllW.nil⟩
  | d :: ds, _, _, x, r => by
    cases x with
    | cons h1 h2 =>
      cases r with
      | cons r1 r2 =>
        obtain ⟨as, q1⟩ := Dw.reads hok KX d _ _ h1 r1
        obtain ⟨bs, q2⟩ := Dw.readsAll hok KX ds _ _ h2 r2
        exact ⟨_, ReadsAllW.cons q1 q2⟩
end
end
mutual
noncomputable def plW : WData → Bool
  | .none => true
  | .bool _ => true
  | .int _ => true
  | .str _ => true
  | .bytes _ => true
  | .list xs => plWs xs
  | .tuple xs => plWs xs
  | _ => false
noncomputable def plWs : List WData → Bool
  | [] => true
  | x :: r => plW x && plWs r
end
theorem plWs_map {α : Type} {f : α → WData} (h : ∀ a, plW (f a) = true) : ∀ l : List α, plWs (l.map f) = true
  | [] => rfl
  | x :: r => by
    show (plW (f x) && plWs (r.map f)) = true
    rw [h x, plWs_map h r] <;> rfl
theorem pl_enc : ∀ (c : Codec) (a : c.denote), plW (c.enc a) = true
  | .unit, _ => rfl
  | .bool, _ => rfl
  | .int _ _, _ => rfl
  | .nat _ _, _ => rfl
  | .u8, _ => rfl
  | .bytes _ _, _ => rfl
  | .text _ _ _ _, _ => rfl
  | .list _ _ c, a => plWs_map (fun x => pl_enc c x) a
  | .pair c d, a => by
    show (plW (c.enc a.1) && (plW (d.enc a.2) && true)) = true
    rw [pl_enc c a.1, pl_enc d a.2] <;> rfl
  | .triple c d e, a => by
    show (plW (c.enc a.1) && (plW (d.enc a.2.1) && (plW (e.enc a.2.2) && true))) = true
    rw [pl_enc c a.1, pl_enc d a.2.1, pl_enc e a.2.2] <;> rfl
  | .option c, none => rfl
  | .option c, some x => pl_enc c x
theorem pl_encAll : ∀ (cs : List Codec) (a : Codec.denoteAll cs), plWs (Codec.encAll cs a) = true
  | [], _ => rfl
  | c :: cs, a => by
    show (plW (c.enc a.1) && plWs (Codec.encAll cs a.2)) = true
    rw [pl_enc c a.1, pl_encAll cs a.2] <;> rfl
theorem weight_mem : ∀ {xs : List WData} {d : WData}, d ∈ xs → d.weight ≤ WData.weightAll xs
  | [], d, h => absurd h (by simp)
  | x :: r, d, h => by
    show d.weight ≤ x.weight + 1 + WData.weightAll r
    rcases List.mem_cons.mp h with e | m
    · rw [e]
      lia
    · have z := weight_mem m
      lia
noncomputable def toV : Value → V
  | .none => .non
  | .bool b => .bl b
  | .int i _ => .int i
  | .str x _ => .str x
  | .bytes b _ => .byt b
  | .ref a => .ref a
  | _ => .non
noncomputable def OkU (A : List Addr) : Value → Prop
  | .none => True
  | .bool _ => True
  | .int _ _ => True
  | .str _ _ => True
  | .bytes _ _ => True
  | .ref a => a ∈ A
  | _ => False
theorem OkU.mono {A B : List Addr} (h : ∀ a ∈ A, a ∈ B) : ∀ {u : Value}, OkU A u → OkU B u := fun {u} x => by
  cases u with
  | ref a => exact h a x
  | none => trivial
  | bool b => trivial
  | int i t => trivial
  | str s t => trivial
  | bytes b t => trivial
  | _ => exact False.elim x
theorem relV_toV {A : List Addr} {u : Value} (x : OkU A u) : RelV (toV u) u := by
  cases u with
  | ref a => rfl
  | none => rfl
  | bool b => rfl
  | int i t => exact ⟨t, rfl⟩
  | str s t => exact ⟨t, rfl⟩
  | bytes b t => exact ⟨t, rfl⟩
  | _ => exact False.elim x
theorem vals_toV {A : List Addr} : ∀ {vs : List Value}, (∀ u ∈ vs, OkU A u) → Vals (vs.map toV) vs
  | [], _ => .nil
  | u :: r, h => .cons (relV_toV (h u (List.mem_cons_self ..))) (vals_toV fun x hx => h x (List.mem_cons_of_mem _ hx))
noncomputable def ArgOb (h : Heap) (A : List Addr) (a : Addr) : Prop := ∃ vs : List Value, vs.length ≤ sizeLine ∧ (∀ u ∈ vs, OkU A u) ∧
  (h.get? a = some { cls := .type "list", data := .seq vs.toArray } ∨ h.get? a = some { cls := .type "tuple", data := .seq vs.toArray })
theorem ArgOb.mono {h : Heap} {A B : List Addr} {a : Addr} (k : ∀ a ∈ A, a ∈ B) (x : ArgOb h A a) : ArgOb h B a := by
  obtain ⟨vs, h1, h2, h3⟩ := x
  exact ⟨vs, h1, fun u hu => (h2 u hu).mono k, h3⟩
theorem wellAll_len {P : Params} {h : Heap} : ∀ {vs : List Value} {ds : List WData}, WellAll P h vs ds → vs.length = ds.length
  | _, _, .nil => rfl
  | _, _, .cons _ b => by
    show _ + 1 = _ + 1
    rw [wellAll_len b]
theorem well_list {P : Params} {h : Heap} {v : Value} {ds : List WData} (x : Well P h v (.list ds)) : ∃ (a : Addr) (vs : List Value), v = .ref a ∧ h.get? a = some { cls := .type "list", data := .seq vs.toArray } ∧ WellAll P h vs ds := by
  cases x with
  | list ho hall => exact ⟨_, _, rfl, ho, hall⟩
theorem well_tuple {P : Params} {h : Heap} {v : Value} {ds : List WData} (x : Well P h v (.tuple ds)) : ∃ (a : Addr) (vs : List Value), v = .ref a ∧ h.get? a = some { cls := .type "tuple", data := .seq vs.toArray } ∧ WellAll P h vs ds := by
  cases x with
  | tuple ho hall => exact ⟨_, _, rfl, ho, hall⟩
theorem well_cons {P : Params} {h : Heap} {us : List Value} {d : WData} {ds : List WData} (x : WellAll P h us (d :: ds)) : ∃ (v : Value) (vs : List Value), us = v :: vs ∧ Well P h v d ∧ WellAll P h vs ds := by
  cases x with
  | cons a b => exact ⟨_, _, rfl, a, b⟩
theorem line_of {n : Nat} (h : n ≤ 1048576) : n ≤ sizeLine := Nat.le_trans h (by decide)
section
variable {P : Params} {h : Heap}
mutual
theorem area_one : ∀ (d : WData) (v : Value), Well P h v d → plW d = true → d.weight ≤ 1048576 → ∃ A : List Addr, OkU A v ∧ ∀ a ∈ A, ArgOb h A a
  | .none, _, x, _, _ => by
    cases x
    exact ⟨[], trivial, fun a m => absurd m (by simp)⟩
  | .bool b, _, x, _, _ => by
    cases x
    exact ⟨[], trivial, fun a m => absurd m (by simp)⟩
  | .int i, _, x, _, _ => by
    cases x
    exact ⟨[], trivial, fun a m => absurd m (by simp)⟩
  | .str s, _, x, _, _ => by
    cases x
    exact ⟨[], trivial, fun a m => absurd m (by simp)⟩
  | .bytes b, _, x, _, _ => by
    cases x
    exact ⟨[], trivial, fun a m => absurd m (by simp)⟩
  | .list ds, _, x, p, z => by
    obtain ⟨a, vs, rfl, ho, hall⟩ := well_list x
    have z2 : WData.weightAll ds ≤ 1048576 := z
    obtain ⟨A, h1, h2⟩ := area_all ds _ hall p fun d hd => Nat.le_trans (weight_mem hd) z2
    have k : ∀ b ∈ A, b ∈ a :: A := fun b hb => List.mem_cons_of_mem _ hb
    refine ⟨a :: A, List.mem_cons_self .., fun b hb => ?_⟩
    rcases List.mem_cons.mp hb with e | m
    · rw [e]
      exact ⟨vs, line_of (by rw [wellAll_len hall]; exact Nat.le_trans (PySem.W.length_le_weightAllW ds) z2), fun u hu => (h1 u hu).mono k, .inl ho⟩
    · exact (h2 b m).mono k
  | .tuple ds, _, x, p, z => by
    obtain ⟨a, vs, rfl, ho, hall⟩ := well_tuple x
    have z2 : WData.weightAll ds ≤ 1048576 := z
    obtain ⟨A, h1, h2⟩ := area_all ds _ hall p fun d hd => Nat.le_trans (weight_mem hd) z2
    have k : ∀ b ∈ A, b ∈ a :: A := fun b hb => List.mem_cons_of_mem _ hb
    refine ⟨a :: A, List.mem_cons_self .., fun b hb => ?_⟩
    rcases List.mem_cons.mp hb with e | m
    · rw [e]
      exact ⟨vs, line_of (by rw [wellAll_len hall]; exact Nat.le_trans (PySem.W.length_le_weightAllW ds) z2), fun u hu => (h1 u hu).mono k, .inr ho⟩
    · exact (h2 b m).mono k
  | .float _, _, _, p, _ => Bool.noConfusion (show false = true from p)
  | .dict _, _, _, p, _ => Bool.noConfusion (show false = true from p)
  | .bytearray _, _, _, p, _ => Bool.noConfusion (show false = true from p)
  | .set _, _, _, p, _ => Bool.noConfusion (show false = true from p)
  | .frozenset _, _, _, p, _ => Bool.noConfusion (show false = true from p)
  | .obj _ _, _, _, p, _ => Bool.noConfusion (show false = true from p)
theorem area_all : ∀ (ds : List WData) (vs : List Value), WellAll P h vs ds → plWs ds = true → (∀ d ∈ ds, d.weight ≤ 1048576) → ∃ A : List Addr, (∀ u ∈ vs, OkU A u) ∧ ∀ a ∈ A, ArgOb h A a
  | [], _, x, _, _ => by
    cases x
    exact ⟨[], fun u m => absurd m (by simp), fun a m => absurd m (by simp)⟩
  | d :: ds, _, x, p, z => by
    obtain ⟨v, vs, rfl, x1, x2⟩ := well_cons x
    have q : plW d = true ∧ plWs ds = true := Bool.and_eq_true_iff.mp p
    obtain ⟨A, a1, a2⟩ := area_one d v x1 q.1 (z d (List.mem_cons_self ..))
    obtain ⟨B, b1, b2⟩ := area_all ds vs x2 q.2 fun e he => z e (List.mem_cons_of_mem _ he)
    have kA : ∀ b ∈ A, b ∈ A ++ B := fun b hb => List.mem_append.mpr (.inl hb)
    have kB : ∀ b ∈ B, b ∈ A ++ B := fun b hb => List.mem_append.mpr (.inr hb)
    refine ⟨A ++ B, fun u hu => ?_, fun b hb => ?_⟩
    · rcases List.mem_cons.mp hu with e | m
      · rw [e]
        exact a1.mono kA
      · exact (b1 u m).mono kB
    · rcases List.mem_append.mp hb with m | m
      · exact (a2 b m).mono kA
      · exact (b2 b m).mono kB
end
end
noncomputable def hoOf (o : Obj) : Option HO := match o.data with
  | .seq vs _ => if (o.cls == Value.type "list") = true then some (.frz o (.lst (vs.toList.map toV))) else some (.frz o (.tup (vs.toList.map toV)))
  | _ => none
noncomputable def argH (K : PySem.W.Frag) (h : Heap) (A : List Addr) : Hp := fun b => if b ∈ A then (if (K.lookup b).isNone = true then (h.get? b).bind hoOf else none) else none
noncomputable def OnlyF (H : Hp) : Prop := ∀ b, H b = none ∨ ∃ o u, H b = some (.frz o u)
theorem hoOf_lst (vs : List Value) : hoOf { cls := .type "list", data := .seq vs.toArray } = some (.frz { cls := .type "list", data := .seq vs.toArray } (.lst (vs.map toV))) := by
  show (if (Value.type "list" == Value.type "list") = true then some (HO.frz { cls := .type "list", data := .seq vs.toArray } (.lst (vs.toArray.toList.map toV))) else some (HO.frz { cls := .type "list", data := .seq vs.toArray } (.tup (vs.toArray.toList.map toV)))) = _
  rw [if_pos (beq_self_eq_true _)]
theorem hoOf_tup (vs : List Value) : hoOf { cls := .type "tuple", data := .seq vs.toArray } = some (.frz { cls := .type "tuple", data := .seq vs.toArray } (.tup (vs.map toV))) := by
  show (if (Value.type "tuple" == Value.type "list") = true then some (HO.frz { cls := .type "tuple", data := .seq vs.toArray } (.lst (vs.toArray.toList.map toV))) else some (HO.frz { cls := .type "tuple", data := .seq vs.toArray } (.tup (vs.toArray.toList.map toV)))) = _
  rw [if_neg (by decide)]
section
variable {P : Program} {w : World} {K : PySem.W.Frag} {h : Heap} {A : List Addr}
theorem argH_at {b : Addr} {o : Obj} (hb : b ∈ A) (hk : K.lookup b = none) (e : h.get? b = some o) : argH K h A b = hoOf o := by
  unfold argH
  rw [if_pos hb, hk, if_pos (show (none : Option Obj).isNone = true from rfl), e] <;> rfl
theorem of_argH {b : Addr} {u : HO} (q : argH K h A b = some u) : b ∈ A ∧ K.lookup b = none := by
  unfold argH at q
  by_cases hb : b ∈ A
  · rw [if_pos hb] at q
    cases hk : K.lookup b with
    | none => exact ⟨hb, rfl⟩
    | some o =>
      rw [hk, if_neg (by simp)] at q
      cases q
  · rw [if_neg hb] at q
    cases q
theorem argH_is (ar : ∀ a ∈ A, ArgOb h A a) {b : Addr} {u : HO} (q : argH K h A b = some u) : K.lookup b = none ∧ ∃ vs : List Value, vs.length ≤ sizeLine ∧ (∀ u ∈ vs, OkU A u) ∧
    ((h.get? b = some { cls := .type "list", data := .seq vs.toArray } ∧ u = .frz { cls := .type "list", data := .seq vs.toArray } (.lst (vs.map toV))) ∨
     (h.get? b = some { cls := .type "tuple", data := .seq vs.toArray } ∧ u = .frz { cls := .type "tuple", data := .seq vs.toArray } (.tup (vs.map toV)))) := by
  obtain ⟨hb, hk⟩ := of_argH q
  obtain ⟨vs, h1, h2, h3⟩ := ar b hb
  refine ⟨hk, vs, h1, h2, ?_⟩
  rcases h3 with e | e
  · rw [argH_at hb hk e, hoOf_lst] at q
    exact .inl ⟨e, (Option.some.inj q).symm⟩
  · rw [argH_at hb hk e, hoOf_tup] at q
    exact .inr ⟨e, (Option.some.inj q).symm⟩
theorem argH_only (ar : ∀ a ∈ A, ArgOb h A a) : OnlyF (argH K h A) := fun b => by
  cases q : argH K h A b with
  | none => exact .inl rfl
  | some u =>
    obtain ⟨_, vs, _, _, ⟨_, e⟩ | ⟨_, e⟩⟩ := argH_is ar q
    · exact .inr ⟨_, _, by rw [e]⟩
    · exact .inr ⟨_, _, by rw [e]⟩
theorem argH_ok (ar : ∀ a ∈ A, ArgOb h A a) : HOk P w (argH K h A) h := fun b u q => by
  obtain ⟨_, vs, h1, h2, ⟨e, rfl⟩ | ⟨e, rfl⟩⟩ := argH_is ar q
  · exact ⟨e, by rw [List.length_map]; exact h1, vs, _, vals_toV h2, e⟩
  · exact ⟨e, by rw [List.length_map]; exact h1, vs, vals_toV h2, _, e, rfl, _, rfl⟩
theorem seq_inj {c c' : Value} {vs us : List Value} (e : (some { cls := c, data := .seq vs.toArray } : Option Obj) = some { cls := c', data := .seq us.toArray }) : c = c' ∧ vs = us := by
  have e1 := Option.some.inj e
  have e2 : c = c' := congrArg Obj.cls e1
  have e3 : Data.seq vs.toArray = Data.seq us.toArray := congrArg Obj.data e1
  injection e3 with e4
  refine ⟨e2, ?_⟩
  have e5 := congrArg Array.toList e4
  simpa using e5
theorem argL (KX : K.In h) (ar : ∀ a ∈ A, ArgOb h A a) {a : Addr} {vs : List Value} (ha : a ∈ A) (e : h.get? a = some { cls := .type "list", data := .seq vs.toArray }) : (∀ u ∈ vs, OkU A u) ∧ SqL K (argH K h A) a (vs.map toV) := by
  obtain ⟨us, h1, h2, h3⟩ := ar a ha
  have hu : us = vs := by
    rcases h3 with q | q
    · rw [e] at q
      exact (seq_inj q).2.symm
    · rw [e] at q
      exact absurd (Value.type.inj (seq_inj q).1) (by decide)
  subst hu
  refine ⟨h2, ?_⟩
  cases hk : K.lookup a with
  | none => exact .inl (.inr ⟨_, by rw [argH_at ha hk e, hoOf_lst]⟩)
  | some o =>
    have e2 := KX a o hk
    rw [e] at e2
    obtain rfl := Option.some.inj e2
    exact .inr ⟨_, us.toArray, _, hk, rfl, rfl, rfl, by rw [List.size_toArray]; exact h1, by simpa using vals_toV h2⟩
theorem argT (KX : K.In h) (ar : ∀ a ∈ A, ArgOb h A a) {a : Addr} {vs : List Value} (ha : a ∈ A) (e : h.get? a = some { cls := .type "tuple", data := .seq vs.toArray }) : (∀ u ∈ vs, OkU A u) ∧ SqT K (argH K h A) a (vs.map toV) := by
  obtain ⟨us, h1, h2, h3⟩ := ar a ha
  have hu : us = vs := by
    rcases h3 with q | q
    · rw [e] at q
      exact absurd (Value.type.inj (seq_inj q).1) (by decide)
    · rw [e] at q
      exact (seq_inj q).2.symm
  subst hu
  refine ⟨h2, ?_⟩
  cases hk : K.lookup a with
  | none => exact .inl (.inr ⟨_, by rw [argH_at ha hk e, hoOf_tup]⟩)
  | some o =>
    have e2 := KX a o hk
    rw [e] at e2
    obtain rfl := Option.some.inj e2
    exact .inr ⟨_, us.toArray, _, hk, rfl, rfl, by rw [List.size_toArray]; exact h1, by simpa using vals_toV h2⟩
mutual
theorem dw_one {Pm : Params} (KX : K.In h) (ar : ∀ a ∈ A, ArgOb h A a) : ∀ (d : WData) (v : Value), Well Pm h v d → plW d = true → OkU A v → Dw K (argH K h A) (toV v) d
  | .none, _, x, _, _ => by
    cases x
    exact .non
  | .bool b, _, x, _, _ => by
    cases x
    exact .bl b
  | .int i, _, x, _, _ => by
    cases x
    exact .int i
  | .str s, _, x, _, _ => by
    cases x
    exact .str s
  | .bytes b, _, x, _, _ => by
    cases x
    have z := Dw.byt (K := K) (H := argH K h A) b.toArray
    exact z
  | .list ds, _, x, p, hu => by
    obtain ⟨a, vs, rfl, ho, hall⟩ := well_list x
    obtain ⟨h2, hs⟩ := argL KX ar hu ho
    exact .lst hs (dw_all KX ar ds _ hall p h2)
  | .tuple ds, _, x, p, hu => by
    obtain ⟨a, vs, rfl, ho, hall⟩ := well_tuple x
    obtain ⟨h2, hs⟩ := argT KX ar hu ho
    exact .tup hs (dw_all KX ar ds _ hall p h2)
  | .float _, _, _, p, _ => Bool.noConfusion (show false = true from p)
  | .dict _, _, _, p, _ => Bool.noConfusion (show false = true from p)
  | .bytearray _, _, _, p, _ => Bool.noConfusion (show false = true from p)
  | .set _, _, _, p, _ => Bool.noConfusion (show false = true from p)
  | .frozenset _, _, _, p, _ => Bool.noConfusion (show false = true from p)
  | .obj _ _, _, _, p, _ => Bool.noConfusion (show false = true from p)
theorem dw_all {Pm : Params} (KX : K.In h) (ar : ∀ a ∈ A, ArgOb h A a) : ∀ (ds : List WData) (vs : List Value), WellAll Pm h vs ds → plWs ds = true → (∀ u ∈ vs, OkU A u) → DwAll K (argH K h A) (vs.map toV) ds
  | [], _, x, _, _ => by
    cases x
    exact .nil
  | d :: ds, _, x, p, hu => by
    obtain ⟨v, vs, rfl, x1, x2⟩ := well_cons x
    have q : plW d = true ∧ plWs ds = true := Bool.and_eq_true_iff.mp p
    exact .cons (dw_one KX ar d v x1 q.1 (hu _ (List.mem_cons_self ..))) (dw_all KX ar ds vs x2 q.2 fun u m => hu u (List.mem_cons_of_mem _ m))
end
end
theorem spec_call {P : Program} {w : World} {K : PySem.W.Frag} {mg mb : Str → Option Value} {CX : CXT} {k : Nat} {fa : Addr} {fd : FuncData} {ps : List Str} {sp : Sp} {s₁ : Shared} {vals : List Value} {ds : List WData} {R : PySem.W.WRecords} {cl : Str → Option Addr} {d0 : WData}
    (KX : K.In s₁.heap) (hns : s₁.heap.Ns mainGlobals mg) (hb : s₁.heap.Ns builtinsNs mb) (hbb : ∀ x : Str, x ≠ "__name__" → mb x = bootBuiltins x) (hlim : s₁.heap.NoLimit) (hg : s₁.gens = #[])
    (hwl : WellAll w.params s₁.heap vals ds) (hpl : plWs ds = true) (hwt : ∀ d ∈ ds, d.weight ≤ 1048576) (hr : Room k callerA)
    (F : ∀ base : Heap, K.In base → base.Ns mainGlobals mg → FnOk P w K mg base CX k fa fd ps sp) (hbind : ∀ (s : Shared) (us : List Value), us.length = ps.length → BindsTo s fd ⟨us, []⟩ (ps.zip us)) (hlen : ds.length = ps.length)
    (hsp : ∀ (H : Hp) (xs : List V), OnlyF H → DwAll K H xs ds → sp xs H (fun v H' => Dw K H' v d0) fun _ _ _ => False)
    (hCX : ∀ H e s', CX [] H s₁ (fun _ _ _ => False) e s' → False) :
    codeAny (model P w) callerA (.call (.ref fa) ⟨vals, []⟩) (fun r s' => ∃ u as, r = .ok (.ret u) ∧ ReadsW R cl s'.heap u d0 as ∧ OldK s₁.heap s'.heap ∧ s'.os = s₁.os ∧ AllBare s'.gens) s₁ := by
  obtain ⟨A, ho, ar⟩ := area_all ds vals hwl hpl hwt
  have hO : OnlyF (argH K s₁.heap A) := argH_only ar
  have hok : HOk P w (argH K s₁.heap A) s₁.heap := argH_ok ar
  have hS := dw_all KX ar ds vals hwl hpl ho
  have hV := vals_toV ho
  have hK : ∀ b u, argH K s₁.heap A b = some u → K.lookup b = none := fun b u q => (argH_is ar q).1
  have noA : ∀ {b : Addr} {o : Obj} {es : Array DictEntry} {ep : Nat}, s₁.heap.get? b = some o → o.data = .dict es ep → argH K s₁.heap A b = none := fun {b o es ep} e d => by
    cases q : argH K s₁.heap A b with
    | none => rfl
    | some u =>
      obtain ⟨_, vs, _, _, ⟨e2, _⟩ | ⟨e2, _⟩⟩ := argH_is ar q
      · rw [e2] at e
        cases e
        have d' : Data.seq vs.toArray _ = Data.dict es ep := d
        cases d'
      · rw [e2] at e
        cases e
        have d' : Data.seq vs.toArray _ = Data.dict es ep := d
        cases d'
  generalize argH K s₁.heap A = H at hO hok hS hK noA
  have base_of : ∀ {b : Addr} {o : Obj}, s₁.heap.get? b = some o → H b = none → (hidT s₁.heap H).get? b = some o := fun e n => hidT_get e n
  have nsK : ∀ {b : Addr} {m : Str → Option Value}, s₁.heap.Ns b m → (hidT s₁.heap H).Ns b m := fun {b m} ⟨o, es, ep, e, d, r⟩ => ⟨o, es, ep, base_of e (noA e d), d, r⟩
  have nK : ∀ b o, K.lookup b = some o → H b = none := fun b o e => by
    cases q : H b with
    | none => rfl
    | some u =>
      rw [hK b u q] at e
      cases e
  have hKb : K.In (hidT s₁.heap H) := fun b o e => base_of (KX b o e) (nK b o e)
  have hM : Mod K mg (hidT s₁.heap H) := ⟨hKb, nsK hns, ⟨mb, nsK hb, hbb⟩, let ⟨mc, h1, h2⟩ := hlim; ⟨mc, nsK h1, h2⟩⟩
  have e0 : Env0 P w K mg (hidT s₁.heap H) callerA [] s₁ H := ⟨rfl, hM, fun b o e => of_hidT e, Nat.le_of_eq (hidT_size _ _), trivial, fun b hb => absurd (show b ∈ ([] : List Addr) from hb) (by simp), hok, .of_eq hg⟩
  have hl : vals.length = ps.length := by rw [wellAll_len hwl]; exact hlen
  refine codeAny_mono ((F _ hKb (nsK hns)).run callerA [] s₁ H ⟨vals, []⟩ vals (vals.map toV) _ _ hr e0 (hbind s₁ vals hl) hV (hsp H _ hO hS)) fun r s' x => ?_
  cases r with
  | error e => exact (hCX H e s' x).elim
  | ok fl =>
    cases fl with
    | next => exact False.elim x
    | brk => exact False.elim x
    | cont => exact False.elim x
    | ret u =>
      obtain ⟨v, H', os, bare, un, hok', r', q⟩ := x
      have kept : ∀ b o, s₁.heap.get? b = some o → s'.heap.get? b = some o := fun b o e => by
        cases q2 : H b with
        | none => exact un.keep b o e q2 (by intro z; exact absurd (show b ∈ ([] : List Addr) from z) (by simp)) (by simp)
        | some u2 =>
          rcases hO b with z | ⟨ob, u3, z⟩
          · rw [q2] at z
            cases z
          · have z2 := un.frzs b ob _ z
            obtain ⟨e1, _⟩ := hok b _ z
            obtain ⟨e2, _⟩ := hok' b _ z2
            rw [e] at e1
            cases e1
            exact e2
      have KX' : K.In s'.heap := fun b o e => kept b o (KX b o e)
      obtain ⟨as, hrd⟩ := Dw.reads (R := R) (cl := cl) hok' KX' d0 v u q r'
      exact ⟨u, as, rfl, hrd, OldK.of_keep kept, os, bare⟩
theorem layable_weight {ds : List WData} (h : WData.layableAll ds = true) : ∀ d ∈ ds, d.weight ≤ 1048576 := fun d hd =>
  (PySem.W.layableW_iff.mp (List.all_eq_true.mp h d hd)).2.2
theorem encAll_len : ∀ (cs : List Codec) (a : Codec.denoteAll cs), (Codec.encAll cs a).length = cs.length
  | [], _ => rfl
  | c :: cs, a => by
    show (Codec.encAll cs a.2).length + 1 = cs.length + 1
    rw [encAll_len cs a.2]
theorem walk_spec {r : OpenSpec} {k : Nat} {q : Program} {loose : List Str} {XP : (Str → Option Value) → Heap → Prop} {YP : World → Heap → Prop} {d : DefRec} {K : Params → PySem.W.Frag} {CX : World → CXT} {ps : List Str} {sp : World → Sp}
    (hwell : r.wellSaid = true) (hdf : d.params.defaults = []) (hlen : r.args.length = ps.length) (hr : Room k callerA)
    (hY : ∀ (w : World) (h : Heap), YP w h → (K w.params).In h)
    (F : ∀ (w : World) (mg : Str → Option Value) (fa : Addr) (h : Heap), YP w h → (K w.params).In h → h.Ns mainGlobals mg → mg d.name = some (.ref fa) →
      ∃ fd : FuncData, (∀ (s : Shared) (us : List Value), us.length = ps.length → BindsTo s fd ⟨us, []⟩ (ps.zip us)) ∧
        ∀ base : Heap, (K w.params).In base → base.Ns mainGlobals mg → FnOk r.prog w (K w.params) mg base (CX w) k fa fd ps (sp w))
    (hsp : ∀ (w : World) (H : Hp) (xs : List V) (a : Codec.denoteAll r.args), OnlyF H → Codec.withinAll r.args a = true → Codec.app r.args r.asked a = true → DwAll (K w.params) H xs (Codec.encAll r.args a) →
      sp w xs H (fun v H' => Dw (K w.params) H' v (r.ret.enc (Codec.app r.args r.f a))) fun _ _ _ => False)
    (hCX : ∀ (w : World) (H : Hp) (s : Shared) (e : Value) (s' : Shared), CX w [] H s (fun _ _ _ => False) e s' → False) :
    PySem.W.WalkOS q loose XP YP r d [] (fun f vs => PySem.call f vs) := by
  intro w s_0 s₁ mg mb G Y fa o pm cd doc dV kV ho hd hcd hD hmg hg args vals as hpre hlay hrd hwl hlo
  obtain ⟨a, e1, e2⟩ := PySem.W.os_pre_some hpre
  obtain ⟨e3, hwi⟩ := Codec.encAll_of_decAll r.args args a e1
  subst e3
  have KX := hY w _ Y
  obtain ⟨fd, hb, hF⟩ := F w mg fa _ Y KX G.T.g hmg
  refine PySem.W.enter_call (codeAny_mono (spec_call (R := []) (cl := classAt s_0.heap) (d0 := r.ret.enc (Codec.app r.args r.f a)) KX G.T.g G.T.b G.T.builtins G.T.nolimit hg hwl (pl_encAll _ _) (layable_weight hlay) hr hF hb (by rw [encAll_len]; exact hlen)
    (fun H xs hO hS => hsp w H xs a hO hwi e2 hS) fun H e s' => hCX w H s₁ e s') fun r' s' hq => ?_)
  obtain ⟨u, as', rfl, h1, h2, h3, h4⟩ := hq
  exact ⟨.inl ⟨u, _, as', rfl, fun _ => rfl, h1, (OpenSpec.post_iff hwell hwi _ _).mpr rfl, fun z => Bool.noConfusion (show false = true from z)⟩, h2, h3, h4⟩
end L2
-- rests on (row put in by the clerk, for the bench that shows a file only what it spells): KE.SpHead KE.OsShapes
end
set_option Elab.async false
set_option genSizeOf false
set_option linter.all false
set_option maxRecDepth 100000
set_option maxHeartbeats 4000000
namespace XE
open PySem
noncomputable abbrev tupO (l : List Value) : Obj := { cls := .type "tuple", data := .seq l.toArray }
noncomputable abbrev excO (C t : Addr) : Obj := { cls := .ref C, data := .fields #[.ref t, .none, .none, .none, .bool false, .none] }
noncomputable abbrev born (h : Heap) (C : Addr) (l : List Value) : Heap := (h.push (tupO l)).push (excO C h.objs.size)
theorem born_keeps (h : Heap) (C : Addr) (l : List Value) : ∀ b o, h.get? b = some o → (born h C l).get? b = some o := fun b o e => Heap.get?_push_of_some _ (Heap.get?_push_of_some _ e)
theorem born_exc (h : Heap) (C : Addr) (l : List Value) : (born h C l).get? (h.objs.size + 1) = some (excO C h.objs.size) := by heap_get
section
variable {prog : Program} {w : World} {A : Around} {E : Value → Shared → Prop}
  {h : Heap} {g : Array GenState} {d : Drawn} {t : Nat} {os : OsState} {nm q : Str} {C N fI : Addr}
  {bs bm l : List Value} {hdct ab : Bool} {sn : List Str} {sub : List Value} {col : Option Bool} {dd : Option Addr}
  {k0 k1 k2 k3 k5 : Option Value} {B newId initId : String} {mN : Str → Option Value} {oI : Obj}
theorem type_call_init (F : ExcBaseFacts B newId initId bm) {Q : Fin → Shared → Prop}
    (hC : h.get? C = some (excClassObj nm q C N bs bm hdct sn sub ab col dd k0 k1 k2 k3 k5 newId))
    (hn : h.Ns N mN) (hi : mN "__init__" = some (.ref fI)) (hfI : h.get? fI = some oI) (hfc : oI.cls = .type "function") (hl : l.length ≤ sizeLine)
    (hq : wpAny (model prog w) A (call (.ref fI) (.ref (h.objs.size + 1) :: l)) (fun r s' => r = .none ∧ Q (.done (.ret (.ref (h.objs.size + 1)))) s') E ⟨born h C l, g, d, t, os⟩) :
    wpAny (model prog w) A (Builtin.«type.__call__» ⟨.ref C :: l, []⟩) Q E ⟨h, g, d, t, os⟩ := by
  repeat (first | with_reducible refine wpAny_loadPart_at hC ?_ | with_reducible refine wpAny_madeBy_exc hC ?_ | wp_step)
  refine codeAny_call_builtin_code (Code.quiet_builtin _ F.quiet) (wpAny_check_new_sub F hC ?_)
  refine codeAny_exc_new_sub F hC ?_ hl
  show wpAny _ _ _ _ _ _
  have c1 := born_keeps h C l _ _ hC
  have f1 := born_keeps h C l _ _ hfI
  have n1 : (born h C l).Ns N mN := by
    obtain ⟨o, es, ep, e, r⟩ := hn
    exact ⟨o, es, ep, born_keeps h C l _ _ e, r⟩
  have e1 := born_exc h C l
  have cC : (Value.ref C :: bm).contains (.ref C) = true := by simp
  unfold isInstance
  repeat (first | with_reducible refine wpAny_loadPart_at e1 ?_ | (with_reducible refine wpAny_isSubtype_exc c1 ?_; rw [cC]) | wp_step)
  show wpAny _ _ (typeLookup (.ref C) _) _ _ _
  refine wpAny_typeLookup_exc c1 n1 F.mroIs F.init.lookup ?_
  rw [hi]
  refine wpAny_holding (wpAny_bind ?_)
  unfold bindSpecial
  refine wpAny_bind (wpAny_typeOf (T := "function") ⟨_, f1, hfc⟩ ?_)
  rw [if_pos (by decide)]
  refine wpAny_pure (wpAny_bind (wpAny_mono hq (fun r s' hr => ?_) fun _ _ x => x))
  obtain ⟨rfl, hQ⟩ := hr
  wp_walk
  exact hQ
theorem call_init (F : ExcBaseFacts B newId initId bm) {Q : Value → Shared → Prop}
    (hC : h.get? C = some (excClassObj nm q C N bs bm hdct sn sub ab col dd k0 k1 k2 k3 k5 newId))
    (hn : h.Ns N mN) (hi : mN "__init__" = some (.ref fI)) (hfI : h.get? fI = some oI) (hfc : oI.cls = .type "function") (hl : l.length ≤ sizeLine)
    (hq : wpAny (model prog w) (A.under (.builtin "type.__call__" ⟨.ref C :: l, []⟩)) (call (.ref fI) (.ref (h.objs.size + 1) :: l)) (fun r s' => r = .none ∧ Q (.ref (h.objs.size + 1)) s') E ⟨born h C l, g, d, t, os⟩) :
    wpAny (model prog w) A (call (.ref C) l) Q E ⟨h, g, d, t, os⟩ := by
  have f1 := tc_lookup
  have f2 := tc_bind (.ref C)
  have hT : (⟨h, g, d, t, os⟩ : Shared).TypeIs (.ref C) "type" := ⟨_, hC, rfl⟩
  refine wpAny_call (codeAny_of_tree ?_)
  show wpAny _ _ (callAny (.ref C) _) _ _ _
  repeat (any_goals (first | assumption | with_reducible refine wpAny_loadPart_at hC ?_ | wp_step))
  refine ⟨rfl, ?_⟩
  exact codeAny_call_builtin_at (Code.quiet_builtin _ (by decide +kernel)) entry_typeCall (wpAny_check_type_call_sub hC (type_call_init F hC hn hi hfI hfc hl hq))
end
end XE
namespace XE
open PySem
section
variable {M : Model} {A : Around} {E : Value → Shared → Prop} {env : Env} {nm q : Str} {C N : Addr}
  {bs bm : List Value} {hdct ab : Bool} {sn : List Str} {sub : List Value} {col : Option Bool} {dd : Option Addr}
  {k0 k1 k2 k3 k5 : Option Value} {newId : String}
theorem raise_made {s : Shared} {x : Sem Value} {Q : Flow → Shared → Prop} (hb : bm.contains (.type "BaseException") = true) (hh : A.handled = none)
    (h : wpAny M A x (fun v s1 => ∃ (e t : Addr) (dc : Option Addr), v = .ref e ∧ s1.heap.get? C = some (excClassObj nm q C N bs bm hdct sn sub ab col dd k0 k1 k2 k3 k5 newId) ∧
      s1.heap.get? e = some { cls := .ref C, dict := dc, data := .fields #[.ref t, .none, .none, .none, .bool false, .none] } ∧ E (.ref e) s1) E s) :
    wpAny M A (raiseStmt env (some x) none) Q E s := by
  have cB : (Value.ref C :: bm).contains (.type "BaseException") = true := by rw [List.contains_cons, hb, Bool.or_true]
  unfold raiseStmt
  refine wpAny_bind (wpAny_mono h (fun v s1 h1 => ?_) fun _ _ z => z)
  obtain ⟨e, t, dc, rfl, hC, he, hE⟩ := h1
  obtain ⟨hp, g, d, tk, os⟩ := s1
  repeat (first | with_reducible refine wpAny_loadPart_at he ?_ | with_reducible refine wpAny_loadPart_at hC ?_ | (with_reducible refine wpAny_isSubtype_exc hC ?_; rw [cB]) | wp_step)
  exact wpAny_raiseNew_none hh hE
end
end XE
namespace XE
open PySem Builtin Builtin.ObjectAttr
section
variable {prog : Program} {w : World} {A : Around} {E : Value → Shared → Prop}
  {h : Heap} {g : Array GenState} {d : Drawn} {t : Nat} {os : OsState} {nm q : Str} {C N x dx : Addr}
  {bs bm : List Value} {ab : Bool} {sn : List Str} {sub : List Value} {col : Option Bool} {dd : Option Addr}
  {k0 k1 k2 k3 k5 : Option Value} {B newId : String} {mN mA : Str → Option Value} {o : Obj} {name : Str} {v : Value}
theorem get_check {M : Model} {nv : Value} {Q : Unit → Shared → Prop} (FB : ExcAttrBase B bm)
    (hC : h.get? C = some (excClassObj nm q C N bs bm true sn sub ab col dd k0 k1 k2 k3 k5 newId)) (hx : h.get? x = some o) (hc : o.cls = .ref C) (hq : Q () ⟨h, g, d, t, os⟩) :
    wpAny M A (checkBuiltinCall "BaseException.__getattribute__" ⟨[.ref x, nv], []⟩) Q E ⟨h, g, d, t, os⟩ := by
  have y1 : builtinKind "BaseException.__getattribute__" = some .slot := by decide +kernel
  have y2 : splitId "BaseException.__getattribute__" = some ("BaseException", "__getattribute__") := by decide +kernel
  have cB : (Value.ref C :: bm).contains (.type "BaseException") = true := by rw [List.contains_cons, FB.hasBase, Bool.or_true]
  have ha := F.args_bexc_ga (.ref x) nv
  simp only [checkBuiltinCall, y1, y2]
  refine wpAny_bind ?_
  unfold isInstance
  repeat (first | (with_reducible refine wpAny_loadPart_at hx ?_; rw [hc]) | (with_reducible refine wpAny_isSubtype_exc hC ?_; rw [cB]) | wp_step)
  exact hq
theorem get_entry {tk : Tok} {Q : Fin → Shared → Prop} (FB : ExcAttrBase B bm)
    (hC : h.get? C = some (excClassObj nm q C N bs bm true sn sub ab col dd k0 k1 k2 k3 k5 newId)) (hn : h.Ns N mN) (hna : mN name = none) (hB : typeLookup (.type B) name = pure none)
    (hx : h.get? x = some o) (hc : o.cls = .ref C) (hnc : ∀ c, o.data ≠ .cls c) (hdx : o.dict = some dx) (hA : h.Ns dx mA) (hv : mA name = some v) (hq : Q (.done (.ret v)) ⟨h, g, d, t, os⟩) :
    wpAny (model prog w) A (Builtin.«object.__getattribute__» ⟨[.ref x, .str name tk], []⟩) Q E ⟨h, g, d, t, os⟩ := by
  unfold Builtin.«object.__getattribute__»
  repeat (first | (with_reducible refine wpAny_loadPart_at hx ?_; rw [hc]) | (with_reducible refine wpAny_typeLookup_exc hC hn FB.mro hB ?_; rw [hna]) | wp_step)
  split
  · rename_i c hcd
    exact absurd hcd (hnc c)
  unfold instanceDict
  repeat (first | (with_reducible refine wpAny_loadPart_at hx ?_; rw [hc]) | with_reducible refine wpAny_loadPart_at hC ?_ | wp_step)
  rw [hdx]
  repeat (first | (with_reducible refine wpAny_nsGet hA ?_; rw [hv]) | wp_step)
  exact hq
theorem get_exc {expr : Bool} {Q : Value → Shared → Prop} (FB : ExcAttrBase B bm)
    (hC : h.get? C = some (excClassObj nm q C N bs bm true sn sub ab col dd k0 k1 k2 k3 k5 newId)) (hn : h.Ns N mN) (hg1 : mN "__getattribute__" = none) (hg2 : mN "__getattr__" = none)
    (hna : mN name = none) (hB : typeLookup (.type B) name = pure none)
    (hx : h.get? x = some o) (hc : o.cls = .ref C) (hnc : ∀ c, o.data ≠ .cls c) (hdx : o.dict = some dx) (hA : h.Ns dx mA) (hv : mA name = some v) (hh : handedOut v = pure v)
    (hq : Q v ⟨h, g, d, t + 1, os⟩) : wpAny (model prog w) A (getAttr (.ref x) name expr) Q E ⟨h, g, d, t, os⟩ := by
  have f3 := FB.ga.bind (.ref x)
  have y0 : (expr && onTheHeap (Value.builtin "BaseException.__getattribute__")) = false := by cases expr <;> rfl
  have y2 : (Value.builtin "BaseException.__getattribute__" == Value.builtin "object.__getattribute__") = false := by decide +kernel
  have y1 : (onTheHeap (Value.ref C) && Value.builtin "BaseException.__getattribute__" == Value.builtin "object.__getattribute__") = false := by rw [y2]; rfl
  unfold getAttr getAttrBy
  repeat (any_goals (first | assumption | (with_reducible refine wpAny_loadPart_at hx ?_; rw [hc]) | (with_reducible refine wpAny_typeLookup_exc hC hn FB.mro FB.ga.lookup ?_; rw [hg1]) | (with_reducible refine wpAny_typeLookup_exc hC hn FB.mro FB.noGetattr ?_; rw [hg2]) | wp_step))
  refine codeAny_call_builtin FB.ga.plain F.entry_bexc_ga (get_check FB hC hx hc (get_entry FB hC hn hna hB hx hc hnc hdx hA hv ?_))
  repeat (any_goals (first | assumption | wp_step))
end
end XE
namespace XE
open PySem
noncomputable def DR (h h' : Heap) : Prop := ∀ a o, h.get? a = some o → ∃ o', h'.get? a = some o' ∧ o'.dict = o.dict ∧ o'.cls = o.cls
theorem DR.refl (h : Heap) : DR h h := fun _ o e => ⟨o, e, rfl, rfl⟩
theorem DR.trans {h1 h2 h3 : Heap} (x : DR h1 h2) (y : DR h2 h3) : DR h1 h3 := fun a o e => by
  obtain ⟨o', e', d1, c1⟩ := x a o e
  obtain ⟨o2, e2, d2, c2⟩ := y a o' e'
  exact ⟨o2, e2, d2.trans d1, c2.trans c1⟩
theorem DR.push (h : Heap) (o : Obj) : DR h (h.push o) := fun a u e => ⟨u, Heap.get?_push_of_some _ e, rfl, rfl⟩
theorem DR.fields {h : Heap} {a : Addr} {o : Obj} {vs : Array Value} (ho : h.get? a = some o) (hd : o.data = .fields vs) (f : Array Value → Array Value) : DR h (h.update a (Obj.mapFields f)) := fun b u e => by
  by_cases q : b = a
  · subst q
    rw [ho] at e
    cases e
    refine ⟨_, Heap.get?_update_self _ ho (Obj.isFreed_of_fields (Obj.data_mapFields hd _)), ?_, Obj.cls_mapFields _ _⟩
    obtain ⟨c, dc, dt, sl⟩ := o
    cases hd
    rfl
  · exact ⟨u, (Heap.get?_update_other _ _ (Ne.symm q)).trans e, rfl, rfl⟩
theorem DR.slots {h : Heap} {a : Addr} {o : Obj} (ho : h.get? a = some o) (f : Obj → Array (Option Value)) : DR h (h.update a fun o => { o with slots := f o }) := fun b u e => by
  obtain ⟨_, _, z⟩ := Heap.SlotsOnly.update ho f
  obtain ⟨sl, e'⟩ := z b u e
  exact ⟨_, e', rfl, rfl⟩
structure KD {α : Type} (t : Sem α) : Prop where
  out : ∀ (M : Model) (G : Ctx) (P : α → Pos → Shared → Prop) (X : Value → Pos → Shared → Prop) (p : Pos) (s : Shared), Sem.wp M G t P X p s → Sem.wp M G t (fun a p' s' => P a p' s' ∧ DR s.heap s'.heap) X p s
namespace KD
variable {α β : Type}
theorem pure (a : α) : KD (Pure.pure a : Sem α) := ⟨fun _ _ _ _ _ _ h => by rw [Sem.wp_pure'] at h ⊢; exact ⟨h, DR.refl _⟩⟩
theorem unsupported (w : String) : KD (PySem.unsupported w : Sem α) := ⟨fun _ _ _ _ _ _ h => h⟩
theorem bind {m : Sem α} {f : α → Sem β} (hm : KD m) (hf : ∀ a, KD (f a)) : KD (m >>= f) := ⟨fun M G P X p s h => by
  rw [Sem.wp_bind'] at h ⊢
  refine Sem.wp_mono M G m (fun a p' s' q => ?_) (fun _ _ _ z => z) p s (hm.out M G _ X p s h)
  exact Sem.wp_mono M G (f a) (fun b p2 s2 z => ⟨z.1, q.2.trans z.2⟩) (fun _ _ _ z => z) p' s' ((hf a).out M G P X p' s' q.1)⟩
theorem ite {c : Prop} [Decidable c] {t u : Sem α} (ht : KD t) (hu : KD u) : KD (if c then t else u) := by split <;> assumption
theorem load (a : Addr) : KD (PySem.load a) := ⟨fun M G P X p s h => by
  unfold PySem.load at h ⊢
  rw [Sem.wp_load] at h ⊢
  obtain ⟨o, e, q⟩ := h
  rw [Sem.wp_pure] at q
  exact ⟨o, e, by rw [Sem.wp_pure]; exact ⟨q, DR.refl _⟩⟩⟩
theorem stack : KD PySem.stack := ⟨fun M G P X p s h => by
  unfold PySem.stack at h ⊢
  rw [Sem.wp_stack, Sem.wp_pure] at h ⊢
  exact ⟨h, DR.refl _⟩⟩
theorem alloc (o : Obj) : KD (PySem.alloc o) := ⟨fun M G P X p s h => by
  unfold PySem.alloc at h ⊢
  rw [Sem.wp_alloc, Sem.wp_pure] at h ⊢
  exact ⟨h, DR.push _ _⟩⟩
theorem field (v : Value) (i : Nat) : KD (PySem.field v i) := ⟨fun M G P X p s h => by
  rw [wp_field_iff] at h ⊢
  obtain ⟨a, o, vs, x, e1, e2, e3, e4, q⟩ := h
  exact ⟨a, o, vs, x, e1, e2, e3, e4, q, DR.refl _⟩⟩
theorem setField (v : Value) (i : Nat) (x : Value) : KD (PySem.setField v i x) := ⟨fun M G P X p s h => by
  rw [wp_setField_iff] at h ⊢
  obtain ⟨a, o, vs, e1, e2, e3, e4, q⟩ := h
  exact ⟨a, o, vs, e1, e2, e3, e4, q, DR.fields e2 e3 _⟩⟩
theorem slots (a : Addr) (f : Obj → Array (Option Value)) : KD (PySem.update a fun o => { o with slots := f o }) := ⟨fun M G P X p s h => by
  unfold PySem.update at h ⊢
  rw [Sem.wp_update, Sem.wp_pure] at h ⊢
  obtain ⟨o, e⟩ := Option.isSome_iff_exists.mp h.1
  exact ⟨h.1, h.2, DR.slots e f⟩⟩
end KD
theorem kd_behind (env : Env) (l : List Env) : KD (behindIsImport env l) := by
  unfold behindIsImport
  refine .ite (.pure _) ?_
  refine .bind (.pure _) fun _ => ?_
  refine .ite (.pure _) ?_
  exact .bind (.field _ _) fun _ => .pure _
theorem kd_under : KD underTheClaimsCaller := by
  unfold underTheClaimsCaller
  exact .bind .stack fun _ => .pure _
theorem kd_kept (env : Env) (b : Bool) (l : List Env) : KD (keptBack env b l) := by
  cases l with
  | nil =>
    unfold keptBack
    exact .ite (.pure _) (.bind kd_under fun _ => .pure _)
  | cons c r =>
    unfold keptBack
    exact .pure _
theorem kd_ready : ∀ l : List Env, KD (readyFrames l)
  | [] => .pure _
  | env :: l => by
    have ih := kd_ready l
    unfold readyFrames
    split
    · refine .bind (.load _) fun _ => ?_
      refine .ite (.pure _) ?_
      exact .bind (kd_behind env l) fun i => .bind (kd_kept env i l) fun _ => .bind (.slots _ _) fun _ => ih
    · exact .unsupported _
theorem kd_object (l : List Env) : KD (frameObject l) := by
  cases l with
  | nil => exact .pure _
  | cons env l =>
    unfold frameObject
    exact .bind (kd_ready _) fun _ => .pure _
theorem kd_envs : KD frameEnvs := by
  unfold frameEnvs
  exact .bind .stack fun _ => .pure _
theorem kd_frameOf (env : Env) : KD (frameOf env) := by
  unfold frameOf
  refine .bind kd_envs fun _ => .bind (kd_object _) fun x => ?_
  cases x with
  | none => exact .unsupported _
  | some v => exact .pure _
theorem kd_place (f : Addr) (b : Bool) : KD (entryPlaceOf f b) := by
  unfold entryPlaceOf
  refine .bind .stack fun _ => ?_
  split <;> exact .pure _
theorem kd_entry (a b c d e : Value) (l : List Value) : KD (EntryCells.newEntry a b c d e l) := by
  unfold EntryCells.newEntry newFields newObj
  dsimp only
  refine .ite (.bind (.unsupported _) fun _ => ?_) ?_
  all_goals
    unfold newObjAsIs
    exact .bind (.alloc _) fun _ => .pure _
theorem kd_note (e : Value) (env : Env) : KD (noteFrame e env) := by
  unfold noteFrame
  split
  · rename_i f _
    refine .bind (.field _ _) fun head => ?_
    have tl : KD (do setField e 1 (← EntryCells.newEntry head (← frameOf env) .none (rawInt f) .none (← entryPlaceOf f (head != .none)))) :=
      .bind (kd_frameOf env) fun _ => .bind (kd_place _ _) fun _ => .bind (kd_entry _ _ _ _ _ _) fun _ => .setField _ _ _
    refine .ite (.bind (.field _ _) fun _ => .ite (.pure _) ?_) tl
    exact .bind (.setField _ _ _) fun _ => tl
  · exact .unsupported _
theorem kd_flight (e : Value) (f : Option Addr) : KD (setFlight e f) := by
  unfold setFlight
  exact .bind (.field _ _) fun _ => .ite (.setField _ _ _) (.pure _)
theorem kd_leaving (env : Env) (e : Value) : KD (leaving env e) := by
  unfold leaving
  exact .bind (kd_note e env) fun _ => kd_flight e none
theorem KD.any {α : Type} {t : Sem α} (k : KD t) {M : Model} {A : Around} {Q : α → Shared → Prop} {E : Value → Shared → Prop} {s : Shared} (h : wpAny M A t Q E s) :
    wpAny M A t (fun a s' => Q a s' ∧ DR s.heap s'.heap) E s := fun G p hG => k.out M G _ _ p s (h G p hG)
end XE
namespace XE
open PySem Builtin Builtin.ObjectAttr
section
variable {prog : Program} {w : World} {A : Around} {E : Value → Shared → Prop}
  {h : Heap} {g : Array GenState} {d : Drawn} {t : Nat} {os : OsState} {nm q : Str} {C N x : Addr}
  {bs bm : List Value} {ab : Bool} {sn : List Str} {sub : List Value} {col : Option Bool} {dd : Option Addr}
  {k0 k1 k2 k3 k5 : Option Value} {B newId sa owner : String} {mN : Str → Option Value} {o : Obj} {name : Str} {v : Value}
theorem first_entry {tk : Tok} {Q : Fin → Shared → Prop} (SF : StoreFacts B bm sa owner)
    (hC : h.get? C = some (excClassObj nm q C N bs bm true sn sub ab col dd k0 k1 k2 k3 k5 newId)) (hn : h.Ns N mN) (hna : mN name = none) (hB : typeLookup (.type B) name = pure none)
    (hx : h.get? x = some o) (hc : o.cls = .ref C) (hnc : ∀ c, o.data ≠ .cls c) (hdn : o.dict = none)
    (hq : ∀ h' tk', h'.get? x = some { o with dict := some h.objs.size } → h'.Ns1 h.objs.size (fun y => if y = name then some v else none) →
      (∀ b u, b ≠ x → h.get? b = some u → h'.get? b = some u) → Q (.done (.ret .none)) ⟨h', g, d, tk', os⟩) :
    wpAny (model prog w) A (Builtin.«object.__setattr__» ⟨[.ref x, .str name tk, v], []⟩) Q E ⟨h, g, d, t, os⟩ := by
  have hpass := SF.passes (.ref x)
  unfold Builtin.«object.__setattr__»
  repeat (first | rw [refuse_eq] | (rw [refuseLoop_ref, hpass]) | (with_reducible refine wpAny_loadPart_at hx ?_; rw [hc]) | with_reducible refine wpAny_mroOf_exc hC ?_ | (with_reducible refine wpAny_typeLookup_exc hC hn SF.mro hB ?_; rw [hna]) | wp_step)
  rw [hdn, if_neg (by simp [typeHasDict])]
  split
  · rename_i z
    cases z
  split
  · rename_i c z
    exact absurd z (hnc c)
  · have x1 : (h.push { cls := .type "dict", data := .dict #[] }).get? x = some o := Heap.get?_push_of_some _ hx
    have nx : x ≠ h.objs.size := Nat.ne_of_lt (Heap.lt_size hx)
    refine wpAny_bind (wpAny_alloc' (wpAny_bind (wpAny_update' x1 (wpAny_pure ?_))))
    generalize hh : ((h.push { cls := .type "dict", data := .dict #[] }).update x fun o => { o with dict := some h.objs.size }) = h1
    have d1 : h1.get? h.objs.size = some { cls := .type "dict", data := .dict #[] } := by
      rw [← hh]
      exact (Heap.get?_update_ne _ _ _ _ nx.symm).trans (Heap.get?_push_at rfl rfl)
    have n1 : h1.Ns h.objs.size (fun _ => none) := ⟨_, #[], _, d1, rfl, fun e he => absurd he (by simp), fun _ => rfl⟩
    have x2 : h1.get? x = some { o with dict := some h.objs.size } := by
      rw [← hh]
      refine Heap.get?_update_self _ x1 ?_
      have hfr := (Heap.get?_some_iff.mp hx).2
      obtain ⟨oc, od, odt, osl⟩ := o
      cases odt <;> first | rfl | exact hfr
    show wpAny _ _ (storeInDict h.objs.size (.str name tk) name v) _ _ _
    unfold storeInDict newKeyGuard
    refine wpAny_bind (wpAny_pure (wpAny_bind (wpAny_nsSet1 (Heap.Ns1.of_empty n1) fun h' n2 sb => ?_)))
    obtain ⟨oD, esD, epD, hoD, hdD, hcD⟩ := n2.count (Within.cons name v Within.nil)
    refine wpAny_bind (wpAny_lookBehind hoD (by rw [hdD]; exact pastItsLine_dict (Nat.le_trans hcD (by rw [List.length_cons, List.length_nil, sizeLine_eq]; lia))) ?_)
    wp_walk
    refine hq h' _ ((sb.2 x nx).trans x2) n2 fun b u hb e => ?_
    refine (sb.2 b (Nat.ne_of_lt (Heap.lt_size e))).trans ?_
    rw [← hh]
    exact (Heap.get?_update_ne _ _ _ _ hb).trans (Heap.get?_push_of_some _ e)
theorem first_attr {Q : Unit → Shared → Prop} (SF : StoreFacts B bm sa owner)
    (hC : h.get? C = some (excClassObj nm q C N bs bm true sn sub ab col dd k0 k1 k2 k3 k5 newId)) (hn : h.Ns N mN) (hns : mN "__setattr__" = none) (hna : mN name = none) (hB : typeLookup (.type B) name = pure none)
    (hx : h.get? x = some o) (hc : o.cls = .ref C) (hnc : ∀ c, o.data ≠ .cls c) (hdn : o.dict = none)
    (hq : ∀ h' tk', h'.get? x = some { o with dict := some h.objs.size } → h'.Ns1 h.objs.size (fun y => if y = name then some v else none) →
      (∀ b u, b ≠ x → h.get? b = some u → h'.get? b = some u) → Q () ⟨h', g, d, tk', os⟩) :
    wpAny (model prog w) A (setAttr (.ref x) name v) Q E ⟨h, g, d, t, os⟩ := by
  have f3 := SF.slot.bind (.ref x)
  unfold setAttr callSpecial? specialOf
  repeat (any_goals (first | assumption | (with_reducible refine wpAny_loadPart_at hx ?_; rw [hc]) | (with_reducible refine wpAny_typeLookup_exc hC hn SF.mro SF.slot.lookup ?_; rw [hns]) | wp_step))
  refine codeAny_call_builtin SF.slot.plain SF.entry (wpAny_check_sa SF hC hx hc (first_entry SF hC hn hna hB hx hc hnc hdn fun h' tk' a1 a2 a3 => ?_))
  repeat (any_goals (first | assumption | wp_step))
  exact hq h' tk' a1 a2 a3
end
end XE
namespace L2
open PySem PySem.Spec PyProof.Rows XE
structure Fl (P : Program) (w : World) (l st : List Env) (H0 : Hp) (s0 : Shared) (ea C t : Addr) (dc : Option Addr) (fl : Value) (H' : Hp) (B : Heap) (s' : Shared) : Prop where
  os : s'.os = s0.os
  bare : AllBare s'.gens
  un : Un (frs l) [] H0 H' s0.heap s'.heap
  ok : HOk P w H' B
  inB : ∀ b o, s0.heap.get? b = some o → b ∉ frs l → ∃ o', B.get? b = some o'
  kpB : ∀ b o, s0.heap.get? b = some o → H0 b = none → b ∉ frs l → B.get? b = some o
  new : s0.heap.objs.size ≤ ea
  fre : H' ea = none
  sta : B.StaysIn s'.heap
  hid : B.get? ea = none
  ff : s'.heap.FunFrames B st
  tr : s'.heap.TracedAtW B ea (.ref C) (.ref t) fl
  dct : ∃ oe, s'.heap.get? ea = some oe ∧ oe.dict = dc
noncomputable def CXE (P : Program) (w : World) : CXT := fun outer H s E e s' => ∃ (ea C t : Addr) (dc : Option Addr) (H' : Hp) (B : Heap), e = .ref ea ∧ Fl P w outer outer H s ea C t dc .none H' B s' ∧ E (.ref C) dc H'
section
variable {P : Program} {w : World} {l st st' : List Env} {H0 H' : Hp} {s0 s' : Shared} {ea C t : Addr} {dc : Option Addr} {fl fl' : Value} {B h2 : Heap}
theorem dict_of {h h' : Heap} {a : Addr} {dc : Option Addr} (r : DR h h') (x : ∃ oe, h.get? a = some oe ∧ oe.dict = dc) : ∃ oe, h'.get? a = some oe ∧ oe.dict = dc := by
  obtain ⟨oe, e, d⟩ := x
  obtain ⟨o2, e2, d2, _⟩ := r a oe e
  exact ⟨o2, e2, d2.trans d⟩
theorem Fl.move (F : Fl P w l st H0 s0 ea C t dc fl H' B s') (hl : ∀ b ∈ frs l, b ∈ frs st) (k : B.StaysIn h2) (up : s'.heap.UpToSlots h2) (ff : h2.FunFrames B st') (tr : h2.TracedAtW B ea (.ref C) (.ref t) fl') (dr : DR s'.heap h2) :
    Fl P w l st' H0 s0 ea C t dc fl' H' B { s' with heap := h2 } := by
  have fr : ∀ b, b ∈ frs l → ∃ o, s'.heap.get? b = some o ∧ ∀ vs, o.data ≠ .fields vs := fun b hb => (F.ff.mem (hl b hb)).2
  refine ⟨F.os, F.bare, ⟨fun b o e n hb _ => k b o (F.kpB b o e n hb), fun b o e n hb hx => ?_, F.un.free, fun b o e hx => ?_, F.un.tups, F.un.frzs, F.un.tbls⟩, F.ok, F.inB, F.kpB, F.new, F.fre, k, F.hid, ff, tr, dict_of dr F.dct⟩
  · obtain ⟨sl, e1⟩ := F.un.slot b o e n hb hx
    obtain ⟨o1, e2, nf⟩ := fr b hb
    rw [e1] at e2
    cases e2
    obtain ⟨sl2, e3⟩ := up b _ e1 nf
    exact ⟨sl2, e3⟩
  · by_cases hb : b ∈ frs l
    · obtain ⟨o1, e2, nf⟩ := fr b hb
      obtain ⟨sl2, e3⟩ := up b _ e2 nf
      exact ⟨_, e3⟩
    · obtain ⟨o', e'⟩ := F.inB b o e hb
      exact ⟨o', k b o' e'⟩
theorem tail_ff {h B : Heap} {env : Env} {l : List Env} (x : h.FunFrames B (env :: l)) : h.FunFrames B l := x.2.2
theorem leaving_at {M : Model} {A : Around} {E : Value → Shared → Prop} {s : Shared} {env : Env} {outer : List Env} {L e : Addr} {cls a0 fl : Value} {Q : Unit → Shared → Prop}
    (hfr : A.frames = some (env :: outer)) (hf : env.frame = some L) (ff : s.heap.FunFrames B (env :: outer)) (tr : s.heap.TracedAtW B e cls a0 fl) (k : B.StaysIn s.heap) (hid : B.get? e = none)
    (hQ : ∀ h', B.StaysIn h' → h'.FunFrames B outer → h'.TracedAtW B e cls a0 .none → s.heap.UpToSlots h' → Q () { s with heap := h' }) : wpAny M A (leaving env (.ref e)) Q E s := by
  by_cases q : fl = rawInt L
  · subst q
    unfold leaving
    refine wpAny_bind (wpAny_noteFrame_againW hf tr ?_)
    exact wpAny_landsW ⟨k, hid, ff, tr⟩ fun h' ⟨k1, _, k3, k4⟩ up => hQ h' k1 (tail_ff k3) k4 up
  · obtain ⟨oe, vs, T, oT, ts, he, ⟨hcls, h0⟩, hd, h1, hnT, hTe, hT, hdT, h3⟩ := tr
    subst hcls
    unfold leaving noteFrame
    simp only [hf]
    refine wpAny_bind (wpAny_bind (wpAny_field he hd h1 ?_))
    rw [if_pos (show (Value.ref T != Value.none) = true from by simp)]
    refine wpAny_bind (wpAny_field hT hdT h3 ?_)
    rw [if_neg (show ¬ ((fl == rawInt L) = true) from fun z => q (eq_of_beq z))]
    refine wpAny_bind (wpAny_setField hT hdT (Array.getElem?_eq_some_iff.mp h3).1 ?_)
    have oth : ∀ b, b ≠ T → (s.heap.update T (Obj.mapFields (·.setIfInBounds 3 Value.none))).get? b = s.heap.get? b := fun b hb => Heap.get?_update_other _ _ (Ne.symm hb)
    have nr : ∀ b o, s.heap.get? b = some o → (∀ vs, o.data ≠ .fields vs) → b ≠ T := fun b o hb hnf z => by
      rw [z, hT] at hb
      cases hb
      exact hnf ts hdT
    refine wpAny_newEntryW hfr (ff.of_keeps fun b o hb hnf => ⟨o, (oth b (nr b o hb hnf)).trans hb, rfl⟩) hf ((oth e (Ne.symm hTe)).trans he)
      (fun b o hbo => (oth b fun z => by rw [z, hnT] at hbo; cases hbo).trans (k b o hbo)) hid hd (Array.getElem?_eq_some_iff.mp h1).1 h0 fun h' ⟨x1, x2, x3, x4⟩ => ?_
    exact hQ h' x1 (tail_ff x2) x3 fun b o hb hnf => x4 b o ((oth b (nr b o hb hnf)).trans hb) hnf
theorem frs_cons {env : Env} {l : List Env} {b : Addr} (h : b ∈ frs l) : b ∈ frs (env :: l) := by
  unfold frs at h ⊢
  rw [List.filterMap_cons]
  cases env.frame with
  | none => exact h
  | some L => exact List.mem_cons_of_mem _ h
theorem Fl.leave {M : Model} {A : Around} {E : Value → Shared → Prop} {env : Env} {L : Addr} (F : Fl P w l (env :: l) H0 s0 ea C t dc fl H' B s') (hfr : A.frames = some (env :: l)) (hf : env.frame = some L) :
    wpAny M A (leaving env (.ref ea)) (fun _ s2 => Fl P w l l H0 s0 ea C t dc .none H' B s2) E s' := by
  refine wpAny_mono ((kd_leaving env (.ref ea)).any (leaving_at (Q := fun _ s2 => ∃ h2, s2 = { s' with heap := h2 } ∧ B.StaysIn h2 ∧ h2.FunFrames B l ∧ h2.TracedAtW B ea (.ref C) (.ref t) .none ∧ s'.heap.UpToSlots h2)
    hfr hf F.ff F.tr F.sta F.hid fun h2 a b c d => ⟨h2, rfl, a, b, c, d⟩)) (fun _ s2 h => ?_) fun _ _ z => z
  obtain ⟨⟨h2, rfl, a, b, c, d⟩, r⟩ := h
  exact F.move (fun b hb => frs_cons hb) a d b c r
end
theorem Fl.up0 {P : Program} {w : World} {l st : List Env} {H0 H H' : Hp} {s0 s s' : Shared} {ea C t : Addr} {dc : Option Addr} {fl : Value} {B : Heap} (U1 : Un (frs l) [] H0 H s0.heap s.heap) (nin : ∀ b o, s0.heap.get? b = some o → b ∉ frs l → b ∉ frs st) (hos : s.os = s0.os) (hsz : s0.heap.objs.size ≤ s.heap.objs.size)
    (F : Fl P w st st H s ea C t dc fl H' B s') : Fl P w l st H0 s0 ea C t dc fl H' B s' := by
  refine ⟨F.os.trans hos, F.bare, ⟨fun b o e n hb _ => ?_, fun b o e n hb _ => ?_, fun b o e n _ => ?_, fun b o e _ => ?_, fun b xs e => F.un.tups b xs (U1.tups b xs e), fun b o u e => F.un.frzs b o u (U1.frzs b o u e), fun b ps e => ?_⟩, F.ok, fun b o e hb => ?_, fun b o e n hb => ?_,
    Nat.le_trans hsz F.new, F.fre, F.sta, F.hid, F.ff, F.tr, F.dct⟩
  · exact F.sta b o (F.kpB b o (U1.keep b o e n hb (by simp)) (U1.free b o e n (by simp)) (nin b o e hb))
  · obtain ⟨sl, e1⟩ := U1.slot b o e n hb (by simp)
    obtain ⟨sl2, e2⟩ := F.un.any e1 (U1.free b o e n (by simp)) (by simp)
    exact ⟨sl2, e2⟩
  · obtain ⟨o', e1⟩ := U1.there b o e (by simp)
    exact F.un.free b o' e1 (U1.free b o e n (by simp)) (by simp)
  · obtain ⟨o', e1⟩ := U1.there b o e (by simp)
    exact F.un.there b o' e1 (by simp)
  · obtain ⟨m1, e1⟩ := U1.tbls b ps e
    obtain ⟨m2, e2⟩ := F.un.tbls b _ e1
    exact ⟨m1 ++ m2, by rw [e2, Array.append_assoc]⟩
  · obtain ⟨o', e1⟩ := U1.there b o e (by simp)
    exact F.inB b o' e1 (nin b o e hb)
  · exact F.kpB b o (U1.keep b o e n hb (by simp)) (U1.free b o e n (by simp)) (nin b o e hb)
theorem Inv.nin {X : Cx} {pins : List (Addr × Obj)} {σ : St} {H : Hp} {s : Shared} (I : Inv X pins σ H s) : ∀ b o, X.s_0.heap.get? b = some o → b ∉ frs X.outer → b ∉ frs X.stack := fun b o e hb z => by
  rcases List.mem_cons.mp (I.stkSub b z) with q | q
  · subst q
    exact absurd (Nat.lt_of_lt_of_le (Heap.lt_size e) I.ok.above) (Nat.lt_irrefl _)
  · exact hb q
theorem Fl.up {X : Cx} {pins : List (Addr × Obj)} {σ : St} {H H' : Hp} {s s' : Shared} {ea C t : Addr} {dc : Option Addr} {fl : Value} {B : Heap} (I : Inv X pins σ H s) (hex : X.ex = []) (F : Fl X.prog X.w X.stack X.stack H s ea C t dc fl H' B s') :
    Fl X.prog X.w X.outer X.stack X.H_0 X.s_0 ea C t dc fl H' B s' :=
  F.up0 (by rw [← hex]; exact I.base) I.nin I.os I.sz
noncomputable def Lets (X : Cx) (E : XK) : Prop := X.A.frames = some X.stack → ∀ (ea C t : Addr) (dc : Option Addr) (fl : Value) (H' : Hp) (B : Heap) (s' : Shared), Fl X.prog X.w X.outer X.stack X.H_0 X.s_0 ea C t dc fl H' B s' → E (.ref C) dc H' → X.xe (.ref ea) s'
theorem Lets.passes {X : Cx} {E : XK} (L : Lets X E) (hex : X.ex = []) : Passes (CXE X.prog X.w) X E := fun pins σ H s e s' I hw => by
  obtain ⟨ea, C, t, dc, H', B, he, F, q⟩ := hw
  subst he
  exact L I.ok.frames ea C t dc .none H' B s' (F.up I hex) q
end L2
namespace L2
open PySem PySem.Spec PyProof.Rows XE
noncomputable abbrev BMX : List Value := [.type "Exception", .type "BaseException", .type "object"]
noncomputable def excInit (K : PySem.W.Frag) (C fI : Addr) : Bool := match K.lookup C with
  | some ⟨.type "type", _, .cls cd, sl⟩ => (match sl.toList with
    | [_, _, _, _, some (.builtin n), _] => n == "Exception.__new__" && (cd.mro == Value.ref C :: BMX && (!cd.hasDel && (cd.hasDict && (PySem.W.nsOkIn K cd.ns && (PySem.W.nsIn K cd.ns "__init__" == some (some (Value.ref fI)) &&
        (PySem.W.nsIn K cd.ns "__setattr__" == some none && (PySem.W.nsIn K cd.ns "__getattribute__" == some none && PySem.W.nsIn K cd.ns "__getattr__" == some none)))))))
    | _ => false)
  | _ => false
noncomputable def noX (K : PySem.W.Frag) (C : Addr) (f : Str) : Bool := match K.lookup C with
  | some ⟨_, _, .cls cd, _⟩ => PySem.W.nsIn K cd.ns f == some none
  | _ => false
structure XC (K : PySem.W.Frag) (C fI : Addr) : Prop where
  ok : excInit K C fI = true
  fn : PySem.W.typeIn K (.ref fI) = some (.type "function")
  kp : PySem.W.keepIn K (.ref C) = true
structure XA (K : PySem.W.Frag) (C : Addr) (f : Str) : Prop where
  no : noX K C f = true
  lk : typeLookup (.type "Exception") f = pure none
structure XAt (h : Heap) (K : PySem.W.Frag) (C fI N : Addr) (mN : Str → Option Value) (oC oI : Obj) : Prop where
  lk : K.lookup C = some oC
  obj : h.get? C = some oC
  shp : ∃ nm q bs sn sub ab col dd k0 k1 k2 k3 k5, oC = excClassObj nm q C N bs BMX true sn sub ab col dd k0 k1 k2 k3 k5 "Exception.__new__"
  ns : h.Ns N mN
  ini : mN "__init__" = some (.ref fI)
  sa : mN "__setattr__" = none
  ga : mN "__getattribute__" = none
  gt : mN "__getattr__" = none
  fob : h.get? fI = some oI
  fcl : oI.cls = .type "function"
  no : ∀ f, noX K C f = true → mN f = none
theorem ns_at {K : PySem.W.Frag} {h : Heap} {N : Addr} {mN : Str → Option Value} {n : Str} {v : Value} (X : K.In h) (G : h.Ns N mN) (e : PySem.W.nsIn K N n = some (some v)) : mN n = some v := by
  obtain ⟨o, es, ep, ho, hd, _, hf⟩ := G
  unfold PySem.W.nsIn at e
  split at e
  · rename_i q
    have z := (X _ _ q).symm.trans ho
    cases z
    cases hd
    split at e
    · rename_i he
      cases e
      rw [← hf]
      unfold nsFind findBy
      rw [← Array.find?_toList, he]
      rfl
    · split at e <;> cases e
  · cases e
theorem XC.at {K : PySem.W.Frag} {C fI : Addr} {h : Heap} (x : XC K C fI) (X : K.In h) : ∃ N mN oC oI, XAt h K C fI N mN oC oI := by
  have q := x.ok
  unfold excInit at q
  split at q
  · rename_i dd cd sl ho
    split at q
    · rename_i k0 k1 k2 k3 n k5 hs
      simp only [Bool.and_eq_true, beq_iff_eq, Bool.not_eq_true'] at q
      obtain ⟨rfl, hm, hdel, hdict, hok, hi, h1, h2, h3⟩ := q
      obtain ⟨oI, hoI, hcI⟩ := Option.map_eq_some_iff.mp x.fn
      obtain ⟨nm, bs, mro, ns, qn, hd, sn, sub, ab, col, del⟩ := cd
      dsimp only at hm hdel hok hdict hi h1 h2 h3
      subst hm hdel hdict
      have hsl : sl = #[k0, k1, k2, k3, some (.builtin "Exception.__new__"), k5] := by
        obtain ⟨l⟩ := sl
        simp only at hs
        rw [hs]
      subst hsl
      have G : h.Ns ns (h.nsMap ns) := .of_isNs (PySem.W.isNs_of_in X hok)
      refine ⟨ns, h.nsMap ns, _, oI, ho, X _ _ ho, ⟨nm, qn, bs, sn, sub, ab, col, dd, k0, k1, k2, k3, k5, rfl⟩, G, ns_at X G hi, PySem.W.ns_none_of X G h1, PySem.W.ns_none_of X G h2, PySem.W.ns_none_of X G h3, X _ _ hoI, hcI, fun f hf => ?_⟩
      unfold noX at hf
      rw [ho] at hf
      exact PySem.W.ns_none_of X G (beq_iff_eq.mp hf)
    · cases q
  · cases q
noncomputable abbrev excB (C t : Addr) (dc : Option Addr) : Obj := { cls := .ref C, dict := dc, data := .fields #[.ref t, .none, .none, .none, .bool false, .none] }
noncomputable def excV (e C t : Addr) (dc : Option Addr) : HO := .ext fun h => h.get? e = some (excB C t dc)
noncomputable def xdV (d : Addr) (fs : List (Str × V)) : HO := .ext fun h => ∃ mA, h.Ns1 d mA ∧ ∀ f, RelO (fs.lookup f) (mA f)
noncomputable def catV (e C d : Addr) : HO := .ext fun h => ∃ oe vs, h.get? e = some oe ∧ oe.cls = .ref C ∧ oe.dict = some d ∧ oe.data = .fields vs
theorem excV_ok {P : Program} {w : World} {H : Hp} {h : Heap} {e C t : Addr} {dc : Option Addr} (x : h.get? e = some (excB C t dc)) : ObjOk P w H h e (excV e C t dc) := ⟨x, ⟨_, x⟩, fun _ _ a k => k _ a⟩
theorem xdV_ok {P : Program} {w : World} {H : Hp} {h : Heap} {d : Addr} {fs : List (Str × V)} {mA : Str → Option Value} (x : h.Ns1 d mA) (r : ∀ f, RelO (fs.lookup f) (mA f)) : ObjOk P w H h d (xdV d fs) := by
  obtain ⟨o, _, _, e, _⟩ := id x
  refine ⟨⟨mA, x, r⟩, ⟨o, e⟩, fun h1 h2 ⟨m, n, q⟩ k => ⟨m, ?_, q⟩⟩
  obtain ⟨o, es, ep, e, c⟩ := n
  exact ⟨o, es, ep, k _ e, c⟩
theorem catV_ok {P : Program} {w : World} {H : Hp} {h : Heap} {e C d : Addr} {oe : Obj} {vs : Array Value} (x : h.get? e = some oe) (c : oe.cls = .ref C) (q : oe.dict = some d) (z : oe.data = .fields vs) : ObjOk P w H h e (catV e C d) :=
  ⟨⟨oe, vs, x, c, q, z⟩, ⟨_, x⟩, fun _ _ ⟨o, v, a, r⟩ k => ⟨o, v, k _ a, r⟩⟩
theorem within_of {fs : List (Str × V)} {mA : Str → Option Value} (r : ∀ f, RelO (fs.lookup f) (mA f)) : PySem.Within mA (fs.map (·.1)) := fun y hy => by
  have q := r y
  cases e : fs.lookup y with
  | none =>
    rw [e] at q
    exact absurd (RelO.none_of q) hy
  | some v => exact List.mem_map.mpr ⟨(y, v), PySem.mem_of_lookup e, rfl⟩
noncomputable def cutH (H : Hp) (e : Addr) : Hp := fun b => if b = e then none else H b
theorem cutH_same {H : Hp} {e : Addr} : cutH H e e = none := by unfold cutH; rw [if_pos rfl]
theorem cutH_ne {H : Hp} {e b : Addr} (h : b ≠ e) : cutH H e b = H b := by unfold cutH; rw [if_neg h]
section
variable {P : Program} {w : World} {H : Hp} {h h' : Heap} {x d : Addr} {o1 o2 : HO}
theorem mut_ne {b : Addr} {u : HO} (hx : Mut (H x)) (q : H b = some u) (n : ¬ Mut (some u)) : b ≠ x := fun z => by subst z; rw [q] at hx; exact n hx
theorem mut_free {b : Addr} (hx : Mut (H x)) (q : H b = none) : b ≠ x := fun z => by subst z; rw [q] at hx; exact hx
theorem Un.two {fs ex : List Addr} (hx : Mut (H x)) (k : ∀ b u, b ≠ x → h.get? b = some u → h'.get? b = some u) (hxo : ∃ u, h'.get? x = some u) (hp : h.objs.size ≤ d) (hd : H d = none) : Un fs ex H (upd (upd H d o1) x o2) h h' := by
  have nd : ∀ b u, H b = some u → b ≠ d := fun b u q => ne_of_none q hd
  refine ⟨fun b u q n _ _ => k b u (mut_free hx n) q, fun b u q n _ _ => ⟨u.slots, k b u (mut_free hx n) q⟩, fun b u q n _ => ?_, fun b u q _ => ?_, fun b xs q => ?_, fun b u xs q => ?_, fun b ps q => ⟨#[], ?_⟩⟩
  · rw [upd_ne (mut_free hx n), upd_ne (Nat.ne_of_lt (Nat.lt_of_lt_of_le (Heap.lt_size q) hp))]
    exact n
  · by_cases z : b = x
    · subst z; exact hxo
    · exact ⟨u, k b u z q⟩
  · rw [upd_ne (mut_ne hx q fun z => z), upd_ne (nd _ _ q)]; exact q
  · rw [upd_ne (mut_ne hx q fun z => z), upd_ne (nd _ _ q)]; exact q
  · rw [upd_ne (mut_ne hx q fun z => z), upd_ne (nd _ _ q), q]; simp
theorem HOk.two (ok : HOk P w H h) (hx : Mut (H x)) (k : ∀ b u, b ≠ x → h.get? b = some u → h'.get? b = some u) (hp : h.objs.size ≤ d) (n1 : ObjOk P w (upd (upd H d o1) x o2) h' d o1) (n2 : ObjOk P w (upd (upd H d o1) x o2) h' x o2) : HOk P w (upd (upd H d o1) x o2) h' := fun b u q => by
  have hd : H d = none := ok.fresh hp
  by_cases hb : b = x
  · subst hb
    rw [upd_same] at q
    cases q
    exact n2
  · rw [upd_ne hb] at q
    by_cases hbd : b = d
    · subst hbd
      rw [upd_same] at q
      cases q
      exact n1
    · rw [upd_ne hbd] at q
      have own : ∀ c, H c = some (.own b) → c ≠ x ∧ c ≠ d := fun c r => ⟨mut_ne hx r fun z => z, ne_of_none r hd⟩
      refine (ok b u q).stay (fun c v hc r => k c v ?_ r) (fun c r => by rw [upd_ne (own c r).1, upd_ne (own c r).2]; exact r) fun c xs r => by rw [upd_ne (mut_ne hx r fun z => z), upd_ne (ne_of_none r hd)]; exact r
      rcases hc with rfl | hc
      · exact hb
      · exact (own c hc).1
end
section
variable {X : Cx} {pins : List (Addr × Obj)} {σ : St} {H : Hp} {s : Shared} {e C fI t d : Addr} {fs : List (Str × V)} {f : Str} {y : V} {u : Value}
theorem xset0_ok {A : Around} {E : Value → Shared → Prop} {Q : Unit → Shared → Prop} (I : Inv X pins σ H s) (he : H e = some (excV e C t none)) (c : XC X.K C fI) (a : XA X.K C f) (ry : RelV y u)
    (h : ∀ d s', H d = none → Inv X pins σ (upd (upd H d (xdV d [(f, y)])) e (excV e C t (some d))) s' → Q () s') : wpAny (model X.prog X.w) A (setAttr (.ref e) f u) Q E s := by
  obtain ⟨N, mN, oC, oI, z⟩ := c.at I.kIn
  obtain ⟨nm, q, bs, sn, sub, ab, col, dd, k0, k1, k2, k3, k5, rfl⟩ := z.shp
  obtain ⟨hx, _, _⟩ := (show ObjOk X.prog X.w H s.heap e (excV e C t none) from I.hok e _ he)
  obtain ⟨hh, g, dr, tk, os⟩ := s
  refine first_attr PySem.F.store_Exception z.obj z.ns z.sa (z.no f a.no) a.lk hx rfl (fun c => by simp) rfl fun h' tk' g1 ns kp => ?_
  have hp : hh.objs.size ≤ hh.objs.size := Nat.le_refl _
  have fr : H hh.objs.size = none := I.hok.fresh hp
  have mu : Mut (H e) := by rw [he]; trivial
  refine h hh.objs.size _ fr (I.un (t' := tk') (Un.two mu kp ⟨_, g1⟩ hp fr) (I.hok.two mu kp hp (xdV_ok ns fun g => ?_) (excV_ok g1)))
  show RelO (List.lookup g [(f, y)]) (if g = f then some u else none)
  by_cases z : g = f
  · subst z
    have zb : (g == g) = true := beq_iff_eq.mpr rfl
    simp only [List.lookup, zb, if_true]
    exact ry
  · have zb : (g == f) = false := beq_eq_false_iff_ne.mpr z
    simp only [List.lookup, zb, if_neg z]
    trivial
theorem xset_ok {A : Around} {E : Value → Shared → Prop} {Q : Unit → Shared → Prop} (I : Inv X pins σ H s) (he : H e = some (excV e C t (some d))) (hd : H d = some (xdV d fs)) (hl : fs.length < 1000) (c : XC X.K C fI) (a : XA X.K C f) (ry : RelV y u)
    (h : ∀ s', Inv X pins σ (upd H d (xdV d (putF f y fs))) s' → Q () s') : wpAny (model X.prog X.w) A (setAttr (.ref e) f u) Q E s := by
  obtain ⟨N, mN, oC, oI, z⟩ := c.at I.kIn
  obtain ⟨nm, q, bs, sn, sub, ab, col, dd, k0, k1, k2, k3, k5, rfl⟩ := z.shp
  obtain ⟨hx, _, _⟩ := (show ObjOk X.prog X.w H s.heap e (excV e C t (some d)) from I.hok e _ he)
  obtain ⟨⟨mA, hA, rA⟩, _, _⟩ := (show ObjOk X.prog X.w H s.heap d (xdV d fs) from I.hok d _ hd)
  obtain ⟨hh, g, dr, tk, os⟩ := s
  have eC : e ≠ C := fun w' => by
    subst w'
    have := z.obj
    rw [hx] at this
    cases this
  have de : d ≠ e := fun w' => by
    subst w'
    obtain ⟨o, es, ep, e1, e2, _⟩ := hA
    rw [hx] at e1
    cases e1
    cases e2
  have In : hh.Inst e C mA := ⟨_, hx, rfl, fun c => by simp, .inr ⟨d, rfl, de, hA⟩⟩
  have hz : (fs.map (·.1)).length ≤ sizeLine := by rw [List.length_map, sizeLine_eq]; lia
  refine store_attr PySem.F.store_Exception z.obj z.ns z.sa (z.no f a.no) a.lk eC In (fun h' tk' In' keep same => ?_) (ns := fs.map (·.1)) (within_of rA) hz
  obtain ⟨o1, g1, c1, d1, s1, dk⟩ := same _ hx
  obtain ⟨o2, g2, _, _, dz⟩ := In'
  rw [g1] at g2
  cases g2
  have hd1 : o1.dict = some d := dk d rfl
  rcases dz with ⟨z1, _⟩ | ⟨d', hd', ne, ns⟩
  · rw [hd1] at z1; cases z1
  · rw [hd1] at hd'
    cases hd'
    obtain rfl : o1 = excB C t (some d) := by
      obtain ⟨oc, od, odt, osl⟩ := o1
      cases c1
      cases d1
      cases s1
      cases hd1
      rfl
    have kp : ∀ b o, b ≠ d → hh.get? b = some o → h'.get? b = some o := fun b o hb q => by
      by_cases zz : b = e
      · subst zz
        have q : hh.get? b = some o := q
        rw [hx] at q
        cases q
        exact g1
      · refine keep b o zz (fun o0 dx q1 q2 => ?_) q
        have q1 : hh.get? e = some o0 := q1
        rw [hx] at q1
        cases q1
        cases q2
        exact hb
    have mu : Mut (H d) := by rw [hd]; trivial
    obtain ⟨od, _, _, eod, _⟩ := id ns
    refine h _ (I.write (t' := tk') mu (.inl rfl) kp ⟨od, eod⟩ (xdV_ok ns fun g => ?_))
    show RelO ((putF f y fs).lookup g) (if g = f then some u else mA g)
    rw [lookup_putF]
    by_cases z : g = f
    · rw [if_pos z, if_pos z]; exact ry
    · rw [if_neg z, if_neg z]; exact rA g
theorem xget_ok {A : Around} {E : Value → Shared → Prop} {b : Bool} {Q : Value → Shared → Prop} {v : V} (I : Inv X pins σ H s) (he : H e = some (catV e C d)) (hd : H d = some (xdV d fs)) (c : XC X.K C fI) (a : XA X.K C f) (hl : fs.lookup f = some v)
    (h : ∀ u s', Inv X pins σ H s' → RelV v u → Q u s') : wpAny (model X.prog X.w) A (getAttr (.ref e) f b) Q E s := by
  obtain ⟨N, mN, oC, oI, z⟩ := c.at I.kIn
  obtain ⟨nm, q, bs, sn, sub, ab, col, dd, k0, k1, k2, k3, k5, rfl⟩ := z.shp
  obtain ⟨⟨oe, vs, hx, hc, hdd, hda⟩, _, _⟩ := (show ObjOk X.prog X.w H s.heap e (catV e C d) from I.hok e _ he)
  obtain ⟨⟨mA, hA, rA⟩, _, _⟩ := (show ObjOk X.prog X.w H s.heap d (xdV d fs) from I.hok d _ hd)
  obtain ⟨u, hu, ru⟩ := RelO.some_of (v := v) (o := mA f) (by rw [← hl]; exact rA f)
  have It := fun t => I.tok t
  obtain ⟨hh, g, dr, tk, os⟩ := s
  exact get_exc PySem.F.attrBase_Exception z.obj z.ns z.ga z.gt (z.no f a.no) a.lk hx hc (fun c => by rw [hda]; simp) hdd hA.ns hu (PySem.W.handedOut_of (handed_of ru)) (h u _ (It _) ru)
end
noncomputable def sX0 (K : PySem.W.Frag) (ta tv : TE) (f : Str) : TS := fun D σ H => tv σ H fun y H1 => ta σ H1 fun x H2 => ∃ e C t fI, x = .ref e ∧ H2 e = some (excV e C t none) ∧ XC K C fI ∧ XA K C f ∧ ∀ d, H2 d = none → D.nx σ (upd (upd H2 d (xdV d [(f, y)])) e (excV e C t (some d)))
noncomputable def sX1 (K : PySem.W.Frag) (ta tv : TE) (f : Str) : TS := fun D σ H => tv σ H fun y H1 => ta σ H1 fun x H2 => ∃ e C t fI d fs, x = .ref e ∧ H2 e = some (excV e C t (some d)) ∧ H2 d = some (xdV d fs) ∧ fs.length < 1000 ∧ XC K C fI ∧ XA K C f ∧ D.nx σ (upd H2 d (xdV d (putF f y fs)))
noncomputable def tFldX (K : PySem.W.Frag) (ta : TE) (f : Str) : TE := fun σ H Q => ta σ H fun x H1 => ∃ e C d fs v fI, x = .ref e ∧ H1 e = some (catV e C d) ∧ H1 d = some (xdV d fs) ∧ XC K C fI ∧ XA K C f ∧ fs.lookup f = some v ∧ Q v H1
section
variable {X : Cx} {o e value : Expr} {f : Str} {pos pos' : Pos} {ta tv : TE}
theorem ps_x0 (ha : PE X o ta) (hv : PE X value tv) (hs : swapsWith value (some (.Attribute o f pos')) pos.line X.env = pure false) : PS X (.Assign [.Attribute o f pos'] value pos) (sX0 X.K ta tv f) := by
  intro pins s σ H D I h
  refine plainObj_wpAny_Assign_Attribute (thn (hv pins s σ H _ I h) fun u s1 ⟨y, H1, I1, ry, q⟩ => thn (ha pins s1 σ H1 _ I1 q) fun ov s2 hz33 => ?_) hs
  obtain ⟨x, H2, I2, rx, e, C, t, fI, ex, ee, c, a, q2⟩ := hz33
  subst ex
  obtain rfl : ov = Value.ref e := rx
  exact xset0_ok I2 ee c a ry fun d s3 hd I3 => ⟨σ, _, I3, q2 d hd⟩
theorem ps_x1 (ha : PE X o ta) (hv : PE X value tv) (hs : swapsWith value (some (.Attribute o f pos')) pos.line X.env = pure false) : PS X (.Assign [.Attribute o f pos'] value pos) (sX1 X.K ta tv f) := by
  intro pins s σ H D I h
  refine plainObj_wpAny_Assign_Attribute (thn (hv pins s σ H _ I h) fun u s1 ⟨y, H1, I1, ry, q⟩ => thn (ha pins s1 σ H1 _ I1 q) fun ov s2 hz34 => ?_) hs
  obtain ⟨x, H2, I2, rx, e, C, t, fI, d, fs, ex, ee, ed, l, c, a, q2⟩ := hz34
  subst ex
  obtain rfl : ov = Value.ref e := rx
  exact xset_ok I2 ee ed l c a ry fun s3 I3 => ⟨σ, _, I3, q2⟩
theorem pe_fldX (he : PE X e ta) (hb : attributeBase e f X.env (eval e X.env) = eval e X.env) : PE X (.Attribute e f pos) (tFldX X.K ta f) := by
  intro pins s σ H Q I h
  refine attr_of hb (thn (he pins s σ H _ I h) fun u s1 hz35 => ?_)
  obtain ⟨x, H1, I1, rx, a, C, d, fs, v, fI, ex, ea, ed, c, n, l, q⟩ := hz35
  subst ex
  obtain rfl : u = Value.ref a := rx
  exact xget_ok I1 ea ed c n l fun u' s2 I2 ru => ⟨v, H1, I2, ru, q⟩
end
end L2
namespace L2
open PySem PySem.Spec PyProof.Rows XE
noncomputable def Throws (X : Cx) (E : XK) : Prop := ∀ (pins : List (Addr × Obj)) (σ : St) (H : Hp) (s : Shared) (ea C t d : Addr), Inv X pins σ H s → X.s_0.heap.objs.size ≤ ea → H ea = some (excV ea C t (some d)) → E (.ref C) (some d) (cutH H ea) → X.xe (.ref ea) s
theorem HOk.hide {P : Program} {w : World} {H : Hp} {h : Heap} {e : Addr} {φ : Heap → Prop} {l : List Addr} (ok : HOk P w H h) (he : H e = some (.ext φ)) (hl : ∀ b ∈ l, H b = none) : HOk P w (cutH H e) (PySem.W.hideAll h (e :: l)) := fun b u q => by
  have nb : b ≠ e := fun z => by subst z; rw [cutH_same] at q; cases q
  rw [cutH_ne nb] at q
  have own : ∀ c, H c = some (.own b) → c ≠ e := fun c r => ne_of r he (by intro z; cases z)
  have tup : ∀ c xs, H c = some (.tup xs) → c ≠ e := fun c xs r => ne_of r he (by intro z; cases z)
  refine (ok b u q).stay (fun c v hc r => PySem.W.hideAll_get _ r fun hm => ?_) (fun c r => by rw [cutH_ne (own c r)]; exact r) fun c xs r => by rw [cutH_ne (tup c xs r)]; exact r
  rcases List.mem_cons.mp hm with z | z
  · rcases hc with hc | hc
    · exact nb (hc.symm.trans z)
    · exact own c hc z
  · have n := hl c z
    rcases hc with hc | hc
    · rw [hc, q] at n; cases n
    · rw [hc] at n; cases n
theorem throws_cx {P : Program} {w : World} {K : PySem.W.Frag} {mg : Str → Option Value} {base : Heap} {N : List Str} {qual : Str} {scope : Scope} {f : Addr} {cd : Value} {A : Around} {outer : List Env} {s0 : Shared} {H0 : Hp} {E : XK} :
    Throws (cxOf (CXE P w) P w K mg base N qual scope f cd A outer s0 H0 E) E := by
  intro pins σ H s ea C t d I new he hE
  have new : s0.heap.objs.size ≤ ea := new
  obtain ⟨hx, _, _⟩ := (show ObjOk P w H s.heap ea (excV ea C t (some d)) from I.hok ea _ he)
  have U1 : Un (frs outer) [] H0 H s0.heap s.heap := I.base
  have sF : ∀ b ∈ frs (envOfC qual scope s0.heap.objs.size f cd :: outer), H b = none := I.stkFree
  have sS : ∀ b ∈ frs (envOfC qual scope s0.heap.objs.size f cd :: outer), b ∈ s0.heap.objs.size :: frs outer := I.stkSub
  have stk : s.heap.FunFrames base (envOfC qual scope s0.heap.objs.size f cd :: outer) := I.stack
  have hfr : (A.deeper (envOfC qual scope s0.heap.objs.size f cd)).frames = some (envOfC qual scope s0.heap.objs.size f cd :: outer) := I.ok.frames
  have okh : HOk P w H s.heap := I.hok
  have hos : s.os = s0.os := I.os
  have hba : AllBare s.gens := I.bare
  show wpAny (model P w) (A.deeper (envOfC qual scope s0.heap.objs.size f cd)) (leaving (envOfC qual scope s0.heap.objs.size f cd) (.ref ea)) (fun _ s2 => CXE P w outer H0 s0 E (.ref ea) s2) (fun e' s2 => CXE P w outer H0 s0 E e' s2) s
  have hf : (envOfC qual scope s0.heap.objs.size f cd).frame = some s0.heap.objs.size := rfl
  generalize envOfC qual scope s0.heap.objs.size f cd = env at *
  generalize hB : PySem.W.hideAll s.heap (ea :: frs (env :: outer)) = B
  have st : B.StaysIn s.heap := fun b o q => by rw [← hB] at q; exact PySem.W.of_hideAll _ q
  have inn : ∀ b o, b ≠ ea → b ∉ frs (env :: outer) → s.heap.get? b = some o → B.get? b = some o := fun b o n1 n2 q => by
    rw [← hB]
    exact PySem.W.hideAll_get _ q fun hm => (List.mem_cons.mp hm).elim n1 n2
  have ff : s.heap.FunFrames B (env :: outer) := by
    rw [← hB]
    exact PySem.W.funFrames_hide stk fun ev hev a ha => List.mem_cons_of_mem _ (List.mem_filterMap.mpr ⟨ev, hev, ha⟩)
  have hid : B.get? ea = none := by
    rw [← hB]
    exact PySem.W.hideAll_none _ (List.mem_cons_self ..)
  have nin : ∀ b o, s0.heap.get? b = some o → b ∉ frs outer → b ≠ ea ∧ b ∉ frs (env :: outer) := fun b o e hb => by
    have lt : b < s0.heap.objs.size := Heap.lt_size e
    refine ⟨fun z => by subst z; exact absurd (Nat.lt_of_lt_of_le lt new) (Nat.lt_irrefl _), fun z => ?_⟩
    rcases List.mem_cons.mp (sS b z) with q | q
    · exact absurd q (Nat.ne_of_lt lt)
    · exact hb q
  have ne : ∀ b u, H b = some u → (∀ φ, u ≠ .ext φ) → b ≠ ea := fun b u q hu => ne_of q he (hu _)
  refine wpAny_mono ((kd_leaving env (.ref ea)).any (wpAny_leaving_firstW (a0 := .ref t) (Q := fun _ s2 => ∃ h2, s2 = { s with heap := h2 } ∧ Heap.LeftW B (env :: outer) ea (.ref C) (.ref t) s.heap h2) hfr ff hf hx st hid rfl rfl rfl fun h2 z => ⟨h2, rfl, z⟩)) (fun _ s2 z => ?_) fun _ _ z => z
  obtain ⟨⟨h2, rfl, k1, k2, k3, k4⟩, r⟩ := z
  have fr : ∀ b, b ∈ frs outer → ∃ o, s.heap.get? b = some o ∧ ∀ vs, o.data ≠ .fields vs := fun b hb => (ff.mem (frs_cons hb)).2
  refine ⟨ea, C, t, some d, cutH H ea, B, rfl, ⟨hos, hba, ⟨fun b o e n hb _ => ?_, fun b o e n hb _ => ?_, fun b o e n _ => ?_, fun b o e _ => ?_, fun b xs e => ?_, fun b o u e => ?_, fun b ps e => ?_⟩, ?_, fun b o e hb => ?_, fun b o e n hb => ?_, new, cutH_same, k1, hid, tail_ff k2, k3, dict_of r ⟨_, hx, rfl⟩⟩, hE⟩
  · exact k1 b o (inn b o (nin b o e hb).1 (nin b o e hb).2 (U1.keep b o e n hb (by simp)))
  · obtain ⟨sl, e1⟩ := U1.slot b o e n hb (by simp)
    obtain ⟨o1, e2, nf⟩ := fr b hb
    rw [e1] at e2
    cases e2
    obtain ⟨sl2, e3⟩ := k4 b _ e1 nf
    exact ⟨sl2, e3⟩
  · unfold cutH
    split
    · rfl
    · exact U1.free b o e n (by simp)
  · obtain ⟨o', e1⟩ := U1.there b o e (by simp)
    by_cases hb : b ∈ frs outer
    · obtain ⟨o1, e2, nf⟩ := fr b hb
      obtain ⟨sl2, e3⟩ := k4 b _ e2 nf
      exact ⟨_, e3⟩
    · exact ⟨o', k1 b o' (inn b o' (nin b o e hb).1 (nin b o e hb).2 e1)⟩
  · have q := U1.tups b xs e
    rw [cutH_ne (ne b _ q fun φ z => by cases z)]
    exact q
  · have q := U1.frzs b o u e
    rw [cutH_ne (ne b _ q fun φ z => by cases z)]
    exact q
  · obtain ⟨m1, q⟩ := U1.tbls b ps e
    exact ⟨m1, by rw [cutH_ne (ne b _ q fun φ z => by cases z)]; exact q⟩
  · rw [← hB]
    exact okh.hide he sF
  · obtain ⟨o', e1⟩ := U1.there b o e (by simp)
    exact ⟨o', inn b o' (nin b o e hb).1 (nin b o e hb).2 e1⟩
  · exact inn b o (nin b o e hb).1 (nin b o e hb).2 (U1.keep b o e n hb (by simp))
theorem lets_cx {P : Program} {w : World} {K : PySem.W.Frag} {mg : Str → Option Value} {base : Heap} {N : List Str} {qual : Str} {scope : Scope} {f : Addr} {cd : Value} {A : Around} {outer : List Env} {s0 : Shared} {H0 : Hp} {E : XK} :
    Lets (cxOf (CXE P w) P w K mg base N qual scope f cd A outer s0 H0 E) E := fun hfr ea C t dc fl H' B s' F hE =>
  wpAny_mono (Fl.leave (L := s0.heap.objs.size) F hfr rfl) (fun _ s2 F2 => ⟨ea, C, t, dc, H', B, rfl, F2, hE⟩) fun _ _ z => z
theorem pass_cx {P : Program} {w : World} {K : PySem.W.Frag} {mg : Str → Option Value} {base : Heap} {N : List Str} {qual : Str} {scope : Scope} {f : Addr} {cd : Value} {A : Around} {outer : List Env} {s0 : Shared} {H0 : Hp} {E : XK} :
    Passes (CXE P w) (cxOf (CXE P w) P w K mg base N qual scope f cd A outer s0 H0 E) E := Lets.passes (X := cxOf (CXE P w) P w K mg base N qual scope f cd A outer s0 H0 E) lets_cx rfl
noncomputable def tRaiseX (C : Addr) (sp : Sp) (E : XK) (t : TA) : TS := fun _ σ H => t σ H fun vs H1 => vs.length ≤ sizeLine ∧ ∀ ea ta, H1 ea = none →
  sp (.ref ea :: vs) (upd H1 ea (excV ea C ta none)) (fun v H2 => v = .non ∧ ∃ d, H2 ea = some (excV ea C ta (some d)) ∧ E (.ref C) (some d) (cutH H2 ea)) E
section
variable {X : Cx} {k : Nat} {fI C : Addr} {fd : FuncData} {ps : List Str} {sp : Sp} {E : XK} {x : Str} {p cpos pos : Pos} {e : Expr} {es : List Expr} {t : TA}
theorem ps_raiseX (c : XC X.K C fI) (F : FnOk X.prog X.w X.K X.mg X.base (CXE X.prog X.w) k fI fd ps sp) (hr : Room (k + 1) X.A) (hc : X.calm = true) (hg : Gl X x) (hm : X.mg x = some (.ref C)) (hb : Binds X.K fd ps []) (hx : Passes (CXE X.prog X.w) X E) (hT : Throws X E)
    (ha : PA X (e :: es) t) (hdb : (x == ("__debug__" : Str)) = false := by decide) (he : starEach (e :: es) X.env = (false, eval e X.env) :: starEach es X.env := by rfl) (hpl : (backTo cpos (starEach es X.env)).any (·.1) = false := by rfl) :
    PS X (.Raise (some (.Call (.Name x p) (e :: es) [] cpos)) none pos) (tRaiseX C sp E t) := by
  intro pins s σ H D I h
  obtain ⟨N, mN, oC, oI, z⟩ := c.at I.kIn
  obtain ⟨nm, q, bs, sn, sub, ab, col, dd, k0, k1, k2, k3, k5, rfl⟩ := z.shp
  rw [arm_exec_Raise]
  show wpAny _ _ (do standAt pos; raiseStmt X.env (some (do let v ← eval (.Call (.Name x p) (e :: es) [] cpos) X.env; standAt pos; pure v)) none) _ _ _
  refine wpAny_bind (wpAny_standAt (raise_made (C := C) (nm := nm) (q := q) (N := N) (bs := bs) (bm := BMX) (hdct := true) (sn := sn) (sub := sub) (ab := ab) (col := col) (dd := dd) (k0 := k0) (k1 := k1) (k2 := k2) (k3 := k3) (k5 := k5) (newId := "Exception.__new__") (by decide) (I.ok.hd hc)
    (wpAny_bind (wpAny_mono (Q := fun v s1 => ∃ (ea ta : Addr) (dc : Option Addr), v = .ref ea ∧ s1.heap.get? C = some (excClassObj nm q C N bs BMX true sn sub ab col dd k0 k1 k2 k3 k5 "Exception.__new__") ∧
      s1.heap.get? ea = some (excB C ta dc) ∧ X.xe (.ref ea) s1) ?_ (fun v s1 h1 => wpAny_bind (wpAny_standAt (wpAny_pure h1))) fun _ _ w' => w'))))
  refine wpAny_Call_Name_kw (ld_glob I hg hm ?_ hdb)
  refine PySem.W.callWith_K (h₀ := X.base) I.ok.mod.kin c.kp (thn (ha cpos pins s σ H _ I h) fun us s1 ⟨vs, H1, I1, r, hz, q1⟩ => ⟨I1.kIn, ?_⟩) he hpl
  obtain ⟨N1, mN1, oC1, oI1, z1⟩ := c.at I1.kIn
  obtain ⟨nm1, qq1, bs1, sn1, sub1, ab1, col1, dd1, j0, j1, j2, j3, j5, rfl⟩ := z1.shp
  have sz1 := I1.sz
  obtain ⟨hh, g, dr, tk, os⟩ := s1
  refine call_init PySem.F.excBase_Exception z1.obj z1.ns z1.ini z1.fob z1.fcl (by show us.length ≤ sizeLine; rw [← r.length]; exact hz) ?_
  have hq := q1 (hh.objs.size + 1) hh.objs.size (I1.hok.fresh (Nat.le_succ _))
  have I2 : Inv X pins σ (upd H1 (hh.objs.size + 1) (excV (hh.objs.size + 1) C hh.objs.size none)) ⟨born hh C us, g, dr, tk, os⟩ :=
    I1.laid (a := hh.objs.size + 1) (o := excV (hh.objs.size + 1) C hh.objs.size none) (h' := born hh C us) (t' := tk) (born_keeps hh C us) (Nat.le_succ _) (excV_ok (born_exc hh C us))
  have r2 : Vals (V.ref (hh.objs.size + 1) :: vs) (Value.ref (hh.objs.size + 1) :: us) := .cons rfl r
  have hl : (Value.ref (hh.objs.size + 1) :: us ++ []).length = ps.length := by
    rw [List.append_nil, ← r2.length]
    exact F.len _ _ _ _ hq
  have bn := hb _ (Value.ref (hh.objs.size + 1) :: us) I2.kIn hl
  rw [List.append_nil] at bn
  refine wpAny_call (codeAny_mono (F.run _ X.stack _ _ ⟨Value.ref (hh.objs.size + 1) :: us, []⟩ (Value.ref (hh.objs.size + 1) :: us) _ _ E (hr.make C us []) (I2.env0.make C us []) bn r2 hq) fun r' s' hq' => ?_)
  cases r' with
  | error e' => exact hx pins σ _ _ e' s' I2 hq'
  | ok fl =>
    cases fl with
    | ret u =>
      obtain ⟨v, H', I3, rv, ev, d, hd, hE⟩ := I2.after hq'
      subst ev
      obtain ⟨hob, _, _⟩ := (show ObjOk X.prog X.w H' s'.heap (hh.objs.size + 1) (excV (hh.objs.size + 1) C hh.objs.size (some d)) from I3.hok _ _ hd)
      exact ⟨rv, hh.objs.size + 1, hh.objs.size, some d, rfl, I3.kIn _ _ z.lk, hob, hT pins σ H' s' _ C _ d I3 (Nat.le_succ_of_le sz1) hd hE⟩
    | next => exact False.elim hq'
    | brk => exact False.elim hq'
    | cont => exact False.elim hq'
end
theorem Fun.okX {P : Program} {w : World} {K : PySem.W.Frag} {mg : Str → Option Value} {base : Heap} {x qual : Str} {st : Stmt} {f : Addr} {fd : FuncData} {N ps : List Str} {k : Nat} {sp : Sp} (F : Fun K x qual st f fd) (S : FnScope N ps (defScope st)) (len : ∀ vs H Q E, sp vs H Q E → vs.length = ps.length)
    (hbody : ∀ (cdv : Value) (A : Around) (outer : List Env) (s : Shared) (H : Hp) (vs : List V) (Q : VK) (E : XK), Room k (A.deeper (envOfC qual (defScope st) s.heap.objs.size f cdv)) → sp vs H Q E →
      ∃ t, PSs (cxOf (CXE P w) P w K mg base N qual (defScope st) f cdv A outer s H E) (defBody st) t ∧ t { nx := fun _ H' => Q .non H', rt := Q } (start N vs) H) : FnOk P w K mg base (CXE P w) (k + 1) f fd ps sp := by
  obtain ⟨oc, od, kV, doc, pm, an, cdv, ct, osl, rfl, lk, hcd⟩ := F.ex
  exact fn_of lk hcd S len fun A outer s H vs Q E hr hsp => hbody cdv A outer s H vs Q E hr hsp
end L2
set_option Elab.async false
set_option genSizeOf false
set_option linter.all false
set_option maxRecDepth 100000
set_option maxHeartbeats 4000000
namespace L2
open PySem PySem.Spec PyProof.Rows XE
noncomputable def blank (N : List Str) : St := List.replicate N.length none
theorem blank_none {N : List Str} {i : Nat} {v : V} (h : (blank N)[i]? = some (some v)) : False := by
  unfold blank at h
  rw [List.getElem?_replicate] at h
  split at h <;> cases h
theorem Inv.flown {X : Cx} {pins : List (Addr × Obj)} {σ : St} {H H' : Hp} {s s' : Shared} {ea C t d : Addr} {fl : Value} {B : Heap} (I : Inv X pins σ H s) (hex : X.ex = []) (F : Fl X.prog X.w X.stack X.stack H s ea C t (some d) fl H' B s') :
    Inv X pins (blank X.N) (upd H' ea (catV ea C d)) s' := by
  have U := (F.up I hex).un
  have lt : ∀ b o, s.heap.get? b = some o → b ≠ ea := fun b o e => Nat.ne_of_lt (Nat.lt_of_lt_of_le (Heap.lt_size e) F.new)
  have lt0 : ∀ b o, X.s_0.heap.get? b = some o → b ≠ ea := fun b o e => Nat.ne_of_lt (Nat.lt_of_lt_of_le (Heap.lt_size e) (Nat.le_trans I.sz F.new))
  have ne : ∀ b u, H' b = some u → b ≠ ea := fun b u q => ne_of_none q F.fre
  obtain ⟨m, hm, _⟩ := I.loc
  obtain ⟨oL, es, ep, hoL, rL⟩ := id hm
  obtain ⟨slL, hL⟩ := F.un.any hoL I.free (by simp)
  refine ⟨I.ok, F.os.trans I.os, F.bare, ⟨fun b o e n hb _ => U.keep b o e n hb (by simp), fun b o e n hb _ => U.slot b o e n hb (by simp), fun b o e n _ => ?_, fun b o e _ => U.there b o e (by simp), fun b xs e => ?_, fun b o u e => ?_, fun b ps e => ?_⟩, ⟨m, ⟨_, es, ep, hL, rL⟩, fun i x v _ e2 _ => (blank_none e2).elim⟩,
    fun x c e => ?_, ?_, fun x c e => ?_, fun p hp => ?_, fun b u q => ?_, ?_⟩
  · rw [upd_ne (lt0 b o e)]
    exact U.free b o e n (by simp)
  · have q := U.tups b xs e
    rw [upd_ne (ne _ _ q)]
    exact q
  · have q := U.frzs b o u e
    rw [upd_ne (ne _ _ q)]
    exact q
  · obtain ⟨more, q⟩ := U.tbls b ps e
    exact ⟨more, by rw [upd_ne (ne _ _ q)]; exact q⟩
  · obtain ⟨v, o, ho, hd⟩ := I.cell x c e
    obtain ⟨sl, e1⟩ := F.un.any ho (I.freeC x c e) (by simp)
    exact ⟨v, _, e1, hd⟩
  · rw [upd_ne (lt _ _ hoL)]
    exact F.un.free _ _ hoL I.free (by simp)
  · obtain ⟨v, o, ho, hd⟩ := I.cell x c e
    rw [upd_ne (lt _ _ ho)]
    exact F.un.free _ _ ho (I.freeC x c e) (by simp)
  · obtain ⟨e, n, nl, nf, dd⟩ := I.pin p hp
    have nst : p.1 ∉ frs X.stack := fun z => (List.mem_cons.mp (I.stkSub _ z)).elim nl nf
    exact ⟨F.un.keep _ _ e n nst (by simp), by rw [upd_ne (lt _ _ e)]; exact F.un.free _ _ e n (by simp), nl, nf, dd⟩
  · by_cases hb : b = ea
    · subst hb
      rw [upd_same] at q
      cases q
      obtain ⟨oe, vs, T, oT, ts, he, ⟨hc, _⟩, hd, _⟩ := F.tr
      obtain ⟨oe2, he2, hdc⟩ := F.dct
      rw [he] at he2
      cases he2
      exact catV_ok he hc hdc hd
    · rw [upd_ne hb] at q
      exact (F.ok b u q).stay (fun c v _ r => F.sta c v r) (fun c r => by rw [upd_ne (ne _ _ r)]; exact r) fun c xs r => by rw [upd_ne (ne _ _ r)]; exact r
  · unfold blank
    rw [List.length_replicate]
theorem Inv.unlocal {X : Cx} {pins : List (Addr × Obj)} {σ : St} {H : Hp} {s : Shared} {h' : Heap} {m' : Str → Option Value} {tk : Nat} (I : Inv X pins σ H s) (hn : h'.Ns X.env.locals m') (sb : Heap.SameBut X.env.locals s.heap h') : Inv X pins (blank X.N) H { s with heap := h', toks := tk } := by
  have ne0 : ∀ b o, X.s_0.heap.get? b = some o → b ≠ X.env.locals := fun b o e => Nat.ne_of_lt (Nat.lt_of_lt_of_le (Heap.lt_size e) I.ok.above)
  refine ⟨I.ok, I.os, I.bare, ⟨fun b o e n hb hx => (sb.2 b (ne0 b o e)).trans (I.base.keep b o e n hb hx), fun b o e n hb hx => ?_, I.base.free, fun b o e hx => ?_, I.base.tups, I.base.frzs, I.base.tbls⟩, ⟨m', hn, fun i x v _ e2 _ => (blank_none e2).elim⟩, fun x c e => ?_, I.free, I.freeC, fun p hp => ?_, fun b u q => ?_, ?_⟩
  · obtain ⟨sl, e1⟩ := I.base.slot b o e n hb hx
    exact ⟨sl, (sb.2 b (ne0 b o e)).trans e1⟩
  · obtain ⟨o', e1⟩ := I.base.there b o e hx
    exact ⟨o', (sb.2 b (ne0 b o e)).trans e1⟩
  · obtain ⟨v, z⟩ := I.cell x c e
    exact ⟨v, z.sameBut sb (I.cne x c e)⟩
  · obtain ⟨e, n, nl, nf, dd⟩ := I.pin p hp
    exact ⟨(sb.2 _ nl).trans e, n, nl, nf, dd⟩
  · refine (I.hok b u q).stay (fun c v hc r => (sb.2 c ?_).trans r) (fun _ r => r) fun _ _ r => r
    rintro rfl
    have fr := I.free
    rcases hc with rfl | hc
    · rw [fr] at q; cases q
    · rw [fr] at hc; cases hc
  · unfold blank
    rw [List.length_replicate]
noncomputable abbrev Cx.suite (X : Cx) (ea : Addr) : Cx := { X with A := X.A.mark (some (.ref ea)), calm := false, xe := fun _ _ => False }
theorem Cx.Ok.suite {X : Cx} (ok : X.Ok) (ea : Addr) : (X.suite ea).Ok :=
  ⟨ok.mod, ok.kind, ok.glob, ok.blt, ok.above, ok.inj, ok.has, ok.cab, (fun z => nomatch z), ok.frames, ok.stk, ok.exf, ok.bs, ok.bsz, ok.noex, ok.exfs, ok.funs, ok.frf⟩
theorem Inv.suite {X : Cx} {pins : List (Addr × Obj)} {σ : St} {H : Hp} {s : Shared} (I : Inv X pins σ H s) (ea : Addr) : Inv (X.suite ea) pins σ H s := ⟨I.ok.suite ea, I.os, I.bare, I.base, I.loc, I.cell, I.free, I.freeC, I.pin, I.hok, I.len⟩
theorem Inv.unsuite {X : Cx} {pins : List (Addr × Obj)} {σ : St} {H : Hp} {s : Shared} {ea : Addr} (ok : X.Ok) (I : Inv (X.suite ea) pins σ H s) : Inv X pins σ H s := ⟨ok, I.os, I.bare, I.base, I.loc, I.cell, I.free, I.freeC, I.pin, I.hok, I.len⟩
noncomputable abbrev Cx.body (X : Cx) (pn : List (Addr × Obj)) (xe : Value → Shared → Prop) : Cx := { X with pn := pn, xe := xe }
theorem Cx.Ok.body {X : Cx} (ok : X.Ok) (pn : List (Addr × Obj)) (xe : Value → Shared → Prop) : (X.body pn xe).Ok :=
  ⟨ok.mod, ok.kind, ok.glob, ok.blt, ok.above, ok.inj, ok.has, ok.cab, ok.hd, ok.frames, ok.stk, ok.exf, ok.bs, ok.bsz, ok.noex, ok.exfs, ok.funs, ok.frf⟩
theorem Inv.body {X : Cx} {pins : List (Addr × Obj)} {σ : St} {H : Hp} {s : Shared} (I : Inv X pins σ H s) (xe : Value → Shared → Prop) : Inv (X.body (X.pn ++ pins) xe) [] σ H s :=
  ⟨I.ok.body _ _, I.os, I.bare, I.base, I.loc, I.cell, I.free, I.freeC, fun p hp => I.pin p (by simpa using hp), I.hok, I.len⟩
theorem Inv.unbody {X : Cx} {pins p2 : List (Addr × Obj)} {σ : St} {H : Hp} {s : Shared} {xe : Value → Shared → Prop} (ok : X.Ok) (I : Inv (X.body (X.pn ++ pins) xe) p2 σ H s) : Inv X pins σ H s :=
  ⟨ok, I.os, I.bare, I.base, I.loc, I.cell, I.free, I.freeC, fun p hp => I.pin p (List.mem_append_left _ hp), I.hok, I.len⟩
noncomputable def catchX (N : List Str) (i : Nat) (C : Addr) (ts : TS) (D : Ends) : XK := fun c dc H' => ∃ d, c = .ref C ∧ dc = some d ∧ ∀ ea, H' ea = none →
  ts { nx := fun _ H2 => D.nx (blank N) H2, rt := D.rt, bk := fun _ H2 => D.bk (blank N) H2, ct := fun _ H2 => D.ct (blank N) H2 } ((blank N).set i (some (.ref ea))) (upd H' ea (catV ea C d))
noncomputable def tTryX (N : List Str) (i : Nat) (C : Addr) (tb : XK → TS) (ts : TS) : TS := fun D σ H => tb (catchX N i C ts D) D σ H
theorem ps_tryX {X : Cx} {body suite : List Stmt} {b0 : Stmt} {x n : Str} {np hpos pos : Pos} {i : Nat} {C fI L : Addr} {tb : XK → TS} {ts : TS} (hex : X.ex = []) (hst : X.stack = X.env :: X.outer) (hf : X.env.frame = some L) (c : XC X.K C fI) (hg : Gl X x) (hm : X.mg x = some (.ref C)) (hN : X.N.Nodup) (hi : X.N[i]? = some n) (hl : X.env.kindOf n = some .local)
    (hb : ∀ (pn : List (Addr × Obj)) (xe : Value → Shared → Prop) (E : XK), Passes (CXE X.prog X.w) (X.body pn xe) E → PSs (X.body pn xe) body (tb E)) (hs : ∀ ea, PSs (X.suite ea) (b0 :: suite) ts) (hd : (x == ("__debug__" : Str)) = false := by decide) :
    PS X (.Try body [.ExceptHandler (some (.Name x np)) (some n) (b0 :: suite) hpos] [] [] pos) (tTryX X.N i C tb ts) := by
  intro pins s σ H D I h
  refine wpAny_Try_except ?_
  generalize hxe : (fun (e : Value) (s₁ : Shared) => wpAny (model X.prog X.w) X.A (noteFrame e X.env) (fun _ s₂ => wpAny (model X.prog X.w) X.A (setFlight e none) (fun _ s₃ => wpAny (model X.prog X.w) X.A (handleBy e X.env [.ExceptHandler (some (.Name x np)) (some n) (b0 :: suite) hpos]) (SP X pins D) X.xe s₃) X.xe s₂) X.xe s₁) = xe'
  have ok := I.ok
  have hp : Passes (CXE X.prog X.w) (X.body (X.pn ++ pins) xe') (catchX X.N i C ts D) := by
    intro p2 σ2 H2 s2 e s3 I2 ⟨ea, C', t, dc, H', B, he, F, d, hc, hdc, q⟩
    subst he
    cases hc
    subst hdc
    have I2 : Inv X pins σ2 H2 s2 := I2.unbody ok
    have F : Fl X.prog X.w X.stack X.stack H2 s2 ea C t (some d) .none H' B s3 := F
    have hfr := I2.ok.frames
    have Fst := F.ff
    have all : ∀ b ∈ frs X.stack, b ∈ frs X.stack := fun _ z => z
    show xe' (.ref ea) s3
    rw [← hxe]
    rw [hst] at Fst hfr
    refine wpAny_mono ((kd_note (.ref ea) X.env).any (wpAny_looks_onW (Q := fun _ s4 => ∃ h4, s4 = { s3 with heap := h4 } ∧ Heap.HeldW B (X.env :: X.outer) ea (.ref C) (.ref t) L h4 ∧ s3.heap.UpToSlots h4) hfr hf ⟨F.sta, F.hid, Fst, F.tr⟩ fun h4 a b => ⟨h4, rfl, a, b⟩)) (fun _ s4 z => ?_) fun _ _ z => z
    obtain ⟨⟨h4, rfl, ⟨a1, a2, a3, a4⟩, up4⟩, r4⟩ := z
    have F4 := F.move all a1 up4 (st' := X.stack) (by rw [hst]; exact a3) a4 r4
    refine wpAny_mono ((kd_flight (.ref ea) none).any (wpAny_landsW (s := { s3 with heap := h4 }) (Q := fun _ s5 => ∃ h5, s5 = { s3 with heap := h5 } ∧ Heap.FlyingW B (X.env :: X.outer) ea (.ref C) (.ref t) h5 ∧ h4.UpToSlots h5) ⟨a1, a2, a3, a4⟩ fun h5 a b => ⟨h5, rfl, a, b⟩)) (fun _ s5 z => ?_) fun _ _ z => z
    obtain ⟨⟨h5, rfl, ⟨b1, b2, b3, b4⟩, up5⟩, r5⟩ := z
    have F5 := F4.move all b1 up5 (st' := X.stack) (by rw [hst]; exact b3) b4 r5
    have I5 := I2.flown hex F5
    obtain ⟨N5, mN5, oC5, oI5, z5⟩ := c.at I5.kIn
    obtain ⟨nm, qq, bs, sn, sub, ab, col, dd, k0, k1, k2, k3, k5, rfl⟩ := z5.shp
    obtain ⟨oe, vs, T, oT, tss, he, ⟨hcl, _⟩, hda, _⟩ := F5.tr
    refine wpAny_handleBy_cons (codeAny_handlers_test (ld_glob (X := X.suite ea) (I5.suite ea) hg hm ?_ hd)) (by intro q; cases q)
    refine wpAny_excMatches_sub_self z5.obj he hcl (by decide) (codeAny_handlers_suite_as ?_)
    refine wpAny_mono ((kd_flight (.ref ea) none).any (lands_againW (s := { s3 with heap := h5 }) (Q := fun _ s6 => ∃ h6, s6 = { s3 with heap := h6 } ∧ Heap.FlyingW B (X.env :: X.outer) ea (.ref C) (.ref t) h6 ∧ h5.UpToSlots h6) ⟨b1, b2, b3, b4⟩ fun h6 a b => ⟨h6, rfl, a, b⟩)) (fun _ s6 z => ?_) fun _ _ z => z
    obtain ⟨⟨h6, rfl, ⟨e1, e2, e3, e4⟩, up6⟩, r6⟩ := z
    have F6 := F5.move all e1 up6 (st' := X.stack) (by rw [hst]; exact e3) e4 r6
    have I6 := I2.flown hex F6
    refine store_ok (v := V.ref ea) I6 hN hi (.inl hl) rfl (fun s7 I7 => ?_) (.inr hl)
    refine wpAny_mono (hs ea pins s7 _ _ _ (I7.suite ea) (q ea F.fre)) (fun f s8 hf8 => ?_) fun _ _ z => False.elim z
    have nm8 : ∀ {σ8 : St} {H8 : Hp} {G : Shared → Prop}, Inv (X.suite ea) pins σ8 H8 s8 → (∀ s9, Inv X pins (blank X.N) H8 s9 → G s9) → wpAny (model X.prog X.w) X.A (do bindName X.env n .none; unbindBehindTheSuite X.env n hpos) (fun _ s9 => G s9) X.xe s8 := by
      intro σ8 H8 G I8 k
      obtain ⟨m8, hn8, _⟩ := I8.loc
      refine wpAny_nameGoes hl hn8 (by rw [ok.kind]; rfl) fun h' m' hn' sb => ?_
      exact k _ ((I8.unsuite ok).unlocal hn' sb)
    cases f with
    | next =>
      obtain ⟨σ8, H8, I8, q8⟩ := hf8
      exact nm8 I8 fun s9 I9 => ⟨_, H8, I9, q8⟩
    | brk =>
      obtain ⟨σ8, H8, I8, q8⟩ := hf8
      exact nm8 I8 fun s9 I9 => ⟨_, H8, I9, q8⟩
    | cont =>
      obtain ⟨σ8, H8, I8, q8⟩ := hf8
      exact nm8 I8 fun s9 I9 => ⟨_, H8, I9, q8⟩
    | ret u =>
      obtain ⟨v, σ8, H8, I8, rv, q8⟩ := hf8
      exact nm8 I8 fun s9 I9 => ⟨v, _, H8, I9, rv, q8⟩
  refine wpAny_mono (hb (X.pn ++ pins) xe' _ hp [] s σ H D (I.body xe') h) (fun f s1 h1 => ?_) fun e s1 h1 => ?_
  · cases f with
    | next =>
      obtain ⟨σ1, H1, I1, q1⟩ := h1
      exact wpAny_execs_nil ⟨σ1, H1, I1.unbody ok, q1⟩
    | brk =>
      obtain ⟨σ1, H1, I1, q1⟩ := h1
      exact ⟨σ1, H1, I1.unbody ok, q1⟩
    | cont =>
      obtain ⟨σ1, H1, I1, q1⟩ := h1
      exact ⟨σ1, H1, I1.unbody ok, q1⟩
    | ret u =>
      obtain ⟨v, σ1, H1, I1, rv, q1⟩ := h1
      exact ⟨v, σ1, H1, I1.unbody ok, rv, q1⟩
  · exact h1
end L2
set_option Elab.async false
set_option genSizeOf false
set_option linter.all false
set_option maxRecDepth 100000
set_option maxHeartbeats 4000000
namespace L2
open PySem PySem.Spec PyProof.Rows XE
section
variable {P : Program} {w : World} {l st : List Env} {H0 H' : Hp} {s0 s' : Shared} {ea C t c : Addr} {dc : Option Addr} {fl : Value} {B h2 : Heap}
theorem Fl.but (F : Fl P w l st H0 s0 ea C t dc fl H' B s') (h0 : s0.heap.objs.size ≤ c) (hH : H' c = none) (he : c ≠ ea) (hs : c ∉ frs st) (hl : ∀ b ∈ frs l, b ∈ frs st) {m : Str → Option Value} (hn : s'.heap.Ns c m) (sb : Heap.SameBut c s'.heap h2) :
    Fl P w l st H0 s0 ea C t dc fl H' (PySem.W.hideAll B [c]) { s' with heap := h2 } := by
  have lt : ∀ b o, s0.heap.get? b = some o → b ≠ c := fun b o e => Nat.ne_of_lt (Nat.lt_of_lt_of_le (Heap.lt_size e) h0)
  have inn : ∀ b o, B.get? b = some o → b ≠ c → (PySem.W.hideAll B [c]).get? b = some o := fun b o e n => PySem.W.hideAll_get _ e (by simpa using n)
  have hidn : ∀ b, B.get? b = none → (PySem.W.hideAll B [c]).get? b = none := fun b e => by
    cases q : (PySem.W.hideAll B [c]).get? b with
    | none => rfl
    | some o =>
      have := PySem.W.of_hideAll _ q
      rw [e] at this
      cases this
  refine ⟨F.os, F.bare, ⟨fun b o e n hb hx => (sb.2 b (lt b o e)).trans (F.un.keep b o e n hb hx), fun b o e n hb hx => ?_, F.un.free, fun b o e hx => ?_, F.un.tups, F.un.frzs, F.un.tbls⟩, fun b u q => ?_, fun b o e hb => ?_, fun b o e n hb => inn b o (F.kpB b o e n hb) (lt b o e), F.new, F.fre, fun b o e => ?_, hidn _ F.hid, ?_, ?_, ?_⟩
  · obtain ⟨sl, e1⟩ := F.un.slot b o e n hb hx
    exact ⟨sl, (sb.2 b (lt b o e)).trans e1⟩
  · obtain ⟨o', e1⟩ := F.un.there b o e hx
    exact ⟨o', (sb.2 b (lt b o e)).trans e1⟩
  · refine (F.ok b u q).stay (fun a v ha r => inn a v r ?_) (fun _ r => r) fun _ _ r => r
    rintro rfl
    rcases ha with rfl | ha
    · rw [hH] at q; cases q
    · rw [hH] at ha; cases ha
  · obtain ⟨o', e1⟩ := F.inB b o e hb
    exact ⟨o', inn b o' e1 (lt b o e)⟩
  · have ne : b ≠ c := fun z => by
      subst z
      rw [PySem.W.hideAll_none _ (List.mem_cons_self ..)] at e
      cases e
    exact (sb.2 b ne).trans (F.sta b o (PySem.W.of_hideAll _ e))
  · have all : ∀ (k : List Env), (∀ b ∈ frs k, b ∈ frs st) → s'.heap.FunFrames B k → h2.FunFrames (PySem.W.hideAll B [c]) k := by
      intro k
      induction k with
      | nil => intro _ _; trivial
      | cons env r ih =>
        intro hk ⟨k1, ⟨L, o, k2, k3, k4, k5⟩, k6⟩
        have hL : L ∈ frs (env :: r) := by
          unfold frs
          rw [List.filterMap_cons, k2]
          exact List.mem_cons_self ..
        have nL : L ≠ c := fun z => by subst z; exact hs (hk _ hL)
        exact ⟨k1, ⟨L, o, k2, hidn _ k3, (sb.2 L nL).trans k4, k5⟩, ih (fun b hb => hk b (frs_cons hb)) k6⟩
    exact all st (fun _ z => z) F.ff
  · obtain ⟨oe, vs, T, oT, ts, a1, a2, a3, a4, a5, a6, a7, a8, a9⟩ := F.tr
    obtain ⟨oc, es, ep, b1, b2, _⟩ := hn
    have nT : T ≠ c := fun z => by
      subst z
      rw [a7] at b1
      cases b1
      rw [a8] at b2
      cases b2
    exact ⟨oe, vs, T, oT, ts, (sb.2 _ (Ne.symm he)).trans a1, a2, a3, a4, hidn _ a5, a6, (sb.2 _ nT).trans a7, a8, a9⟩
  · obtain ⟨oe, a1, a2⟩ := F.dct
    exact ⟨oe, (sb.2 _ (Ne.symm he)).trans a1, a2⟩
theorem Fl.passOn {α : Type} {M : Model} {A : Around} {E : Value → Shared → Prop} {Q : α → Shared → Prop} {what : String} {cenv : Env} (F : Fl P w l st H0 s0 ea C t dc fl H' B s') (hl : ∀ b ∈ frs l, b ∈ frs st)
    (k : ∀ fl2 s2, Fl P w l st H0 s0 ea C t dc fl2 H' B s2 → E (.ref ea) s2) : wpAny M A (PySem.passOn what (.ref ea) cenv : Sem α) Q E s' := by
  obtain ⟨oe, vs, T, oT, ts, he, hc, hd, h1, hnT, hTe, hT, hdT, h3⟩ := F.tr
  have sz : 3 < ts.size := (Array.getElem?_eq_some_iff.mp h3).1
  have oth : ∀ (v : Value) b, b ≠ T → (s'.heap.update T (Obj.mapFields (·.setIfInBounds 3 v))).get? b = s'.heap.get? b := fun v b hb => Heap.get?_update_other _ _ (Ne.symm hb)
  have nr : ∀ b o, s'.heap.get? b = some o → (∀ vs, o.data ≠ .fields vs) → b ≠ T := fun b o hb hnf z => by
    rw [z, hT] at hb
    cases hb
    exact hnf ts hdT
  have fin : ∀ v : Value, E (.ref ea) { s' with heap := s'.heap.update T (Obj.mapFields (·.setIfInBounds 3 v)) } := fun v => by
    refine k v _ (F.move (h2 := s'.heap.update T (Obj.mapFields (·.setIfInBounds 3 v))) hl (fun b o e => (oth v b fun z => by rw [z, hnT] at e; cases e).trans (F.sta b o e)) (fun b o e nf => ⟨o.slots, (oth v b (nr b o e nf)).trans e⟩)
      (F.ff.of_keeps fun b o e nf => ⟨o, (oth v b (nr b o e nf)).trans e, rfl⟩) ?_ (DR.fields hT hdT _))
    exact ⟨oe, vs, T, _, _, (oth v ea (Ne.symm hTe)).trans he, hc, hd, h1, hnT, hTe, Heap.get?_update_self _ hT (Obj.isFreed_of_fields (Obj.data_mapFields hdT _)), Obj.data_mapFields hdT _, by simp [sz]⟩
  unfold PySem.passOn setFlight
  refine wpAny_bind (wpAny_field he hd h1 ?_)
  rw [if_neg (show ¬ ((Value.ref T == Value.none) = true) from by simp)]
  refine wpAny_bind (wpAny_bind (wpAny_field he hd h1 ?_))
  rw [if_pos (show (Value.ref T != Value.none) = true from by simp)]
  exact wpAny_setField hT hdT sz (wpAny_throw (fin _))
end
theorem note_frame {e : Value} {env env' : Env} (h : env'.frame = env.frame) : noteFrame e env' = noteFrame e env := by
  unfold noteFrame PySem.frameOf
  rw [h]
theorem blk_passes {X : Cx} {pins : List (Addr × Obj)} {σ : St} {H3 : Hp} {s3 : Shared} {E : XK} {L : Addr} {scope : Scope} {ce : Env} {fp : List Addr} {use : Option (Value → Sem Unit)} {Qf : Value → Shared → Prop} {acc : Value} (I3 : Inv X pins σ H3 s3) (hex : X.ex = []) (hst : X.stack = X.env :: X.outer) (hf : X.env.frame = some L) (hL : Lets X E)
    (hfp : ∀ b ∈ fp, FpOk X pins H3 b) (hcf : ce.frame = X.env.frame) (hcl : ce.locals = s3.heap.objs.size) :
    Passes (CXE X.prog X.w) ((X.blk s3 H3 scope ce fp).wish (notedBy (model X.prog X.w) X.A ce fun e s' => compPost (model X.prog X.w) X.A X.xe use Qf acc s3.heap.objs.size (.error e) s')) E := by
  intro p2 σ2 H2 s2 e s5 Iw ⟨ea, C', t, dc, H', B, he, F, hE⟩
  subst he
  have F : Fl X.prog X.w X.stack X.stack H2 s2 ea C' t dc .none H' B s5 := F
  have Ub : Un (frs X.stack) fp H3 H2 s3.heap s2.heap := Iw.base
  have U1 : Un (frs X.outer) [] X.H_0 H3 X.s_0.heap s3.heap := by rw [← hex]; exact I3.base
  have nfp : ∀ b o, X.s_0.heap.get? b = some o → b ∉ fp := fun b o e hb => by
    rcases (hfp b hb).2.2.2.1 with z | z
    · rw [hex] at z; cases z
    · exact absurd (Nat.lt_of_lt_of_le (Heap.lt_size e) z) (Nat.lt_irrefl _)
  have os2 : s2.os = X.s_0.os := (show s2.os = s3.os from Iw.os).trans I3.os
  obtain ⟨m2, hn2, _⟩ := Iw.loc
  have hn2 : s2.heap.Ns s3.heap.objs.size m2 := by rw [← hcl]; exact hn2
  have hfree : H2 s3.heap.objs.size = none := by rw [← hcl]; exact Iw.free
  have sz23 : s3.heap.objs.size < s2.heap.objs.size := hn2.lt
  have nin := I3.nin
  have cst : s3.heap.objs.size ∉ frs X.stack := fun z => by
    obtain ⟨_, o, ho, _⟩ := I3.stack.mem z
    exact absurd (Heap.lt_size ho) (Nat.lt_irrefl _)
  have U12 : Un (frs X.outer) [] X.H_0 H2 X.s_0.heap s2.heap := by
    refine ⟨fun b o e n hb _ => Ub.keep b o (U1.keep b o e n hb (by simp)) (U1.free b o e n (by simp)) (nin b o e hb) (nfp b o e), fun b o e n hb _ => ?_, fun b o e n _ => ?_, fun b o e _ => ?_, fun b xs e => Ub.tups b xs (U1.tups b xs e), fun b o u e => Ub.frzs b o u (U1.frzs b o u e), fun b ps e => ?_⟩
    · obtain ⟨sl, e1⟩ := U1.slot b o e n hb (by simp)
      obtain ⟨sl2, e2⟩ := Ub.any e1 (U1.free b o e n (by simp)) (nfp b o e)
      exact ⟨sl2, e2⟩
    · obtain ⟨o', e1⟩ := U1.there b o e (by simp)
      exact Ub.free b o' e1 (U1.free b o e n (by simp)) (nfp b o e)
    · obtain ⟨o', e1⟩ := U1.there b o e (by simp)
      exact Ub.there b o' e1 (nfp b o e)
    · obtain ⟨m1, e1⟩ := U1.tbls b ps e
      obtain ⟨m3, e2⟩ := Ub.tbls b _ e1
      exact ⟨m1 ++ m3, by rw [e2, Array.append_assoc]⟩
  have hfr : X.A.frames = some X.stack := I3.ok.frames
  have all : ∀ b ∈ frs X.stack, b ∈ frs X.stack := fun _ z => z
  have sub : ∀ b ∈ frs X.outer, b ∈ frs X.stack := fun b hb => by rw [hst]; exact frs_cons hb
  show wpAny (model X.prog X.w) X.A (noteFrame (.ref ea) ce) (fun _ s6 => compPost (model X.prog X.w) X.A X.xe use Qf acc s3.heap.objs.size (.error (.ref ea)) s6) (fun e s6 => compPost (model X.prog X.w) X.A X.xe use Qf acc s3.heap.objs.size (.error e) s6) s5
  rw [note_frame hcf]
  have Fst := F.ff
  have hfr' := hfr
  rw [hst] at Fst hfr'
  refine wpAny_mono ((kd_note (.ref ea) X.env).any (wpAny_looks_onW (Q := fun _ s6 => ∃ h6, s6 = { s5 with heap := h6 } ∧ Heap.HeldW B (X.env :: X.outer) ea (.ref C') (.ref t) L h6 ∧ s5.heap.UpToSlots h6) hfr' hf ⟨F.sta, F.hid, Fst, F.tr⟩ fun h6 a b => ⟨h6, rfl, a, b⟩)) (fun _ s6 z => ?_) fun _ _ z => z
  obtain ⟨⟨h6, rfl, ⟨a1, a2, a3, a4⟩, up6⟩, r6⟩ := z
  have F6 := F.move all a1 up6 (st' := X.stack) (by rw [hst]; exact a3) a4 r6
  have n6 : h6.Ns s3.heap.objs.size m2 := by
    obtain ⟨oc, es, ep, b1, b2⟩ := hn2
    exact ⟨oc, es, ep, a1 _ _ (F.kpB _ _ b1 hfree cst), b2⟩
  refine ⟨m2, n6, fun h7 sb cenv _ => ?_⟩
  have Fx := F6.up0 U12 nin os2 (Nat.le_trans I3.sz (Nat.le_of_lt sz23))
  have hH' : H' s3.heap.objs.size = none := by
    obtain ⟨oc, es, ep, b1, b2⟩ := hn2
    exact F.un.free _ _ b1 hfree (by simp)
  have nce : s3.heap.objs.size ≠ ea := Nat.ne_of_lt (Nat.lt_of_lt_of_le sz23 F.new)
  have Fy := Fx.but (c := s3.heap.objs.size) I3.sz hH' nce cst sub n6 sb
  exact Fy.passOn sub fun fl2 s8 F8 => hL hfr ea C' t dc fl2 H' _ s8 F8 hE
section
variable {X : Cx}
theorem lcx_core {pins : List (Addr × Obj)} {s : Shared} {σ : St} {H : Hp} {Q : VK} {elt tg iter : Expr} {ifs : List Expr} {scope : Scope} {own : List (Str × Nat)} {pos pos' : Pos} {wi : TI} {g : TG} {tt : TT} {te : TE} {use : Option (Value → Sem Unit)} {Qf : Value → Shared → Prop}
    {E : XK} {L : Addr} (hex : X.ex = []) (hst : X.stack = X.env :: X.outer) (hf : X.env.frame = some L) (hL : Lets X E) (hc : X.calm = true) (hN : X.N.Nodup) (I : Inv X pins σ H s) (hi : PI X tg iter wi) (ok : BlkOk X.N X.env.scope scope own)
    (hg : ∀ (s : Shared) (H : Hp) (C : Addr) (cl : List (Str × Addr)) (fp : List Addr), PG (X.blk s H scope (compEnvC scope cl C X.env) fp) tg g) (ht : ∀ (s : Shared) (H : Hp) (C : Addr) (cl : List (Str × Addr)) (fp : List Addr), PTs (X.blk s H scope (compEnvC scope cl C X.env) fp) ifs tt)
    (he : ∀ (s : Shared) (H : Hp) (C : Addr) (cl : List (Str × Addr)) (fp : List Addr) (xe : Value → Shared → Prop), Passes (CXE X.prog X.w) ((X.blk s H scope (compEnvC scope cl C X.env) fp).wish xe) E → PE ((X.blk s H scope (compEnvC scope cl C X.env) fp).wish xe) elt te) (hs : ∀ x, foldedSetIterable iter X.env x = pure x)
    (h : tLc wi g tt te (own.map (·.2)) σ H Q)
    (hRR : ∀ D C s' m H', Inv X pins σ H' s' → Q (.ref D) H' → s'.heap.Ns C m → FpOk X pins H' C → compPost (model X.prog X.w) X.A X.xe use Qf (.ref D) C (.ok .next) s') :
    wpAny (model X.prog X.w) X.A (comprehension (.ListComp elt [⟨tg, iter, ifs, 0⟩] scope pos) scope X.env pos' (newList []) false (eval iter X.env) use) Qf X.xe s := by
  have hfree : ∀ y ∈ scope.names, y.2 = .free → ∃ c, X.env.cells.lookup y.1 = some c := fun y hy e => by
    rcases ok.free y hy e with k | k
    · exact I.ok.has _ (.inl k)
    · exact I.ok.has _ (.inr k)
  refine wpAny_comprehension_free (use := use) rfl hs (closure_ok hfree) ok.kind (fun y hy e => by rw [ok.uniq y hy, e])
    (thn (hi pins s σ H _ I h) fun xv s1 hx => thn hx fun itv s2 h2 => ?_)
  obtain ⟨it, fp, tn, J, H2, e, I2, T, st2, f2, q⟩ := h2
  subst e
  refine wpAny_newObj_type (newEnv_comp ?_) (by show 0 ≤ sizeLine; decide)
  generalize hD : s2.heap.objs.size = D
  have hDn : H2 D = none := I2.hok.fresh (Nat.le_of_eq hD)
  obtain ⟨W, ⟨m0, w0⟩, turn⟩ := q D hDn
  -- the new list
  generalize hs3 : ({ s2 with heap := s2.heap.push { cls := .type "list", data := .seq ([] : List Value).toArray } } : Shared) = s3
  have I3 : Inv X pins σ (upd H2 D (.lst [])) s3 := by
    rw [← hs3]
    refine I2.laid (t' := s2.toks) (fun b o e => Heap.get?_push_of_some _ e) (Nat.le_of_eq hD) ⟨Nat.zero_le _, [], 0, .nil, ?_⟩
    rw [← hD]
    exact Heap.get?_push_size _ rfl
  have h3 : s3.heap = s2.heap.push { cls := .type "list", data := .seq ([] : List Value).toArray } := by rw [← hs3]
  have sz : ∀ b ∈ fp, b < s2.heap.objs.size := fun b hb => by
    obtain ⟨o, e, _⟩ := T.obj _ _ st2 b hb
    exact Heap.lt_size e
  have f3 : ∀ b ∈ fp, FpOk X pins (upd H2 D (.lst [])) b ∧ b < s3.heap.objs.size := fun b hb => by
    have hlt := sz b hb
    refine ⟨⟨?_, (f2 b hb).2⟩, by rw [h3, Heap.size_push]; exact Nat.lt_succ_of_lt hlt⟩
    rw [upd_ne (by rw [← hD]; exact Nat.ne_of_lt hlt)]
    exact (f2 b hb).1
  have st3 : tn 0 s3.heap := T.keep _ _ _ st2 fun b _ o e => by rw [h3]; exact Heap.get?_push_of_some _ e
  have I4 := block_start I3 ok hN f3
  have pg := hg s3 (upd H2 D (.lst [])) s3.heap.objs.size (cellsFrom (s3.heap.objs.size + 1) scope.names (cloFrom X.env.cells scope.names [])) fp
  have pt := ht s3 (upd H2 D (.lst [])) s3.heap.objs.size (cellsFrom (s3.heap.objs.size + 1) scope.names (cloFrom X.env.cells scope.names [])) fp
  have pe := he s3 (upd H2 D (.lst [])) s3.heap.objs.size (cellsFrom (s3.heap.objs.size + 1) scope.names (cloFrom X.env.cells scope.names [])) fp
    (notedBy (model X.prog X.w) X.A (compEnvC scope (cellsFrom (s3.heap.objs.size + 1) scope.names (cloFrom X.env.cells scope.names [])) s3.heap.objs.size X.env) fun e s' => compPost (model X.prog X.w) X.A X.xe use Qf (.ref D) s3.heap.objs.size (.error e) s')
    (blk_passes I3 hex hst hf hL (fun b hb => (f3 b hb).1) rfl rfl)
  show codeAny _ _ (.compStart (.ListComp elt [⟨tg, iter, ifs, 0⟩] scope pos) 0 (.ref it) (.ref D) (compEnvC scope (cellsFrom (s3.heap.objs.size + 1) scope.names (cloFrom X.env.cells scope.names [])) s3.heap.objs.size X.env)) (compPost (model X.prog X.w) X.A X.xe use Qf (.ref D) s3.heap.objs.size) { s3 with heap := pushCells (s3.heap.push { cls := .type "dict", data := .dict #[] }) scope.names }
  have nfp : ∀ b ∈ fp, (upd H2 D (.lst [])) b = none := fun b hb => (f3 b hb).1.1
  generalize hce : compEnvC scope (cellsFrom (s3.heap.objs.size + 1) scope.names (cloFrom X.env.cells scope.names [])) s3.heap.objs.size X.env = ce at I4 pg pt pe ⊢
  have cL : ce.locals = s3.heap.objs.size := by subst hce; rfl
  generalize hH3 : upd H2 D (.lst []) = H3 at I3 I4 pg pt pe w0 nfp f3
  generalize hs4 : ({ s3 with heap := pushCells (s3.heap.push { cls := .type "dict", data := .dict #[] }) scope.names } : Shared) = s4 at I4 ⊢
  have st4 : tn 0 s4.heap := T.keep _ _ _ st3 fun b _ o e => by rw [← hs4]; exact pushCells_keeps _ _ _ _ (Heap.get?_push_of_some _ e)
  have stat : ∀ {σ' : St} {H' : Hp} {s' : Shared}, Inv (X.blk s3 H3 scope ce fp) [] σ' H' s' → (∀ b ∈ fp, H' b = none) → ∀ b ∈ fp, FpOk (X.blk s3 H3 scope ce fp) [] H' b := fun {σ' H' s'} I' hn b hb =>
    ⟨hn b hb, (I'.ok.exf b hb).1, I'.ok.exfs b hb, .inl hb, fun x c e => (I'.ok.exf b hb).2 x c e, fun p hp => absurd (show p ∈ ([] : List (Addr × Obj)) ++ [] from hp) (by simp)⟩
  have loop : codeAny (model X.prog X.w) X.A (.compLoop (.ListComp elt [⟨tg, iter, ifs, 0⟩] scope pos) 0 (.ref it) (.ref D) ce) (compPost (model X.prog X.w) X.A X.xe use Qf (.ref D) s3.heap.objs.size) s4 := by
    refine compLoop_any (fun n s' => ∃ i H', Inv (X.blk s3 H3 scope ce fp) [] (wipe σ (own.map (·.2))) H' s' ∧ tn i s'.heap ∧ (∀ b ∈ fp, H' b = none) ∧ W i n H') ?_ m0 ⟨0, H3, I4, st4, nfp, w0⟩
    rintro n s5 ⟨i, H5, I5, st5, n5, w5⟩
    rcases turn i n H5 w5 with ⟨stop, qq⟩ | ⟨go, Nx, hNx, step⟩
    · have td := T.done (X.blk s3 H3 scope ce fp) rfl rfl rfl hc i [] s5 _ H5 (fun _ _ => False) I5 (stat I5 n5) st5 stop
      refine thnF td fun r s6 hz36 => ?_
      obtain ⟨hr, I6⟩ := hz36
      subst hr
      -- back in the def's context
      have I7 : Inv X pins σ H5 s6 := I3.call' (ch := fp) I6.os I6.base I6.hok I6.bare fun b hb => ⟨(f3 b hb).1.2.2.2.1, (f3 b hb).1.2.1, (f3 b hb).1.2.2.2.2.1, (f3 b hb).1.2.2.2.2.2⟩
      have nC : H5 s3.heap.objs.size = none := by
        have z : H5 ce.locals = none := I6.free
        rw [cL] at z
        exact z
      obtain ⟨m, hn, _⟩ := I6.loc
      have hn : s6.heap.Ns ce.locals m := hn
      rw [cL] at hn
      exact hRR D s3.heap.objs.size s6 m H5 I7 qq hn (I3.fpOk (Nat.le_refl _) nC)
    · have ti := T.item (X.blk s3 H3 scope ce fp) rfl rfl rfl hc i [] s5 _ H5 (fun _ _ => False) I5 (stat I5 n5) st5 go
      refine thnF ti fun r s6 hz37 => ?_
      obtain ⟨u, hr, h6⟩ := hz37
      subst hr
      refine thnF h6 fun _ s7 hz38 => ?_
      obtain ⟨x, H7, I7, r7, y7, st7, n7⟩ := hz38
      have I7' := I7.pinned (stat I7 n7) (T.obj _ _ st7)
      refine thnF (pg _ s7 _ H7 x u _ I7' r7 (step x H7 y7)) fun _ s8 hz39 => ?_
      obtain ⟨σ8, H8, I8, hw8, q8⟩ := hz39
      refine thnF (pt _ s8 σ8 H8 _ I8 q8) fun b s9 hz40 => ?_
      obtain ⟨H9, I9, q9⟩ := hz40
      -- the turn's end
      have fin : ∀ {s' : Shared} {H' : Hp}, Inv (X.blk s3 H3 scope ce fp) ([] ++ pinsAt fp s7.heap) σ8 H' s' → Nx H' → ∃ m, m < n ∧ ∃ i H', Inv (X.blk s3 H3 scope ce fp) [] (wipe σ (own.map (·.2))) H' s' ∧ tn i s'.heap ∧ (∀ b ∈ fp, H' b = none) ∧ W i m H' := fun {s' H'} I' nx => by
        obtain ⟨m', hm, w'⟩ := hNx H' nx
        have pin' : ∀ b ∈ fp, ∀ o, s7.heap.get? b = some o → s'.heap.get? b = some o ∧ H' b = none := fun b hb o e =>
          let z := I'.pin (b, o) (List.mem_append_right _ (List.mem_append_right _ (mem_pinsAt hb e)))
          ⟨z.1, z.2.1⟩
        have hl : (wipe σ (own.map (·.2))).length = σ8.length := by rw [← hw8, wipe_length]
        refine ⟨m', hm, i + 1, H', (I'.unpinned (pins := [])).weak hl (fun j v e => ?_), T.keep _ _ _ st7 fun b hb o e => (pin' b hb o e).1, fun b hb => ?_, w'⟩
        · rw [← hw8] at e
          exact (wipe_some e).1
        · obtain ⟨o, e, _⟩ := T.obj _ _ st7 b hb
          exact (pin' b hb o e).2
      cases b with
      | false =>
        simp only [Bool.false_eq_true, if_false] at q9 ⊢
        exact fin I9 q9
      | true =>
        simp only [if_true] at q9 ⊢
        refine thn (pe _ s9 σ8 H9 _ (I9.wish _) q9) fun z s10 hz41 => ?_
        obtain ⟨yv, H10, I10w, r10, acc, hD10, hz10, nx⟩ := hz41
        have I10 := I10w.unwish
        exact app_ok (X := X.blk s3 H3 scope ce fp) I10 hD10 hz10 r10 fun s11 I11 => fin I11 nx
  exact codeAny_compStart_list loop (T.self X.A 0 _ _ _ st4 loop)
theorem pe_lcX {elt tg iter : Expr} {ifs : List Expr} {scope : Scope} {own : List (Str × Nat)} {pos : Pos} {wi : TI} {g : TG} {tt : TT} {te : TE} {E : XK} {L : Addr} (hex : X.ex = []) (hst : X.stack = X.env :: X.outer) (hf : X.env.frame = some L) (hL : Lets X E) (hc : X.calm = true) (hN : X.N.Nodup) (hi : PI X tg iter wi) (ok : BlkOk X.N X.env.scope scope own)
    (hg : ∀ (s : Shared) (H : Hp) (C : Addr) (cl : List (Str × Addr)) (fp : List Addr), PG (X.blk s H scope (compEnvC scope cl C X.env) fp) tg g) (ht : ∀ (s : Shared) (H : Hp) (C : Addr) (cl : List (Str × Addr)) (fp : List Addr), PTs (X.blk s H scope (compEnvC scope cl C X.env) fp) ifs tt)
    (he : ∀ (s : Shared) (H : Hp) (C : Addr) (cl : List (Str × Addr)) (fp : List Addr) (xe : Value → Shared → Prop), Passes (CXE X.prog X.w) ((X.blk s H scope (compEnvC scope cl C X.env) fp).wish xe) E → PE ((X.blk s H scope (compEnvC scope cl C X.env) fp).wish xe) elt te) (hs : ∀ x, foldedSetIterable iter X.env x = pure x := by intro _; rfl) :
    PE X (.ListComp elt [⟨tg, iter, ifs, 0⟩] scope pos) (tLc wi g tt te (own.map (·.2))) := by
  intro pins s σ H Q I h
  rw [eval_ListComp]
  refine lcx_core hex hst hf hL hc hN I hi ok hg ht he hs h fun D C s' m H' I' q hn f => ⟨m, hn, fun h'' sb => ?_⟩
  obtain ⟨f0, f1, f2, f3, f4, f5⟩ := f
  exact ⟨.ref D, H', I'.turned (t' := s'.toks) (fun b o hb e => (sb.2 b hb).trans e) f0 f1 f3 f4 f5, rfl, q⟩
end
end L2
namespace L2
open PySem PySem.Spec PyProof.Rows
structure RoomH (k : Nat) (A : Around) : Prop where
  dp : A.depth + 3 * k + 5 < recursionLimit
  un : A.units + 16 * k + 200 < cLine
theorem RoomH.deeper {k : Nat} {A : Around} (r : RoomH (k + 1) A) (env : Env) : RoomH k (A.deeper env) :=
  ⟨by have := r.dp; show A.depth + 1 + 3 * k + 5 < _; lia, by have := r.un; show A.units + 3 + 16 * k + 200 < _; lia⟩
theorem RoomH.depth {k : Nat} {A : Around} (r : RoomH k A) : A.depth < recursionLimit := by have := r.dp; lia
structure FnOkH (P : Program) (w : World) (K : PySem.W.Frag) (mg : Str → Option Value) (base : Heap) (CX : CXT) (k : Nat) (f : Addr) (fd : FuncData) (ps : List Str) (sp : Sp) : Prop where
  len : ∀ vs H Q E, sp vs H Q E → vs.length = ps.length
  run : ∀ (A : Around) (outer : List Env) (s : Shared) (H : Hp) (args : Args) (us : List Value) (vs : List V) (Q : VK) (E : XK), RoomH k A → Env0 P w K mg base A outer s H → BindsTo s fd args (ps.zip us) → Vals vs us → sp vs H Q E →
    codeAny (model P w) A (.call (.ref f) args) (CR CX outer P w H s Q E) s
section
variable {X : Cx} {CX : CXT} {k : Nat} {f C : Addr} {fd : FuncData} {ps : List Str} {sp : Sp} {dvs : List V} {ds : List Value} {E : XK} {x m : Str} {p pos apos : Pos} {e o : Expr} {es : List Expr} {ta : TE} {t : TA}
theorem run_fnH {pins : List (Addr × Obj)} {σ : St} {H : Hp} {s : Shared} {Q : VK} {us : List Value} {vs : List V} (F : FnOkH X.prog X.w X.K X.mg X.base CX k f fd ps sp) (hr : RoomH k X.A) (hb : Binds X.K fd ps ds) (hd : Vals dvs ds) (hx : Passes CX X E)
    (I : Inv X pins σ H s) (r : Vals vs us) (h : sp (vs ++ dvs) H Q E) : wpAny (model X.prog X.w) X.A (call (.ref f) us) (EP X pins σ Q) X.xe s := by
  have r2 : Vals (vs ++ dvs) (us ++ ds) := r.append hd
  have hl : (us ++ ds).length = ps.length := by rw [← r2.length]; exact F.len _ _ _ _ h
  refine wpAny_call (codeAny_mono (F.run X.A X.stack s H ⟨us, []⟩ (us ++ ds) (vs ++ dvs) Q E hr I.env0 (hb s us I.kIn hl) r2 h) fun r s' hq => ?_)
  cases r with
  | error e => exact hx pins σ H s e s' I hq
  | ok fl =>
    cases fl with
    | ret u => exact I.after hq
    | next => exact False.elim hq
    | brk => exact False.elim hq
    | cont => exact False.elim hq
theorem pe_callH (F : FnOkH X.prog X.w X.K X.mg X.base CX k f fd ps sp) (hr : RoomH k X.A) (hg : Gl X x) (hm : X.mg x = some (.ref f)) (hk : PySem.W.keepIn X.K (.ref f) = true) (hb : Binds X.K fd ps ds) (hd : Vals dvs ds) (hx : Passes CX X E)
    (ha : PA X (e :: es) t) (hdb : (x == ("__debug__" : Str)) = false := by decide) (he : starEach (e :: es) X.env = (false, eval e X.env) :: starEach es X.env := by rfl) (hpl : (backTo pos (starEach es X.env)).any (·.1) = false := by rfl) :
    PE X (.Call (.Name x p) (e :: es) [] pos) (tCall sp dvs E t) := by
  intro pins s σ H Q I h
  refine wpAny_Call_Name_kw (ld_glob I hg hm ?_ hdb)
  refine PySem.W.callWith_K (h₀ := X.base) I.ok.mod.kin hk (thn (ha pos pins s σ H _ I h) fun us s1 ⟨vs, H1, I1, r, q⟩ => ⟨I1.kIn, ?_⟩) he hpl
  exact run_fnH F hr hb hd hx I1 r q
end
noncomputable def cxOfH (CX : CXT) (P : Program) (w : World) (K : PySem.W.Frag) (mg : Str → Option Value) (base : Heap) (N : List Str) (qual : Str) (scope : Scope) (f : Addr) (cd : Value) (A : Around) (outer : List Env) (s : Shared) (H : Hp) (E : XK) : Cx where
  prog := P
  w := w
  K := K
  mg := mg
  base := base
  A := A.deeper (envOfC qual scope s.heap.objs.size f cd)
  N := N
  s_0 := s
  H_0 := H
  env := envOfC qual scope s.heap.objs.size f cd
  outer := outer
  stack := envOfC qual scope s.heap.objs.size f cd :: outer
  ex := []
  calm := false
  fn := fun _ => true
  pn := []
  xe := fun e s' => wpAny (model P w) (A.deeper (envOfC qual scope s.heap.objs.size f cd)) (leaving (envOfC qual scope s.heap.objs.size f cd) e) (fun _ s'' => CX outer H s E e s'') (fun e' s'' => CX outer H s E e' s'') s'
theorem inv_startH {CX : CXT} {P : Program} {w : World} {K : PySem.W.Frag} {mg : Str → Option Value} {base : Heap} {N ps : List Str} {qual : Str} {scope : Scope} {f : Addr} {cd : Value} {A : Around} {outer : List Env} {s s1 : Shared} {H : Hp} {E : XK} {us : List Value} {vs : List V}
    (S : FnScope N ps scope) (e0 : Env0 P w K mg base A outer s H) (hl : vs.length = ps.length) (r : Vals vs us)
    (x : InCallC s s.heap.objs.size (bindL (envOfC qual scope s.heap.objs.size f cd).kindOf (ps.zip us) fun _ => none) (cellsFrom (s.heap.objs.size + 1) scope.names []) (bindC (envOfC qual scope s.heap.objs.size f cd).kindOf (ps.zip us) fun _ => none) s1) :
    Inv (cxOfH CX P w K mg base N qual scope f cd A outer s H E) [] (start N vs) H s1 := by
  have hpl : ps.length ≤ N.length := by have := congrArg List.length S.pre; rw [List.length_take] at this; lia
  obtain ⟨h1, tk, rfl, hk⟩ := x.done
  have noA : ∀ b : Addr, b ∉ (cxOfH CX P w K mg base N qual scope f cd A outer s H E).ex := fun b z => absurd (show b ∈ ([] : List Addr) from z) (by simp)
  refine ⟨⟨e0.mod, S.kind, rfl, rfl, Nat.le_refl _, fun y z c h1 h2 => ?_, fun y hy => ?_, fun y c _ h => ?_, (fun z => nomatch z), Around.frames_deeper e0.frames, .inr ⟨rfl, rfl⟩, fun b z => absurd z (noA b), e0.bs, e0.bsz, fun b _ _ => noA b, fun b z => absurd z (noA b), e0.funs, e0.frf⟩,
    rfl, e0.bare, Un.kept hk, ⟨_, x.toInCall.ns, fun i y v h1 h2 h3 => ?_⟩, fun y c h => ⟨_, x.cell y c h⟩, e0.hok.fresh (Nat.le_refl _), fun y c h => ?_, fun p hp => absurd (show p ∈ ([] : List (Addr × Obj)) from hp) (by simp), e0.hok.kept hk, ?_⟩
  · exact name_of_addr x.apart (PySem.mem_of_lookup h1) (PySem.mem_of_lookup h2)
  · have hy : scope.names.lookup y = some .cell ∨ scope.names.lookup y = some .free := hy
    rcases hy with hy | hy
    · exact cell_has hy
    · exact absurd rfl (S.nofree _ (PySem.mem_of_lookup hy))
  · exact Nat.le_of_lt (x.above y c (PySem.mem_of_lookup h))
  · have hi : i < vs.length := by
      unfold start at h2
      by_cases hi : i < vs.length
      · exact hi
      · rw [List.getElem?_append_right (by simpa using hi)] at h2
        rw [List.getElem?_replicate] at h2
        split at h2 <;> cases h2
    have ha : vs[i]? = some v := by
      unfold start at h2
      rw [List.getElem?_append_left (by simpa using hi), List.getElem?_map] at h2
      cases e : vs[i]? with
      | none => rw [e] at h2; cases h2
      | some a => rw [e] at h2; cases h2; rfl
    obtain ⟨u, hu, rv⟩ := r.get ha
    have hp : ps[i]? = some y := by
      rw [← S.pre, List.getElem?_take_of_lt (by lia)]; exact h1
    have ndP : ps.Nodup := by rw [← S.pre]; exact S.nd.sublist (List.take_sublist _ _)
    refine ⟨u, rv, ?_⟩
    rcases S.par y (List.mem_of_getElem? hp) with k | k
    · exact .inl ⟨k, bindL_get ndP hp hu k⟩
    · obtain ⟨c, e⟩ := cell_has (n := s.heap.objs.size + 1) k
      refine .inr ⟨.inl k, c, e, ?_⟩
      have q := x.cell y c e
      rw [bindC_get ndP hp hu (by show scope.names.lookup y ≠ _; rw [k]; decide)] at q
      exact q
  · exact e0.hok.fresh (Nat.le_of_lt (x.above y c (PySem.mem_of_lookup h)))
  · unfold start
    show _ = N.length
    rw [List.length_append, List.length_map, List.length_replicate]
    lia
theorem fn_ofH {CX : CXT} {P : Program} {w : World} {K : PySem.W.Frag} {mg : Str → Option Value} {base : Heap} {k : Nat} {f : Addr} {name qual : Str} {params : Arguments} {body : List Stmt} {scope : Scope} {dV kV doc pm cdv ct oc : Value} {an od : Option Addr}
    {osl : Array (Option Value)} {N ps : List Str} {sp : Sp} (lk : K.lookup f = some ⟨oc, od, .func (PySem.W.fnOf name qual params body scope dV kV doc pm an cdv ct), osl⟩) (hcd : PySem.W.codeIn K cdv qual = true) (S : FnScope N ps scope)
    (len : ∀ vs H Q E, sp vs H Q E → vs.length = ps.length)
    (hbody : ∀ (A : Around) (outer : List Env) (s : Shared) (H : Hp) (vs : List V) (Q : VK) (E : XK), RoomH k (A.deeper (envOfC qual scope s.heap.objs.size f cdv)) → sp vs H Q E →
      ∃ t, PSs (cxOfH CX P w K mg base N qual scope f cdv A outer s H E) body t ∧ t { nx := fun _ H' => Q .non H', rt := Q } (start N vs) H) :
    FnOkH P w K mg base CX (k + 1) f (PySem.W.fnOf name qual params body scope dV kV doc pm an cdv ct) ps sp := by
  refine ⟨len, fun A outer s H args us vs Q E hr e0 hb r hsp => ?_⟩
  have hl := len _ _ _ _ hsp
  have KX : K.In s.heap := e0.mod.kin.keeps fun b o e => (e0.bs b o e).1
  have lim : s.heap.NoLimit := e0.mod.nolimit.keeps fun b o e => (e0.bs b o e).1
  have hkind : ∀ y ∈ ps.zip us, scope.names.lookup y.1 = some .local ∨ (scope.names.lookup y.1 = some .cell ∧ ((cellsFrom (s.heap.objs.size + 1) scope.names []).lookup y.1).isSome = true) := fun ⟨n, v⟩ hy => by
    rcases S.par n (List.of_mem_zip hy).1 with q | q
    · exact .inl q
    · exact .inr ⟨q, PySem.W.cellsFrom_some _ _ _ (.inl q)⟩
  refine codeAny_call_function hr.depth (KX _ _ lk) rfl S.co S.gen rfl (PySem.W.codeRec_of KX hcd) (hb _ _ _ _ ?_)
  refine wpAny_newFunctionEnv_cells S.kind hkind fun env he s1 x => ?_
  subst he
  refine ⟨lim.keeps x.toInCall.keep, codeAny_func ?_⟩
  obtain ⟨t, ht, hq⟩ := hbody A outer s H vs Q E (hr.deeper _) hsp
  have I : Inv (cxOfH CX P w K mg base N qual scope f cdv A outer s H E) [] (start N vs) H s1 := inv_startH S e0 hl r x
  refine wpAny_mono (ht [] s1 (start N vs) H _ I hq) (fun fl s' hs => ?_) fun e s' hs => hs
  have fin : ∀ {σ' : St} {H' : Hp} {v : V} {u : Value}, Inv (cxOfH CX P w K mg base N qual scope f cdv A outer s H E) [] σ' H' s' → RelV v u → Q v H' → CE outer P w H s Q u s' :=
    fun {σ' H' v u} J rv q => ⟨v, H', J.os, J.bare, J.base, J.hok, rv, q⟩
  cases fl with
  | ret u =>
    obtain ⟨v, σ', H', J, rv, q⟩ := hs
    exact fin J rv q
  | next =>
    obtain ⟨σ', H', J, q⟩ := hs
    exact fin (v := V.non) (u := Value.none) J rfl q
  | brk =>
    obtain ⟨_, _, _, q⟩ := hs
    exact False.elim q
  | cont =>
    obtain ⟨_, _, _, q⟩ := hs
    exact False.elim q
section
variable {P : Program} {w : World} {K : PySem.W.Frag} {mg : Str → Option Value} {base : Heap}
theorem Fun.okH {x qual : Str} {st : Stmt} {f : Addr} {fd : FuncData} {N ps : List Str} {k : Nat} {sp : Sp} (F : Fun K x qual st f fd) (S : FnScope N ps (defScope st)) (len : ∀ vs H Q E, sp vs H Q E → vs.length = ps.length)
    (hbody : ∀ (cdv : Value) (A : Around) (outer : List Env) (s : Shared) (H : Hp) (vs : List V) (Q : VK) (E : XK), RoomH k (A.deeper (envOfC qual (defScope st) s.heap.objs.size f cdv)) → sp vs H Q E →
      ∃ t, PSs (cxOfH CX0 P w K mg base N qual (defScope st) f cdv A outer s H E).nox (defBody st) t ∧ t { nx := fun _ H' => Q .non H', rt := Q } (start N vs) H) : FnOkH P w K mg base CX0 (k + 1) f fd ps sp := by
  obtain ⟨oc, od, kV, doc, pm, an, cdv, ct, osl, rfl, lk, hcd⟩ := F.ex
  refine fn_ofH lk hcd S len fun A outer s H vs Q E hr hsp => ?_
  obtain ⟨t, h, q⟩ := hbody cdv A outer s H vs Q E hr hsp
  exact ⟨t, h.nox, q⟩
end
end L2
set_option Elab.async false
set_option genSizeOf false
set_option linter.all false
namespace Ink
open Sh
noncomputable def sm {α : Type} [BEq α] : List α → Nat
  | [] => 0
  | g :: r => 1 + (r.takeWhile fun c => c == g).length
theorem sm_bytes (l : Bytes) : sm l = same l := by cases l <;> rfl
section
variable {α : Type} [BEq α] [LawfulBEq α]
theorem sm_le (l : List α) : sm l ≤ l.length := by
  cases l with
  | nil => exact Nat.le_refl _
  | cons g r =>
    have h := (List.takeWhile_sublist (fun c => c == g) (l := r)).length_le
    simp only [sm, List.length_cons]
    lia
theorem sm_pos {l : List α} (h : l ≠ []) : 1 ≤ sm l := by
  cases l with
  | nil => exact absurd rfl h
  | cons g r => simp only [sm]; lia
theorem tw_in {p : α → Bool} : ∀ {l : List α} {k : Nat} {c : α}, l[k]? = some c → k < (l.takeWhile p).length → p c = true
  | [], k, c, h, _ => by simp at h
  | a :: l, 0, c, h, q => by
    simp at h
    subst h
    cases e : p a with
    | true => rfl
    | false => simp [List.takeWhile_cons, e] at q
  | a :: l, k + 1, c, h, q => by
    cases e : p a with
    | true =>
      rw [List.takeWhile_cons, if_pos e] at q
      exact tw_in (l := l) (k := k) (by simpa using h) (by simpa using q)
    | false => simp [List.takeWhile_cons, e] at q
theorem tw_more {p : α → Bool} : ∀ {l : List α} {k : Nat} {c : α}, l[k]? = some c → p c = true → k ≤ (l.takeWhile p).length → k + 1 ≤ (l.takeWhile p).length
  | [], k, c, h, _, _ => by simp at h
  | a :: l, 0, c, h, q, _ => by
    simp at h
    subst h
    simp [List.takeWhile_cons, q]
  | a :: l, k + 1, c, h, q, z => by
    cases e : p a with
    | true =>
      rw [List.takeWhile_cons, if_pos e] at z ⊢
      have ih := tw_more (p := p) (l := l) (k := k) (c := c) (by simpa using h) q (by simpa using z)
      simp only [List.length_cons]
      lia
    | false => simp [List.takeWhile_cons, e] at z
theorem sm_more {l : List α} {g c : α} {k : Nat} (h0 : l[0]? = some g) (h : l[k]? = some c) (e : c = g) (hk : k ≤ sm l) : k + 1 ≤ sm l := by
  subst e
  cases l with
  | nil => simp at h0
  | cons a r =>
    simp at h0
    subst h0
    cases k with
    | zero => simp only [sm]; lia
    | succ k =>
      have q := tw_more (p := fun c => c == a) (l := r) (k := k) (c := a) (by simpa using h) (by simp) (by simp only [sm] at hk; lia)
      simp only [sm]
      lia
theorem sm_stop {l : List α} {g c : α} {k : Nat} (h0 : l[0]? = some g) (h : l[k]? = some c) (e : c ≠ g) (hk : k ≤ sm l) : k = sm l := by
  cases l with
  | nil => simp at h0
  | cons a r =>
    simp at h0
    subst h0
    cases k with
    | zero => simp at h; exact absurd h.symm e
    | succ k =>
      by_cases q : k + 1 = sm (a :: r)
      · exact q
      · have hk' : k < (r.takeWhile fun c => c == a).length := by simp only [sm] at hk q; lia
        have z := tw_in (p := fun c => c == a) (l := r) (k := k) (c := c) (by simpa using h) hk'
        exact absurd (eq_of_beq z) e
end
theorem tw_map {α β : Type} {f : α → β} {p : β → Bool} : ∀ l : List α, ((l.map f).takeWhile p).length = (l.takeWhile fun a => p (f a)).length
  | [] => rfl
  | a :: l => by
    rw [List.map_cons, List.takeWhile_cons, List.takeWhile_cons]
    by_cases e : p (f a) = true
    · rw [if_pos e, if_pos e, List.length_cons, List.length_cons, tw_map l]
    · rw [if_neg e, if_neg e]
      rfl
theorem tw_ext {α : Type} {p q : α → Bool} (h : ∀ a, p a = q a) (l : List α) : l.takeWhile p = l.takeWhile q := by
  have e : p = q := funext h
  rw [e]
theorem sm_map {α β : Type} [BEq α] [LawfulBEq α] [BEq β] [LawfulBEq β] {f : α → β} (hf : ∀ a b, f a = f b → a = b) (l : List α) : sm (l.map f) = sm l := by
  cases l with
  | nil => rfl
  | cons g r =>
    show 1 + ((r.map f).takeWhile fun c => c == f g).length = 1 + (r.takeWhile fun c => c == g).length
    rw [tw_map, tw_ext (q := fun c => c == g) (fun a => ?_)]
    by_cases e : a = g
    · rw [e]; simp
    · have e2 : ¬ f a = f g := fun z => e (hf _ _ z)
      rw [beq_eq_false_iff_ne.mpr e, beq_eq_false_iff_ne.mpr e2]
noncomputable def ilen (k : UInt8) : Nat := if 128 ≤ k.toNat then k.toNat - 125 else k.toNat + 1
noncomputable def item (left : Nat) (b : Bytes) (p : Nat) : Except Fault (Bytes × Nat) := match b with
  | [] => .error ⟨5, p⟩
  | k :: r =>
    if left < ilen k then .error ⟨4, p⟩
    else if 128 ≤ k.toNat then (match r with
      | [] => .error ⟨5, p + 1⟩
      | g :: _ => .ok (List.replicate (ilen k) g, p + 2))
    else if r.length < ilen k then .error ⟨5, p + 1 + r.length⟩
    else .ok (r.take (ilen k), p + 1 + ilen k)
theorem item_ok {left p p' : Nat} {b xs : Bytes} (h : item left b p = .ok (xs, p')) : 1 ≤ xs.length ∧ xs.length ≤ left ∧ p < p' ∧ p' ≤ p + b.length := by
  cases b with
  | nil => cases h
  | cons k r =>
    unfold item at h
    dsimp only at h
    split at h
    · cases h
    · rename_i h1
      split at h
      · rename_i h2
        cases r with
        | nil => cases h
        | cons g t =>
          cases h
          have : 1 ≤ ilen k := by unfold ilen; rw [if_pos h2]; lia
          simp only [List.length_replicate, List.length_cons]
          lia
      · rename_i h2
        split at h
        · cases h
        · rename_i h3
          cases h
          have : 1 ≤ ilen k := by unfold ilen; rw [if_neg h2]; lia
          simp only [List.length_take, List.length_cons]
          lia
theorem readItems_done {w f p : Nat} {had b : Bytes} (h : had.length = w) : readItems w f had b p = .ok (had, b, p) := by
  cases f <;> (unfold readItems; rw [if_pos h])
theorem readItems_step {w f p : Nat} {had b : Bytes} (h : had.length < w) : readItems w (f + 1) had b p = (match item (w - had.length) b p with
    | .error e => .error e
    | .ok x => readItems w f (had ++ x.1) (b.drop (x.2 - p)) x.2) := by
  conv => lhs; rw [readItems.eq_def]
  dsimp only
  rw [if_neg (show ¬ had.length = w by lia)]
  cases b with
  | nil => rfl
  | cons k r =>
    unfold item ilen
    dsimp only
    by_cases h1 : k.toNat < 128
    · have h2 : ¬ 128 ≤ k.toNat := by lia
      simp only [if_pos h1, if_neg h2]
      by_cases h3 : w < had.length + (k.toNat + 1)
      · rw [if_pos h3, if_pos (show w - had.length < k.toNat + 1 by lia)]
      · rw [if_neg h3, if_neg (show ¬ w - had.length < k.toNat + 1 by lia)]
        by_cases h4 : r.length < k.toNat + 1
        · rw [if_pos h4, if_pos h4]
        · rw [if_neg h4, if_neg h4]
          dsimp only
          rw [show p + 1 + (k.toNat + 1) - p = (k.toNat + 1) + 1 by lia, List.drop_succ_cons, show p + 1 + (k.toNat + 1) = p + 2 + k.toNat by lia]
    · have h2 : 128 ≤ k.toNat := by lia
      simp only [if_neg h1, if_pos h2]
      by_cases h3 : w < had.length + (k.toNat - 125)
      · rw [if_pos h3, if_pos (show w - had.length < k.toNat - 125 by lia)]
      · rw [if_neg h3, if_neg (show ¬ w - had.length < k.toNat - 125 by lia)]
        cases r with
        | nil => rfl
        | cons g t =>
          dsimp only
          rw [show p + 2 - p = 2 by lia]
          rfl
noncomputable def rowBody (w : Nat) (above : Option Bytes) (b : Bytes) (p : Nat) : Except Fault (Bytes × Bytes × Nat) := match b with
  | [] => .error ⟨5, p⟩
  | k :: r => if k.toNat = 0 then readItems w w [] r (p + 1) else match above with
    | some a => if k.toNat = 1 then .ok (a, r, p + 1) else .error ⟨3, p⟩
    | none => .error ⟨3, p⟩
theorem readRow_eq (w : Nat) (above : Option Bytes) (b : Bytes) (p : Nat) : readRow w above b p = andThen (rowBody w above b p) fun x =>
    andThen (need (decide (b.take (b.length - x.2.1.length) = writeRow above x.1)) 6 p) fun _ => .ok x := by
  cases b <;> rfl
theorem readItems_rest {w : Nat} : ∀ {f p : Nat} {had b : Bytes} {x : Bytes × Bytes × Nat}, readItems w f had b p = .ok x → had.length ≤ w → w - had.length ≤ f →
    x.1.length = w ∧ ∃ n, x.2.1 = b.drop n ∧ x.2.2 = p + n ∧ n ≤ b.length
  | 0, p, had, b, x, h, h1, h2 => by
    rw [readItems_done (by lia)] at h
    cases h
    exact ⟨by show had.length = w; lia, 0, rfl, rfl, Nat.zero_le _⟩
  | f + 1, p, had, b, x, h, h1, h2 => by
    by_cases q : had.length = w
    · rw [readItems_done q] at h
      cases h
      exact ⟨q, 0, rfl, rfl, Nat.zero_le _⟩
    · rw [readItems_step (by lia)] at h
      cases e : item (w - had.length) b p with
      | error z => rw [e] at h; cases h
      | ok y =>
        rw [e] at h
        obtain ⟨a1, a2, a3, a4⟩ := item_ok (xs := y.1) (p' := y.2) e
        obtain ⟨b1, n, b2, b3, b4⟩ := readItems_rest (f := f) h (by rw [List.length_append]; lia) (by rw [List.length_append]; lia)
        refine ⟨b1, y.2 - p + n, by rw [b2, List.drop_drop], by lia, ?_⟩
        rw [List.length_drop] at b4
        lia
theorem rowBody_rest {w p : Nat} {above : Option Bytes} {b : Bytes} {x : Bytes × Bytes × Nat} (h : rowBody w above b p = .ok x) (ha : ∀ a, above = some a → a.length = w) :
    x.1.length = w ∧ ∃ n, x.2.1 = b.drop n ∧ x.2.2 = p + n ∧ n ≤ b.length := by
  cases b with
  | nil => cases h
  | cons k r =>
    unfold rowBody at h
    dsimp only at h
    split at h
    · obtain ⟨b1, n, b2, b3, b4⟩ := readItems_rest h (Nat.zero_le _) (Nat.le_refl _)
      exact ⟨b1, n + 1, by rw [b2]; rfl, by lia, by rw [List.length_cons]; lia⟩
    · cases above with
      | none => cases h
      | some a =>
        dsimp only at h
        split at h
        · cases h
          exact ⟨ha a rfl, 1, rfl, rfl, by rw [List.length_cons]; lia⟩
        · cases h
end Ink
set_option Elab.async false
set_option genSizeOf false
set_option linter.all false
namespace Ink
open Sh
theorem mixed_nil (f : Nat) : mixed f [] = 0 := by cases f <;> rfl
theorem mixed_stop (f : Nat) {m : Bytes} (h : 3 ≤ same m) : mixed f m = 0 := by
  cases f with
  | zero => rfl
  | succ f =>
    cases m with
    | nil => rfl
    | cons g r => rw [mixed, if_pos h]
theorem mixed_more {f : Nat} {m : Bytes} (hm : m ≠ []) (h : ¬ 3 ≤ same m) : mixed (f + 1) m = 1 + mixed f (m.drop 1) := by
  cases m with
  | nil => exact absurd rfl hm
  | cons g r =>
    rw [mixed, if_neg h]
    rfl
theorem mixed_le : ∀ (f : Nat) (m : Bytes), mixed f m ≤ f ∧ mixed f m ≤ m.length
  | 0, m => ⟨Nat.le_refl _, Nat.zero_le _⟩
  | f + 1, [] => ⟨Nat.zero_le _, Nat.le_refl _⟩
  | f + 1, g :: r => by
    have ih := mixed_le f r
    rw [mixed]
    split
    · exact ⟨Nat.zero_le _, Nat.zero_le _⟩
    · rw [List.length_cons]; lia
theorem items_nil (f : Nat) : writeItems f [] = [] := by cases f <;> rfl
theorem items_same {f : Nat} {g : UInt8} {r : Bytes} (h : 3 ≤ same (g :: r)) :
    writeItems (f + 1) (g :: r) = UInt8.ofNat (min (same (g :: r)) 130 + 125) :: g :: writeItems f ((g :: r).drop (min (same (g :: r)) 130)) := by
  rw [writeItems, if_pos h]
theorem items_mixed {f : Nat} {g : UInt8} {r : Bytes} (h : ¬ 3 ≤ same (g :: r)) :
    writeItems (f + 1) (g :: r) = UInt8.ofNat (mixed 128 (g :: r) - 1) :: ((g :: r).take (mixed 128 (g :: r)) ++ writeItems f ((g :: r).drop (mixed 128 (g :: r)))) := by
  rw [writeItems, if_neg h]
theorem byte_nat {n : Nat} (h : n ≤ 255) : (UInt8.ofNat n).toNat = n := by
  show n % 256 = n
  lia
theorem items_len : ∀ (f : Nat) (l : Bytes), (writeItems f l).length ≤ 2 * l.length
  | 0, l => Nat.zero_le _
  | f + 1, [] => Nat.zero_le _
  | f + 1, g :: r => by
    by_cases h : 3 ≤ same (g :: r)
    · rw [items_same h]
      have ih := items_len f ((g :: r).drop (min (same (g :: r)) 130))
      have z : same (g :: r) ≤ (g :: r).length := by rw [← sm_bytes]; exact sm_le _
      rw [List.length_drop] at ih
      simp only [List.length_cons] at *
      lia
    · rw [items_mixed h]
      have ih := items_len f ((g :: r).drop (mixed 128 (g :: r)))
      have z := mixed_le 128 (g :: r)
      have z1 : mixed 128 (g :: r) = 1 + mixed 127 ((g :: r).drop 1) := mixed_more (by simp) h
      rw [List.length_drop] at ih
      simp only [List.length_cons, List.length_append, List.length_take] at *
      lia
section
variable {α : Type}
noncomputable abbrev Body (α : Type) := Option α → Bytes → Nat → Except Fault (α × Bytes × Nat)
noncomputable def rowG (body : Body α) (wr : Option α → α → Bytes) : Body α := fun above b p =>
  andThen (body above b p) fun x => andThen (need (decide (b.take (b.length - x.2.1.length) = wr above x.1)) 6 p) fun _ => .ok x
noncomputable def rowsG (body : Body α) (wr : Option α → α → Bytes) : Nat → Option α → Bytes → Nat → Except Fault (List α)
  | 0, _, b, p => andThen (need b.isEmpty 7 p) fun _ => .ok []
  | h + 1, above, b, p => andThen (rowG body wr above b p) fun x => andThen (rowsG body wr h (some x.1) x.2.1 x.2.2) fun l => .ok (x.1 :: l)
noncomputable def pre (l : List α) : Except Fault (List α) → Except Fault (List α)
  | .error e => .error e
  | .ok y => .ok (l ++ y)
theorem pre_nil (x : Except Fault (List α)) : pre [] x = x := by cases x <;> rfl
theorem pre_step (body : Body α) (wr : Option α → α → Bytes) (l : List α) (h : Nat) (above : Option α) (b : Bytes) (p : Nat) :
    pre l (rowsG body wr (h + 1) above b p) = (match rowG body wr above b p with
      | .error e => .error e
      | .ok x => pre (l ++ [x.1]) (rowsG body wr h (some x.1) x.2.1 x.2.2)) := by
  rw [rowsG]
  cases e : rowG body wr above b p with
  | error z => rfl
  | ok x =>
    show pre l (andThen (rowsG body wr h (some x.1) x.2.1 x.2.2) fun l => .ok (x.1 :: l)) = pre (l ++ [x.1]) (rowsG body wr h (some x.1) x.2.1 x.2.2)
    cases rowsG body wr h (some x.1) x.2.1 x.2.2 with
    | error z => rfl
    | ok y =>
      show Except.ok (l ++ (x.1 :: y)) = Except.ok ((l ++ [x.1]) ++ y)
      rw [List.append_assoc]
      rfl
theorem pre_end (body : Body α) (wr : Option α → α → Bytes) (l : List α) (above : Option α) (b : Bytes) (p : Nat) :
    pre l (rowsG body wr 0 above b p) = if b = [] then .ok l else .error ⟨7, p⟩ := by
  rw [rowsG]
  cases b with
  | nil =>
    rw [if_pos rfl]
    show Except.ok (l ++ []) = _
    rw [List.append_nil]
  | cons a r =>
    rw [if_neg (by simp)]
    rfl
theorem rowG_eq (body : Body α) (wr : Option α → α → Bytes) (above : Option α) (b : Bytes) (p : Nat) : rowG body wr above b p = (match body above b p with
    | .error e => .error e
    | .ok x => if b.take (b.length - x.2.1.length) = wr above x.1 then .ok x else .error ⟨6, p⟩) := by
  unfold rowG
  cases body above b p with
  | error e => rfl
  | ok x =>
    show andThen (need (decide (b.take (b.length - x.2.1.length) = wr above x.1)) 6 p) _ = _
    by_cases h : b.take (b.length - x.2.1.length) = wr above x.1
    · rw [decide_eq_true h]
      dsimp only
      rw [if_pos h]
      rfl
    · rw [decide_eq_false h]
      dsimp only
      rw [if_neg h]
      rfl
end
theorem readRows_G (w : Nat) : ∀ (h : Nat) (above : Option Bytes) (b : Bytes) (p : Nat), readRows w h above b p = rowsG (rowBody w) writeRow h above b p
  | 0, _, _, _ => rfl
  | h + 1, above, b, p => by
    rw [readRows, rowsG, readRow_eq]
    show andThen (rowG (rowBody w) writeRow above b p) _ = _
    congr 1
    funext x
    rw [readRows_G w h]
theorem find_first {p : Nat → Bool} : ∀ {n i : Nat}, i < n → p i = true → (∀ j, j < i → p j = false) → (List.range n).find? p = some i := by
  intro n i hi hp hj
  rw [List.find?_range_eq_some]
  refine ⟨hp, List.mem_range.mpr hi, fun j hji => ?_⟩
  rw [hj j hji]
  rfl
theorem markAt_some {m b : Bytes} {i : Nat} (hi : i < m.length) (hp : b[i]? ≠ m[i]?) (hj : ∀ j, j < i → b[j]? = m[j]?) : markAt m b = some i := by
  unfold markAt
  refine find_first hi ?_ fun j q => ?_
  · simp [hp]
  · simp [hj j q]
theorem markAt_none {m b : Bytes} (hj : ∀ j, j < m.length → b[j]? = m[j]?) : markAt m b = none := by
  unfold markAt
  rw [List.find?_eq_none]
  intro x hx
  simp [hj x (List.mem_range.mp hx)]
theorem head_mark {m b : Bytes} {i : Nat} (h : markAt m b = some i) : readHead m b = .error ⟨if i < b.length then 1 else 5, min i b.length⟩ := by
  unfold readHead
  rw [h]
theorem head_rest {m b : Bytes} (h : markAt m b = none) : readHead m b = (if b.length < 8 then .error ⟨5, b.length⟩ else if ¬ (1 ≤ u32 b 4 ∧ u32 b 4 ≤ 8192) then .error ⟨2, 4⟩
    else if b.length < 12 then .error ⟨5, b.length⟩ else if ¬ (1 ≤ u32 b 8 ∧ u32 b 8 ≤ 8192 ∧ u32 b 4 * u32 b 8 ≤ 16777216) then .error ⟨2, 8⟩ else .ok (u32 b 4, u32 b 8)) := by
  have nd : ∀ {c : Prop} [Decidable c] {r p : Nat} {β : Type} {k : Unit → Except Fault β}, andThen (need (decide c) r p) k = if ¬ c then .error ⟨r, p⟩ else k () := by
    intro c _ r p β k
    by_cases h : c
    · rw [decide_eq_true h, if_neg (fun z => z h)]; rfl
    · rw [decide_eq_false h, if_pos h]; rfl
  unfold readHead
  rw [h]
  dsimp only
  rw [show (decide (1 ≤ u32 b 4) && decide (u32 b 4 ≤ EDGE)) = decide (1 ≤ u32 b 4 ∧ u32 b 4 ≤ 8192) from by unfold EDGE; simp,
    show (decide (1 ≤ u32 b 8) && (decide (u32 b 8 ≤ EDGE) && decide (u32 b 4 * u32 b 8 ≤ POINTS))) = decide (1 ≤ u32 b 8 ∧ u32 b 8 ≤ 8192 ∧ u32 b 4 * u32 b 8 ≤ 16777216) from by unfold EDGE POINTS; simp]
  rw [nd, nd, nd, nd]
  simp only [Nat.not_le]
theorem u32_four {b : Bytes} {i : Nat} {c0 c1 c2 c3 : UInt8} (h0 : b[i]? = some c0) (h1 : b[i + 1]? = some c1) (h2 : b[i + 2]? = some c2) (h3 : b[i + 3]? = some c3) :
    u32 b i = c0.toNat + 256 * c1.toNat + 65536 * c2.toNat + 16777216 * c3.toNat := by
  have e : (b.drop i).take 4 = [c0, c1, c2, c3] := by
    apply List.ext_getElem?
    intro j
    rw [List.getElem?_take, List.getElem?_drop]
    match j with
    | 0 => simpa using h0
    | 1 => simpa using h1
    | 2 => simpa using h2
    | 3 => simpa using h3
    | j + 4 => rw [if_neg (by lia)]; simp
  unfold u32
  rw [e]
  simp only [num, List.foldr_cons, List.foldr_nil]
  lia
end Ink
set_option Elab.async false
set_option genSizeOf false
set_option linter.all false
namespace Ink
open Sh
theorem runs_nil (f : Nat) : writeRuns f [] = [] := by cases f <;> rfl
instance : LawfulBEq Trit where
  eq_of_beq {a b} h := by cases a <;> cases b <;> first | rfl | (exact absurd h (by decide))
  rfl {a} := by cases a <;> rfl
theorem runs_step {f : Nat} {t : Trit} {r : List Trit} : writeRuns (f + 1) (t :: r) = UInt8.ofNat (64 * t.number + (min (sm (t :: r)) 64 - 1)) :: writeRuns f ((t :: r).drop (min (sm (t :: r)) 64)) := rfl
theorem runs_len : ∀ (f : Nat) (l : List Trit), (writeRuns f l).length ≤ l.length
  | 0, l => Nat.zero_le _
  | f + 1, [] => Nat.zero_le _
  | f + 1, t :: r => by
    rw [runs_step]
    have ih := runs_len f ((t :: r).drop (min (sm (t :: r)) 64))
    have z := sm_le (t :: r)
    have z1 := sm_pos (l := t :: r) (by simp)
    rw [List.length_drop] at ih
    simp only [List.length_cons] at *
    lia
theorem trit_le (t : Trit) : t.number ≤ 2 := by cases t <;> decide
theorem trit_inj {a b : Trit} (h : a.number = b.number) : a = b := by cases a <;> cases b <;> first | rfl | (exact absurd h (by decide))
end Ink
set_option Elab.async false
set_option genSizeOf false
set_option linter.all false
namespace Ink
open Sh ShA
noncomputable def writeG {α : Type} (wr : Option α → α → Bytes) : Option α → List α → Bytes
  | _, [] => []
  | a, l :: r => wr a l ++ writeG wr (some l) r
theorem writeLines_G : ∀ (a : Option (List Trit)) (l : List (List Trit)), writeLines a l = writeG writeLine a l
  | _, [] => rfl
  | a, l :: r => by rw [writeLines, writeG, writeLines_G]
theorem writeG_len {α : Type} {wr : Option α → α → Bytes} {n : Nat} : ∀ (a : Option α) (rs : List α), (∀ a x, x ∈ rs → (wr a x).length ≤ n) → (writeG wr a rs).length ≤ rs.length * n
  | _, [], _ => Nat.zero_le _
  | a, x :: rs, h => by
    have ih := writeG_len (some x) rs fun a y hy => h a y (List.mem_cons_of_mem _ hy)
    have h0 := h a x (List.mem_cons_self ..)
    rw [writeG, List.length_append, List.length_cons, Nat.add_mul, Nat.one_mul]
    lia
theorem writeLine_len (a : Option (List Trit)) (l : List Trit) : (writeLine a l).length ≤ 1 + 2 * l.length := by
  unfold writeLine
  split
  · show 1 ≤ _
    lia
  · have := runs_len l.length l
    lia
theorem le4_len (n : Nat) : (le 4 n).length = 4 := rfl
theorem le4_take {n i : Nat} (h : i < 4) : (le 4 n).take (i + 1) = (le 4 n).take i ++ [UInt8.ofNat (n / 256 ^ i % 256)] := by
  match i, h with
  | 0, _ => simp [le]
  | 1, _ => simp [le]
  | 2, _ => simp [le, Nat.div_div_eq_div_mul]
  | 3, _ => simp [le, Nat.div_div_eq_div_mul]
section
variable {α β : Type} {w : Nat}
end
theorem by_at {w h y : Nat} {f : Nat → Nat → Trit} (hy : y < h) : (Scan.by_ w h f).rows[y]? = some ((List.range w).map fun x => f x y) := by
  unfold Scan.by_
  dsimp only
  rw [List.getElem?_map, List.getElem?_range hy]
  rfl
theorem by_len {w h : Nat} {f : Nat → Nat → Trit} : (Scan.by_ w h f).rows.length = h := by
  unfold Scan.by_
  simp
theorem getD_some {α : Type} {l : List α} {i : Nat} {x d : α} (h : l[i]? = some x) : l.getD i d = x := by
  rw [List.getD_eq_getElem?_getD, h]
  rfl
noncomputable def sumTo (f : Nat → Nat) : Nat → Nat
  | 0 => 0
  | n + 1 => sumTo f n + f n
theorem filt (lo hi : Nat) : ∀ n : Nat, (List.range n).filter (fun u => decide (lo ≤ u) && decide (u < hi)) = List.range' lo (min hi n - lo)
  | 0 => by simp
  | n + 1 => by
    rw [List.range_succ, List.filter_append, filt lo hi n]
    by_cases h1 : lo ≤ n
    · by_cases h2 : n < hi
      · have e : min hi (n + 1) - lo = (min hi n - lo) + 1 := by lia
        have e2 : lo + (min hi n - lo) = n := by lia
        rw [e, List.range'_1_concat, e2]
        simp [h1, h2]
      · have e : min hi (n + 1) - lo = min hi n - lo := by lia
        rw [e]
        simp [h2]
    · have e : min hi (n + 1) - lo = min hi n - lo := by lia
      rw [e]
      simp [h1]
theorem foldl_add (l : List Nat) : ∀ a : Nat, l.foldl (fun (a b : Nat) => a + b) a = a + l.foldl (fun (a b : Nat) => a + b) 0 := by
  induction l with
  | nil => intro a; rfl
  | cons x l ih =>
    intro a
    rw [List.foldl_cons, List.foldl_cons, ih (a + x), ih (0 + x)]
    lia
theorem fold_range (f : Nat → Nat) : ∀ (k lo : Nat), sumTo f lo + ((List.range' lo k).map f).foldl (fun (a b : Nat) => a + b) 0 = sumTo f (lo + k)
  | 0, lo => rfl
  | k + 1, lo => by
    have ih := fold_range f k (lo + 1)
    rw [List.range'_succ, List.map_cons, List.foldl_cons, foldl_add]
    have e : sumTo f (lo + 1) = sumTo f lo + f lo := rfl
    rw [e] at ih
    rw [show lo + (k + 1) = lo + 1 + k by lia, ← ih]
    lia
theorem sumTo_add (f g h : Nat → Nat) (e : ∀ v, f v + g v = h v) : ∀ n : Nat, sumTo f n + sumTo g n = sumTo h n
  | 0 => rfl
  | n + 1 => by
    have ih := sumTo_add f g h e n
    have := e n
    simp only [sumTo]
    lia
noncomputable def corner (P : Picture) (y x : Nat) : Nat := sumTo (fun v => sumTo (fun u => P.at_ u v) x) y
theorem window_eq (P : Picture) (r x y : Nat) (hx : x < P.width) (hy : y < P.height) :
    (windowOf P r x y).1 = (min (x + r + 1) P.width - (x - r)) * (min (y + r + 1) P.height - (y - r)) ∧
    (windowOf P r x y).2 + corner P (min (y + r + 1) P.height) (x - r) + corner P (y - r) (min (x + r + 1) P.width) = corner P (min (y + r + 1) P.height) (min (x + r + 1) P.width) + corner P (y - r) (x - r) := by
  have fe : ∀ (a n : Nat), (List.range n).filter (fun (u : Nat) => decide (a ≤ u + r) && decide (u ≤ a + r)) = List.range' (a - r) (min (a + r + 1) n - (a - r)) := fun a n => by
    rw [← filt]
    congr 1
    funext u
    have e1 : decide (a ≤ u + r) = decide (a - r ≤ u) := by
      by_cases q : a ≤ u + r
      · rw [decide_eq_true q, decide_eq_true (by lia)]
      · rw [decide_eq_false q, decide_eq_false (by lia)]
    have e2 : decide (u ≤ a + r) = decide (u < a + r + 1) := by
      by_cases q : u ≤ a + r
      · rw [decide_eq_true q, decide_eq_true (by lia)]
      · rw [decide_eq_false q, decide_eq_false (by lia)]
    rw [e1, e2]
  unfold windowOf
  dsimp only
  rw [fe x P.width, fe y P.height]
  refine ⟨by rw [List.length_range', List.length_range'], ?_⟩
  generalize hl : x - r = l
  generalize hrt : min (x + r + 1) P.width = rt
  generalize ht : y - r = t
  generalize hb : min (y + r + 1) P.height = b
  have hlr : l ≤ rt := by lia
  have htb : t ≤ b := by lia
  have inner : ∀ v, ((List.range' l (rt - l)).map fun u => P.at_ u v).foldl (fun (a b : Nat) => a + b) 0 + sumTo (fun u => P.at_ u v) l = sumTo (fun u => P.at_ u v) rt := fun v => by
    have z := fold_range (fun u => P.at_ u v) (rt - l) l
    rw [show l + (rt - l) = rt by lia] at z
    lia
  have outer := fold_range (fun v => ((List.range' l (rt - l)).map fun u => P.at_ u v).foldl (fun (a b : Nat) => a + b) 0) (b - t) t
  rw [show t + (b - t) = b by lia] at outer
  have sb := sumTo_add _ _ _ inner b
  have st := sumTo_add _ _ _ inner t
  unfold corner
  lia
theorem tell_at {P : Picture} {R : Rule} {y : Nat} (hy : y < P.height) : (tell P R).rows[y]? = some ((List.range P.width).map fun x => tellPoint P R x y) := by
  unfold tell
  exact by_at hy
end Ink
set_option Elab.async false
set_option genSizeOf false
set_option linter.all false
set_option maxRecDepth 100000
set_option maxHeartbeats 4000000
namespace L2
open PySem PySem.Spec PyProof.Rows XE
noncomputable def tCallV (f : Addr) (sp : Sp) (E : XK) (tv : TE) (t : TA) : TE := fun σ H Q => tv σ H fun v H0 => v = .ref f ∧ t σ H0 fun vs H1 => sp vs H1 Q E
theorem pe_callV {X : Cx} {CX : CXT} {k : Nat} {f : Addr} {fd : FuncData} {ps : List Str} {sp : Sp} {E : XK} {x : Str} {p pos : Pos} {e : Expr} {es : List Expr} {tv : TE} {t : TA} (hn : PE X (.Name x p) tv) (F : FnOk X.prog X.w X.K X.mg X.base CX k f fd ps sp) (hr : Room k X.A) (hk : PySem.W.keepIn X.K (.ref f) = true) (hb : Binds X.K fd ps [])
    (hx : Passes CX X E) (ha : PA X (e :: es) t) (he : starEach (e :: es) X.env = (false, eval e X.env) :: starEach es X.env := by rfl) (hpl : (backTo pos (starEach es X.env)).any (·.1) = false := by rfl) :
    PE X (.Call (.Name x p) (e :: es) [] pos) (tCallV f sp E tv t) := by
  intro pins s σ H Q I h
  refine wpAny_Call_Name_kw (thn (hn pins s σ H _ I h) fun u s0 hz42 => ?_)
  obtain ⟨v, H0, I0, rv, ev, q0⟩ := hz42
  subst ev
  obtain rfl : u = Value.ref f := rv
  refine PySem.W.callWith_K (h₀ := X.base) I.ok.mod.kin hk (thn (ha pos pins s0 σ H0 _ I0 q0) fun us s1 ⟨vs, H1, I1, r, q⟩ => ⟨I1.kIn, ?_⟩) he hpl
  exact run_fn (dvs := []) F hr hb .nil hx I1 r (by rw [List.append_nil]; exact q)
theorem seqK {t u : TS} {D : Ends} {σ : St} {H : Hp} (h : ∀ R : TS, (∀ D σ H, u D σ H → R D σ H) → tSeq t R D σ H) : tSeq t u D σ H := h u fun _ _ _ z => z
noncomputable def Keep (r : Addr) (H H' : Hp) : Prop := ∀ x o, H x = some o → x ≠ r → H' x = some o
theorem Keep.refl (r : Addr) (H : Hp) : Keep r H H := fun _ _ e _ => e
theorem Keep.trans {r : Addr} {H H1 H2 : Hp} (a : Keep r H H1) (b : Keep r H1 H2) : Keep r H H2 := fun x o e n => b x o (a x o e n) n
theorem Keep.same {r : Addr} {H H1 : Hp} (a : Same H H1) : Keep r H H1 := fun x o e _ => a x o e
theorem Keep.upd {r : Addr} {H : Hp} {o : HO} : Keep r H (upd H r o) := fun x u e n => by rw [upd_ne n]; exact e
theorem Same.new {H : Hp} {p : Addr} {o : HO} (h : H p = none) : Same H (upd H p o) := fun x u e => by rw [upd_ne (ne_of_none e h)]; exact e
end L2
namespace Pg
open PySem PySem.Spec PyProof.Rows L2 Sh Ink
noncomputable def bv (b : Bytes) : List V := b.map fun c => V.int (c.toNat : Int)
theorem bv_len (b : Bytes) : (bv b).length = b.length := List.length_map ..
theorem bv_get {b : Bytes} {i : Nat} {c : UInt8} (h : b[i]? = some c) : (bv b)[i]? = some (V.int (c.toNat : Int)) := by
  unfold bv
  rw [List.getElem?_map, h]
  rfl
theorem bv_app (a b : Bytes) : bv (a ++ b) = bv a ++ bv b := List.map_append
noncomputable def xf (r p : Nat) : List (Str × V) := putF "place" (.int (p : Int)) [("rule", .int (r : Int))]
noncomputable def Fails (CF : Addr) (E : XK) (r p : Nat) : Prop := ∀ d H', H' d = some (xdV d (xf r p)) → E (.ref CF) (some d) H'
noncomputable def rf (d : Addr) (p : Nat) : List (Str × V) := putF "place" (.int (p : Int)) [("data", .ref d)]
theorem rf_data (d : Addr) (p : Nat) : (rf d p).lookup ("data" : Str) = some (.ref d) := by
  unfold rf
  rw [lookup_putF, if_neg (by decide +kernel)]
  rfl
theorem rf_place (d : Addr) (p : Nat) : (rf d p).lookup ("place" : Str) = some (.int (p : Int)) := by
  unfold rf
  rw [lookup_putF, if_pos rfl]
theorem rf_put (d : Addr) (p q : Nat) : putF "place" (.int (q : Int)) (rf d p) = rf d q := by
  unfold rf
  rfl
theorem rf_no (d : Addr) (p : Nat) {m : Str} (h1 : ¬ m = "place") (h2 : ¬ m = "data") : (rf d p).lookup m = none := by
  unfold rf
  rw [lookup_putF, if_neg h1]
  have e : (m == ("data" : Str)) = false := beq_eq_false_iff_ne.mpr h2
  simp only [List.lookup, e]
theorem rf_len (d : Addr) (p : Nat) : (rf d p).length < 1000 := by
  show 2 < 1000
  decide
noncomputable def Dat (K : PySem.W.Frag) (H : Hp) (a : Addr) (xs : List V) : Prop := (∃ o, H a = some (.frz o (.lst xs))) ∨ ∀ H', SqL K H' a xs
theorem Dat.sq {K : PySem.W.Frag} {H : Hp} {a : Addr} {xs : List V} (h : Dat K H a xs) : SqL K H a xs := by
  rcases h with h | h
  · exact .inl (.inr h)
  · exact h H
theorem Dat.same {K : PySem.W.Frag} {H H' : Hp} {a : Addr} {xs : List V} (h : Dat K H a xs) (k : Same H H') : Dat K H' a xs := by
  rcases h with ⟨o, h⟩ | h
  · exact .inl ⟨o, k _ _ h⟩
  · exact .inr h
theorem Dat.keep {K : PySem.W.Frag} {H H' : Hp} {a r C dx : Addr} {fs : List (Str × V)} {xs : List V} (h : Dat K H a xs) (k : Keep r H H') (hr : H r = some (.ins C dx fs)) : Dat K H' a xs := by
  rcases h with ⟨o, h⟩ | h
  · exact .inl ⟨o, k _ _ h (ne_of h hr (by intro z; cases z))⟩
  · exact .inr h
theorem Dat.of {K : PySem.W.Frag} {H : Hp} {a : Addr} {xs : List V} (hO : OnlyF H) (h : SqL K H a xs) : Dat K H a xs := by
  rcases h with (h | h) | h
  · rcases hO a with q | ⟨o, u, q⟩
    · rw [h] at q
      cases q
    · rw [h] at q
      cases q
  · exact .inl h
  · exact .inr fun _ => .inr h
structure RdAt (K : PySem.W.Frag) (CR : Addr) (b : Bytes) (H : Hp) (r d : Addr) (p : Nat) : Prop where
  rd : ∃ dx, H r = some (.ins CR dx (rf d p))
  dt : Dat K H d (bv b)
  le : p ≤ b.length
theorem RdAt.sq {K : PySem.W.Frag} {CR : Addr} {b : Bytes} {H : Hp} {r d : Addr} {p : Nat} (R : RdAt K CR b H r d p) : SqL K H d (bv b) := R.dt.sq
theorem RdAt.keep {K : PySem.W.Frag} {CR : Addr} {b : Bytes} {H H' : Hp} {r d : Addr} {p : Nat} (R : RdAt K CR b H r d p) (k : Same H H') : RdAt K CR b H' r d p := by
  obtain ⟨⟨dx, h⟩, h2, le⟩ := R
  exact ⟨⟨dx, k _ _ h⟩, h2.same k, le⟩
theorem RdAt.dkeep {K : PySem.W.Frag} {CR : Addr} {b : Bytes} {H H' : Hp} {r d : Addr} {p : Nat} (R : RdAt K CR b H r d p) (k : Keep r H H') : Dat K H' d (bv b) := by
  obtain ⟨⟨dx, h⟩, h2, le⟩ := R
  exact h2.keep k h
theorem Dat.lst {K : PySem.W.Frag} {H : Hp} {a D : Addr} {xs ys : List V} {o : HO} (h : Dat K H a xs) (hD : H D = some (.lst ys)) : Dat K (upd H D o) a xs := by
  rcases h with ⟨u, h⟩ | h
  · exact .inl ⟨u, by rw [upd_ne (ne_of h hD (by intro z; cases z))]; exact h⟩
  · exact .inr h
theorem RdAt.lst {K : PySem.W.Frag} {CR : Addr} {b : Bytes} {H : Hp} {r d D : Addr} {p : Nat} {ys : List V} {o : HO} (R : RdAt K CR b H r d p) (hD : H D = some (.lst ys)) : RdAt K CR b (upd H D o) r d p := by
  obtain ⟨⟨dx, h⟩, h2, le⟩ := R
  exact ⟨⟨dx, by rw [upd_ne (ne_of h hD (by intro z; cases z))]; exact h⟩, h2.lst hD, le⟩
structure Txt (K : PySem.W.Frag) (mg : Str → Option Value) (CF fI CR : Addr) : Prop where
  xc : XC K CF fI
  xr : XA K CF "rule"
  xp : XA K CF "place"
  mgF : mg "FormFault" = some (.ref CF)
  cl : Cls K CR
  nD : NoAttr K CR "data"
  nP : NoAttr K CR "place"
  mgR : mg "Reader" = some (.ref CR)
  len : mg "len" = none
  range : mg "range" = none
noncomputable def Cst (mg : Str → Option Value) (x : Str) (n : Int) : Prop := ∃ t, mg x = some (.int n t)
theorem pe_cst {X : Cx} {x : Str} {n : Int} {pos : Pos} (c : Cst X.mg x n) (hg : Gl X x) (hd : (x == ("__debug__" : Str)) = false := by decide) : PE X (.Name x pos) (tC (.int n)) := by
  obtain ⟨t, h⟩ := c
  exact pe_glob hg h ⟨t, rfl⟩ hd
end Pg
set_option Elab.async false
set_option genSizeOf false
set_option linter.all false
set_option maxRecDepth 100000
set_option maxHeartbeats 4000000
namespace Pg
open PySem PySem.Spec PyProof.Rows L2 Sh Ink
noncomputable def top (i : Nat) : Stmt := PySem.Challenge.pw_inkpaper_s07_tell.main.body.getD i (.Pass ⟨0, 0, 0, 0⟩)
noncomputable abbrev s_FormFault_init : Stmt := inClass (top 11) 0
noncomputable abbrev s_Reader_init : Stmt := inClass (top 12) 0
noncomputable abbrev s_Reader_at_end : Stmt := inClass (top 12) 1
noncomputable abbrev s_Reader_look : Stmt := inClass (top 12) 2
noncomputable abbrev s_Reader_take : Stmt := inClass (top 12) 3
noncomputable abbrev s_Reader_take_number : Stmt := inClass (top 12) 4
noncomputable abbrev s_Reader_taken_from : Stmt := inClass (top 12) 5
noncomputable abbrev s_read_mark : Stmt := top 13
noncomputable abbrev s_is_side : Stmt := top 14
noncomputable abbrev s_is_size : Stmt := top 15
noncomputable abbrev s_read_width : Stmt := top 16
noncomputable abbrev s_read_height : Stmt := top 17
noncomputable abbrev s_read_rows : Stmt := top 18
noncomputable abbrev s_write_rows : Stmt := top 19
noncomputable abbrev s_number_bytes : Stmt := top 20
noncomputable abbrev s_count_same : Stmt := top 21
noncomputable abbrev s_write_scan : Stmt := top 29
noncomputable abbrev s_write_row : Stmt := top 30
noncomputable abbrev s_read_picture : Stmt := top 40
noncomputable abbrev s_read_row : Stmt := top 41
noncomputable abbrev s_read_item : Stmt := top 42
noncomputable abbrev s_item_length : Stmt := top 43
noncomputable abbrev s_write_row_2 : Stmt := top 44
noncomputable abbrev s_greys_end : Stmt := top 46
noncomputable abbrev s_Window_init : Stmt := inClass (top 50) 0
noncomputable abbrev s_Rule_init : Stmt := inClass (top 51) 0
noncomputable abbrev s_Rule_is_so : Stmt := inClass (top 51) 1
noncomputable abbrev s_Rule_kind_of : Stmt := inClass (top 51) 2
noncomputable abbrev s_Sums_init : Stmt := inClass (top 52) 0
noncomputable abbrev s_Sums_window_of : Stmt := inClass (top 52) 1
noncomputable abbrev s_corner_sums : Stmt := top 53
noncomputable abbrev s_tell_rows : Stmt := top 54
noncomputable abbrev s_tell_row : Stmt := top 55
noncomputable abbrev s_tell : Stmt := top 61
noncomputable abbrev s_form_refused : Stmt := top 62
noncomputable abbrev s_row_answer : Stmt := top 63
end Pg
namespace Pg
open PySem PySem.Spec PyProof.Rows L2 Sh Ink
section
variable {P : Program} {w : World} {K : PySem.W.Frag} {mg : Str → Option Value} {base : Heap} {CF fI CR : Addr}
noncomputable def spFI (CF : Addr) : Sp := fun vs H Q _ => ∃ (e t : Addr) (r p : Nat), vs = [.ref e, .int (r : Int), .int (p : Int)] ∧ H e = some (excV e CF t none) ∧ ∀ H' d, H' e = some (excV e CF t (some d)) → H' d = some (xdV d (xf r p)) → d ≠ e → Q .non H'
theorem scFI : FnScope ["self", "rule", "place"] ["self", "rule", "place"] (defScope s_FormFault_init) := ⟨rfl, rfl, rfl, by decide +kernel, rfl, by decide +kernel, by decide +kernel⟩
theorem ok_FI {f : Addr} {fd : FuncData} (F : Fun K "__init__" "FormFault.__init__" s_FormFault_init f fd) (T : Txt K mg CF fI CR) : FnOk P w K mg base (CXE P w) 1 f fd ["self", "rule", "place"] (spFI CF) := by
  refine F.okX scFI (fun vs H Q E h => ?_) (fun cdv A outer s H vs Q E hr h => ?_)
  · obtain ⟨e, t, r, p, rfl, _⟩ := h
    rfl
  · obtain ⟨e, t, r, p, rfl, he, k⟩ := h
    refine ⟨_, pss_cons (ps_x0 (pv 0) (pv 1) rfl) (pss_one (ps_x1 (pv 0) (pv 2) rfl)), ?_⟩
    try dsimp only [cxOf]
    refine ⟨_, rfl, _, rfl, e, CF, t, fI, rfl, he, T.xc, T.xr, fun d hd => ?_⟩
    have de : d ≠ e := fun z => by subst z; rw [he] at hd; cases hd
    refine ⟨_, rfl, _, rfl, e, CF, t, fI, d, _, rfl, upd_same, (by rw [upd_ne de, upd_same]), (by show 1 < 1000; decide), T.xc, T.xp, ?_⟩
    exact k _ d (by rw [upd_ne (Ne.symm de), upd_same]) upd_same de
theorem fails_raise {E : XK} {e t : Addr} {r p : Nat} {H : Hp} (h : Fails CF E r p) : ∀ H' d, H' e = some (excV e CF t (some d)) → H' d = some (xdV d (xf r p)) → d ≠ e → (V.non = V.non ∧ ∃ d, H' e = some (excV e CF t (some d)) ∧ E (.ref CF) (some d) (cutH H' e)) := fun H' d h1 h2 h3 =>
  ⟨rfl, d, h1, h d _ (by rw [cutH_ne h3]; exact h2)⟩
noncomputable def spRI (CR : Addr) : Sp := fun vs H Q _ => ∃ (r dx d : Addr), vs = [.ref r, .ref d] ∧ H r = some (.ins CR dx []) ∧ ∀ H', H' r = some (.ins CR dx (rf d 0)) → Keep r H H' → Q .non H'
theorem scRI : FnScope ["self", "data"] ["self", "data"] (defScope s_Reader_init) := ⟨rfl, rfl, rfl, by decide +kernel, rfl, by decide +kernel, by decide +kernel⟩
theorem ok_RI {f : Addr} {fd : FuncData} (F : Fun K "__init__" "Reader.__init__" s_Reader_init f fd) (T : Txt K mg CF fI CR) : FnOk P w K mg base (CXE P w) 1 f fd ["self", "data"] (spRI CR) := by
  refine F.okX scRI (fun vs H Q E h => ?_) (fun cdv A outer s H vs Q E hr h => ?_)
  · obtain ⟨r, dx, d, rfl, _⟩ := h
    rfl
  · obtain ⟨r, dx, d, rfl, hp, k⟩ := h
    refine ⟨_, pss_cons (ps_fld (pv 0) (pv 1) rfl) (pss_one (ps_fld (pv 0) pe_int rfl)), ?_⟩
    try dsimp only [cxOf]
    refine ⟨_, rfl, _, rfl, r, CR, dx, [], rfl, hp, T.cl, T.nD, (by show 0 < 1000; decide), ?_⟩
    refine ⟨_, rfl, r, CR, dx, _, rfl, upd_same, T.cl, T.nP, (by show 1 < 1000; decide), ?_⟩
    exact k _ upd_same (Keep.trans Keep.upd Keep.upd)
noncomputable def spAt (K : PySem.W.Frag) (CR : Addr) : Sp := fun vs H Q _ => ∃ (r d : Addr) (b : Bytes) (p : Nat), vs = [.ref r] ∧ RdAt K CR b H r d p ∧ Q (.bl (decide (b.length ≤ p))) H
theorem scAt : FnScope ["self"] ["self"] (defScope s_Reader_at_end) := ⟨rfl, rfl, rfl, by decide +kernel, rfl, by decide +kernel, by decide +kernel⟩
theorem ok_At {f : Addr} {fd : FuncData} (F : Fun K "at_end" "Reader.at_end" s_Reader_at_end f fd) (T : Txt K mg CF fI CR) : FnOk P w K mg base (CXE P w) 1 f fd ["self"] (spAt K CR) := by
  refine F.okX scAt (fun vs H Q E h => ?_) (fun cdv A outer s H vs Q E hr h => ?_)
  · obtain ⟨r, d, b, p, rfl, _⟩ := h
    rfl
  · obtain ⟨r, d, b, p, rfl, R, k⟩ := h
    obtain ⟨dx, hx⟩ := R.rd
    refine ⟨_, pss_one (ps_ret (pe_cmpR op_ge (pe_fld (pv 0) rfl) (pe_callB call_len_seq (by rfl) T.len PySem.boot_len (pa_cons (pe_fld (pv 0) rfl) pa_nil)) (nomark _))), ?_⟩
    try dsimp only [cxOf]
    refine ⟨_, rfl, r, CR, dx, _, _, rfl, hx, T.cl, T.nP, rf_place d p, _, rfl, r, CR, dx, _, _, rfl, hx, T.cl, T.nD, rf_data d p, d, _, rfl, .inl R.sq, _, _, rfl, rfl, ?_⟩
    have e : decide (((bv b).length : Int) ≤ (p : Int)) = decide (b.length ≤ p) := by
      rw [bv_len]
      by_cases q : b.length ≤ p
      · rw [decide_eq_true q, decide_eq_true (by lia)]
      · rw [decide_eq_false q, decide_eq_false (by lia)]
    show Q (.bl (decide (((bv b).length : Int) ≤ (p : Int)))) H
    rw [e]
    exact k
end
end Pg
namespace Pg
open PySem PySem.Spec PyProof.Rows L2 Sh Ink
structure Dm (K : PySem.W.Frag) (C : Addr) (m : Str) (f : Addr) (fd : FuncData) (ps : List Str) : Prop where
  me : Meth K C m f
  bi : Binds K fd ps []
structure Df (K : PySem.W.Frag) (mg : Str → Option Value) (x : Str) (f : Addr) (fd : FuncData) (ps : List Str) : Prop where
  mx : mg x = some (.ref f)
  kp : PySem.W.keepIn K (.ref f) = true
  bi : Binds K fd ps []
structure CstT (K : PySem.W.Frag) (mg : Str → Option Value) (x : Str) (a : Addr) (ns : List V) : Prop where
  mx : mg x = some (.ref a)
  sq : ∀ H, SqT K H a ns
noncomputable abbrev weights : List V := [.int 1, .int 256, .int 65536, .int 16777216]
theorem weight_at {i : Nat} {x : V} (h : weights[i]? = some x) : i < 4 ∧ x = .int ((256 ^ i : Nat) : Int) := by
  match i, h with
  | 0, h => exact ⟨by decide, (Option.some.inj h).symm⟩
  | 1, h => exact ⟨by decide, (Option.some.inj h).symm⟩
  | 2, h => exact ⟨by decide, (Option.some.inj h).symm⟩
  | 3, h => exact ⟨by decide, (Option.some.inj h).symm⟩
  | i + 4, h => simp at h
theorem cut_bv (b : Bytes) {s p : Nat} (h : p ≤ b.length) (hs : s ≤ p) : cutV (bv b) (some (s : Int)) (some (p : Int)) = bv ((b.drop s).take (p - s)) := by
  unfold cutV
  rw [HT.sIx_nat, HT.sIx_nat, bv_len, Nat.min_eq_left (by lia : s ≤ b.length), Nat.min_eq_left h]
  unfold bv
  rw [List.map_take, List.map_drop]
section
variable {P : Program} {w : World} {K : PySem.W.Frag} {mg : Str → Option Value} {base : Heap} {CF fI CR : Addr} {fdI : FuncData}
noncomputable def spSide : Sp := fun vs H Q _ => ∃ n : Int, vs = [.int n] ∧ Q (.bl (decide (1 ≤ n ∧ n ≤ 8192))) H
theorem scSide : FnScope ["number"] ["number"] (defScope s_is_side) := ⟨rfl, rfl, rfl, by decide +kernel, rfl, by decide +kernel, by decide +kernel⟩
theorem ok_Side {f : Addr} {fd : FuncData} (F : Fun K "is_side" "is_side" s_is_side f fd) (cL : Cst mg "LONGEST_SIDE" 8192) : FnOk P w K mg base (CXE P w) 1 f fd ["number"] spSide := by
  refine F.okX scSide (fun vs H Q E h => ?_) (fun cdv A outer s H vs Q E hr h => ?_)
  · obtain ⟨n, rfl, _⟩ := h
    rfl
  · obtain ⟨n, rfl, k⟩ := h
    refine ⟨_, pss_one (ps_ret (pe_chain op_le op_le pe_int (pv 0) (pe_cst cL rfl))), ?_⟩
    try dsimp only [cxOf]
    refine ⟨_, rfl, _, _, rfl, rfl, _, rfl, ?_⟩
    by_cases q : (1 : Int) ≤ n
    · rw [decide_eq_true q]
      refine iteT ⟨_, _, rfl, rfl, ?_⟩
      have e : decide (n ≤ 8192) = decide (1 ≤ n ∧ n ≤ 8192) := by simp [q]
      show Q (.bl (decide (n ≤ 8192))) H
      rw [e]
      exact k
    · rw [decide_eq_false q]
      refine iteF ?_
      have e : decide (1 ≤ n ∧ n ≤ 8192) = false := by simp [q]
      rw [e] at k
      exact k
noncomputable def spSz : Sp := fun vs H Q _ => ∃ a b : Int, vs = [.int a, .int b] ∧ Q (.bl (decide ((1 ≤ a ∧ a ≤ 8192) ∧ (1 ≤ b ∧ b ≤ 8192) ∧ a * b ≤ 16777216))) H
theorem scSz : FnScope ["width", "height"] ["width", "height"] (defScope s_is_size) := ⟨rfl, rfl, rfl, by decide +kernel, rfl, by decide +kernel, by decide +kernel⟩
theorem ok_Sz {f fS : Addr} {fd fdS : FuncData} (F : Fun K "is_size" "is_size" s_is_size f fd) (cM : Cst mg "MOST_POINTS" 16777216)
    (GS : FnOk P w K mg base (CXE P w) 1 fS fdS ["number"] spSide) (mS : Df K mg "is_side" fS fdS ["number"]) : FnOk P w K mg base (CXE P w) 2 f fd ["width", "height"] spSz := by
  refine F.okX scSz (fun vs H Q E h => ?_) (fun cdv A outer s H vs Q E hr h => ?_)
  · obtain ⟨a, b, rfl, _⟩ := h
    rfl
  · obtain ⟨a, b, rfl, k⟩ := h
    refine ⟨_, pss_one (ps_ret (pe_and (pe_call GS hr rfl mS.mx mS.kp mS.bi .nil pass_cx (pa_cons (pv 0) pa_nil)) (pe_and (pe_call GS hr rfl mS.mx mS.kp mS.bi .nil pass_cx (pa_cons (pv 1) pa_nil)) (pe_one (pe_cmpR op_le (pe_op op_mul (pv 0) (pv 1)) (pe_cst cM rfl) (nomark _)))))), ?_⟩
    try dsimp only [cxOf]
    refine ⟨_, rfl, a, rfl, _, rfl, ?_⟩
    by_cases q1 : 1 ≤ a ∧ a ≤ 8192
    · rw [decide_eq_true q1]
      refine iteT ⟨_, rfl, b, rfl, _, rfl, ?_⟩
      by_cases q2 : 1 ≤ b ∧ b ≤ 8192
      · rw [decide_eq_true q2]
        refine iteT ⟨_, rfl, _, rfl, _, _, rfl, rfl, .inl ⟨by lia, by lia⟩, _, _, rfl, rfl, ?_⟩
        have e : decide (a * b ≤ 16777216) = decide ((1 ≤ a ∧ a ≤ 8192) ∧ (1 ≤ b ∧ b ≤ 8192) ∧ a * b ≤ 16777216) := by
          by_cases q3 : a * b ≤ 16777216
          · rw [decide_eq_true q3, decide_eq_true ⟨q1, q2, q3⟩]
          · rw [decide_eq_false q3, decide_eq_false fun z => q3 z.2.2]
        show Q (.bl (decide (a * b ≤ 16777216))) H
        rw [e]
        exact k
      · rw [decide_eq_false q2]
        refine iteF ?_
        rw [decide_eq_false fun z => q2 z.2.1] at k
        exact k
    · rw [decide_eq_false q1]
      refine iteF ?_
      rw [decide_eq_false fun z => q1 z.1] at k
      exact k
end
end Pg
namespace Pg
open PySem PySem.Spec PyProof.Rows L2 Sh Ink
section
variable {P : Program} {w : World} {K : PySem.W.Frag} {mg : Str → Option Value} {base : Heap} {CF fI CR : Addr} {fdI : FuncData}
noncomputable def spLook (K : PySem.W.Frag) (CR CF : Addr) : Sp := fun vs H Q E => ∃ (r d : Addr) (b : Bytes) (p : Nat), vs = [.ref r] ∧ RdAt K CR b H r d p ∧ (∀ c, b[p]? = some c → Q (.int (c.toNat : Int)) H) ∧ (b[p]? = none → Fails CF E 5 p)
theorem scLook : FnScope ["self"] ["self"] (defScope s_Reader_look) := ⟨rfl, rfl, rfl, by decide +kernel, rfl, by decide +kernel, by decide +kernel⟩
theorem ok_Look {f fA : Addr} {fd fdA : FuncData} (F : Fun K "look" "Reader.look" s_Reader_look f fd) (T : Txt K mg CF fI CR) (c5 : Cst mg "ENDS_EARLY" 5)
    (GI : FnOk P w K mg base (CXE P w) 1 fI fdI ["self", "rule", "place"] (spFI CF)) (bI : Binds K fdI ["self", "rule", "place"] [])
    (GA : FnOk P w K mg base (CXE P w) 1 fA fdA ["self"] (spAt K CR)) (mA : Dm K CR "at_end" fA fdA ["self"]) : FnOk P w K mg base (CXE P w) 3 f fd ["self"] (spLook K CR CF) := by
  refine F.okX scLook (fun vs H Q E h => ?_) (fun cdv A outer s H vs Q E hr h => ?_)
  · obtain ⟨r, d, b, p, rfl, _⟩ := h
    rfl
  · obtain ⟨r, d, b, p, rfl, R, k1, k2⟩ := h
    obtain ⟨dx, hx⟩ := R.rd
    have hr1 : Room 1 _ := hr.mono (by decide)
    refine ⟨_, pss_cons (ps_if (pt_val (pe_meth0 (pv 0) T.cl mA.me GA hr1 mA.bi .nil pass_cx)) (pss_one (ps_raiseX T.xc GI hr rfl rfl T.mgF bI pass_cx throws_cx (pa_cons (pe_cst c5 rfl) (pa_cons (pe_fld (pv 0) rfl) pa_nil)))) pss_nil)
      (pss_one (ps_ret (pe_ix ix_list (pe_fld (pv 0) rfl) (pe_fld (pv 0) rfl) (fun _ _ => rfl)))), ?_⟩
    try dsimp only [cxOf]
    refine ⟨_, rfl, r, dx, _, rfl, hx, rf_no d p (by decide +kernel) (by decide +kernel), r, d, b, p, rfl, R, _, rfl, ?_⟩
    by_cases q : b.length ≤ p
    · rw [decide_eq_true q]
      refine iteT ?_
      refine ⟨_, rfl, r, CR, dx, _, _, rfl, hx, T.cl, T.nP, rf_place d p, (by show 2 ≤ sizeLine; decide), fun ea ta hea => ?_⟩
      exact ⟨ea, ta, 5, p, rfl, upd_same, fails_raise (H := H) (k2 (List.getElem?_eq_none q))⟩
    · rw [decide_eq_false q]
      refine iteF ?_
      have hc : b[p]? = some (b[p]'(by lia)) := List.getElem?_eq_getElem (by lia)
      refine ⟨_, rfl, r, CR, dx, _, _, rfl, hx, T.cl, T.nD, rf_data d p, _, rfl, r, CR, dx, _, _, rfl, hx, T.cl, T.nP, rf_place d p, d, _, _, _, rfl, rfl, R.sq, atI_nat (bv_get hc), ?_⟩
      exact k1 _ hc
noncomputable def spTake (K : PySem.W.Frag) (CR CF : Addr) : Sp := fun vs H Q E => ∃ (r d : Addr) (b : Bytes) (p : Nat), vs = [.ref r] ∧ RdAt K CR b H r d p ∧ (∀ c, b[p]? = some c → ∀ H', RdAt K CR b H' r d (p + 1) → Keep r H H' → Q (.int (c.toNat : Int)) H') ∧ (b[p]? = none → Fails CF E 5 p)
theorem scTake : FnScope ["self", "byte"] ["self"] (defScope s_Reader_take) := ⟨rfl, rfl, rfl, by decide +kernel, rfl, by decide +kernel, by decide +kernel⟩
theorem ok_Take {f fL : Addr} {fd fdL : FuncData} (F : Fun K "take" "Reader.take" s_Reader_take f fd) (T : Txt K mg CF fI CR)
    (GL : FnOk P w K mg base (CXE P w) 3 fL fdL ["self"] (spLook K CR CF)) (mL : Dm K CR "look" fL fdL ["self"]) : FnOk P w K mg base (CXE P w) 4 f fd ["self"] (spTake K CR CF) := by
  refine F.okX scTake (fun vs H Q E h => ?_) (fun cdv A outer s H vs Q E hr h => ?_)
  · obtain ⟨r, d, b, p, rfl, _⟩ := h
    rfl
  · obtain ⟨r, d, b, p, rfl, R, k1, k2⟩ := h
    obtain ⟨dx, hx⟩ := R.rd
    refine ⟨_, pss_cons (ps_set (i := 1) scTake.nd rfl (Or.inl rfl) (pe_meth0 (pv 0) T.cl mL.me GL hr mL.bi .nil pass_cx)) (pss_cons (ps_fldaug (pv 0) pe_int in_add) (pss_one (ps_ret (pv 1)))), ?_⟩
    try dsimp only [cxOf]
    refine ⟨_, rfl, r, dx, _, rfl, hx, rf_no d p (by decide +kernel) (by decide +kernel), r, d, b, p, rfl, R, fun c hc => ?_, k2⟩
    refine ⟨_, rfl, r, CR, dx, _, _, rfl, hx, T.cl, T.nP, rf_place d p, _, _, rfl, rfl, dx, _, hx, rf_len d p, ?_⟩
    refine ⟨_, rfl, ?_⟩
    have e : putF "place" (V.int ((p : Int) + 1)) (rf d p) = rf d (p + 1) := rf_put d p (p + 1)
    have hn : p + 1 ≤ b.length := (List.getElem?_eq_some_iff.mp hc).1
    refine k1 c hc _ ⟨⟨dx, ?_⟩, R.dkeep Keep.upd, hn⟩ Keep.upd
    · rw [upd_same, e]
noncomputable def byteAt (b : Bytes) (i : Nat) : Nat := (b[i]?.map UInt8.toNat).getD 0
noncomputable def nu (b : Bytes) (p : Nat) : Nat → Nat
  | 0 => 0
  | i + 1 => nu b p i + 256 ^ i * byteAt b (p + i)
theorem byteAt_some {b : Bytes} {i : Nat} {c : UInt8} (h : b[i]? = some c) : byteAt b i = c.toNat := by
  unfold byteAt
  rw [h]
  rfl
theorem nu_four {b : Bytes} {p : Nat} (h : p + 4 ≤ b.length) : nu b p 4 = u32 b p := by
  have g : ∀ i, i < 4 → ∃ c, b[p + i]? = some c := fun i hi => ⟨_, List.getElem?_eq_getElem (show p + i < b.length by lia)⟩
  obtain ⟨c0, g0⟩ := g 0 (by decide)
  obtain ⟨c1, g1⟩ := g 1 (by decide)
  obtain ⟨c2, g2⟩ := g 2 (by decide)
  obtain ⟨c3, g3⟩ := g 3 (by decide)
  have g0' : b[p]? = some c0 := g0
  rw [u32_four g0' g1 g2 g3]
  simp only [nu]
  rw [byteAt_some g0, byteAt_some g1, byteAt_some g2, byteAt_some g3]
  simp only [show (256 : Nat) ^ 0 = 1 from rfl, show (256 : Nat) ^ 1 = 256 from rfl, show (256 : Nat) ^ 2 = 65536 from rfl, show (256 : Nat) ^ 3 = 16777216 from rfl]
  lia
noncomputable def spNum (K : PySem.W.Frag) (CR CF : Addr) : Sp := fun vs H Q E => ∃ (r d : Addr) (b : Bytes) (p : Nat), vs = [.ref r] ∧ RdAt K CR b H r d p ∧ (p + 4 ≤ b.length → ∀ H', RdAt K CR b H' r d (p + 4) → Keep r H H' → Q (.int (u32 b p : Int)) H') ∧ (b.length < p + 4 → Fails CF E 5 b.length)
theorem scNum : FnScope ["self", "number", "weight"] ["self"] (defScope s_Reader_take_number) := ⟨rfl, rfl, rfl, by decide +kernel, rfl, by decide +kernel, by decide +kernel⟩
theorem ok_Num {f fT aW : Addr} {fd fdT : FuncData} (F : Fun K "take_number" "Reader.take_number" s_Reader_take_number f fd) (T : Txt K mg CF fI CR) (cW : CstT K mg "WEIGHTS" aW weights)
    (GT : FnOk P w K mg base (CXE P w) 4 fT fdT ["self"] (spTake K CR CF)) (mT : Dm K CR "take" fT fdT ["self"]) : FnOk P w K mg base (CXE P w) 5 f fd ["self"] (spNum K CR CF) := by
  refine F.okX scNum (fun vs H Q E h => ?_) (fun cdv A outer s H vs Q E hr h => ?_)
  · obtain ⟨r, d, b, p, rfl, _⟩ := h
    rfl
  · obtain ⟨r, d, b, p, rfl, R, k1, k2⟩ := h
    refine ⟨_, pss_cons (ps_set (i := 1) scNum.nd rfl (Or.inl rfl) pe_int) (pss_cons (ps_for PassesOwn.leaving rfl (pi_tup (pe_glob (v := .ref aW) rfl cW.mx rfl)) (pg_name (i := 2) scNum.nd rfl (Or.inl rfl))
      (pss_one (ps_aug (i := 1) scNum.nd rfl (Or.inl rfl) (pe_op op_mul (pv 2) (pe_meth0 (pv 0) T.cl mT.me GT hr mT.bi .nil pass_cx)) ip_add))) (pss_one (ps_ret (pv 1)))), ?_⟩
    try dsimp only [cxOf]
    refine ⟨aW, rfl, ⟨_, cW.sq _⟩, for_tup (K := K) (a := aW) (xs := weights) (fun i σ H' => ∃ v : Option V, σ = [some (.ref r), some (.int (nu b p i : Int)), v] ∧ RdAt K CR b H' r d (p + i) ∧ Keep r H H') ⟨none, rfl, R, Keep.refl r H⟩ (fun i σ H' _ _ => cW.sq H') ?_ ?_⟩
    · rintro i x σ H' hi ⟨v, rfl, R', k'⟩
      obtain ⟨hi4, rfl⟩ := weight_at hi
      obtain ⟨dx, hx⟩ := R'.rd
      refine ⟨_, rfl, _, rfl, _, rfl, r, dx, _, rfl, hx, rf_no d (p + i) (by decide +kernel) (by decide +kernel), r, d, b, p + i, rfl, R', fun c hc H2 R2 k2' => ?_, fun hn => ?_⟩
      · have wb : 256 ^ i ≤ 256 ^ 3 := Nat.pow_le_pow_right (by decide) (by lia)
        refine ⟨_, _, rfl, rfl, .inl ⟨Int.lt_of_lt_of_le (by decide) (Int.natCast_nonneg _), Int.lt_of_le_of_lt (Int.ofNat_le.mpr wb) (by decide)⟩, _, _, rfl, rfl, some (.int ((256 ^ i : Nat) : Int)), ?_, R2, k'.trans k2'⟩
        have e : ((nu b p i : Nat) : Int) + ((256 ^ i : Nat) : Int) * (c.toNat : Int) = ((nu b p (i + 1) : Nat) : Int) := by
          simp only [nu]
          rw [byteAt_some hc, Int.natCast_add, Int.natCast_mul]
        rw [← e]
        rfl
      · have le := R'.le
        have := List.getElem?_eq_none_iff.mp hn
        have e : p + i = b.length := by lia
        rw [e]
        exact k2 (by lia)
    · rintro σ H' ⟨v, rfl, R', k'⟩
      have R' : RdAt K CR b H' r d (p + 4) := R'
      refine ⟨_, rfl, ?_⟩
      show Q (.int ((nu b p 4 : Nat) : Int)) H'
      rw [nu_four R'.le]
      exact k1 R'.le H' R' k'
noncomputable def spFrom (K : PySem.W.Frag) (CR : Addr) : Sp := fun vs H Q _ => ∃ (r d : Addr) (b : Bytes) (p s : Nat), vs = [.ref r, .int (s : Int)] ∧ RdAt K CR b H r d p ∧ s ≤ p ∧ ∀ q, H q = none → Q (.ref q) (upd H q (.lst (bv ((b.drop s).take (p - s)))))
theorem scFrom : FnScope ["self", "start"] ["self", "start"] (defScope s_Reader_taken_from) := ⟨rfl, rfl, rfl, by decide +kernel, rfl, by decide +kernel, by decide +kernel⟩
theorem ok_From {f : Addr} {fd : FuncData} (F : Fun K "taken_from" "Reader.taken_from" s_Reader_taken_from f fd) (T : Txt K mg CF fI CR) : FnOk P w K mg base (CXE P w) 1 f fd ["self", "start"] (spFrom K CR) := by
  refine F.okX scFrom (fun vs H Q E h => ?_) (fun cdv A outer s H vs Q E hr h => ?_)
  · obtain ⟨r, d, b, p, s, rfl, _⟩ := h
    rfl
  · obtain ⟨r, d, b, p, s, rfl, R, hs, k⟩ := h
    obtain ⟨dx, hx⟩ := R.rd
    refine ⟨_, pss_one (ps_ret (pe_slice sl_list (pe_fld (pv 0) rfl) (po_some (pv 1)) (po_some (pe_fld (pv 0) rfl)))), ?_⟩
    try dsimp only [cxOf]
    refine ⟨_, rfl, r, CR, dx, _, _, rfl, hx, T.cl, T.nD, rf_data d p, _, rfl, _, rfl, _, rfl, r, CR, dx, _, _, rfl, hx, T.cl, T.nP, rf_place d p, _, rfl, d, _, rfl, R.sq, fun q hq => ?_⟩
    rw [cut_bv b R.le hs]
    exact k q hq
noncomputable def spMark (CR CF : Addr) (K : PySem.W.Frag) : Sp := fun vs H Q E => ∃ (r d m : Addr) (b mk : Bytes), vs = [.ref r, .ref m] ∧ RdAt K CR b H r d 0 ∧ (∀ H, SqT K H m (bv mk)) ∧ (markAt mk b = none → ∀ H', RdAt K CR b H' r d mk.length → Keep r H H' → Q .non H') ∧
  (∀ i, markAt mk b = some i → Fails CF E (if i < b.length then 1 else 5) (min i b.length))
theorem scMark : FnScope ["reader", "mark", "wanted"] ["reader", "mark"] (defScope s_read_mark) := ⟨rfl, rfl, rfl, by decide +kernel, rfl, by decide +kernel, by decide +kernel⟩
theorem bv_at {b : Bytes} {i : Nat} {x : V} (h : (bv b)[i]? = some x) : ∃ c, b[i]? = some c ∧ x = .int (c.toNat : Int) := by
  unfold bv at h
  rw [List.getElem?_map] at h
  cases e : b[i]? with
  | none => rw [e] at h; cases h
  | some c =>
    rw [e] at h
    exact ⟨c, rfl, (Option.some.inj h).symm⟩
theorem byte_inj {a c : UInt8} (h : V.int (a.toNat : Int) = V.int (c.toNat : Int)) : a = c := by
  injection h with h
  exact UInt8.toNat_inj.mp (by lia)
theorem ok_Mark {f fL fT : Addr} {fd fdL fdT : FuncData} (F : Fun K "read_mark" "read_mark" s_read_mark f fd) (T : Txt K mg CF fI CR) (c1 : Cst mg "WRONG_MARK" 1)
    (GI : FnOk P w K mg base (CXE P w) 1 fI fdI ["self", "rule", "place"] (spFI CF)) (bI : Binds K fdI ["self", "rule", "place"] [])
    (GL : FnOk P w K mg base (CXE P w) 3 fL fdL ["self"] (spLook K CR CF)) (mL : Dm K CR "look" fL fdL ["self"])
    (GT : FnOk P w K mg base (CXE P w) 4 fT fdT ["self"] (spTake K CR CF)) (mT : Dm K CR "take" fT fdT ["self"]) : FnOk P w K mg base (CXE P w) 5 f fd ["reader", "mark"] (spMark CR CF K) := by
  refine F.okX scMark (fun vs H Q E h => ?_) (fun cdv A outer s H vs Q E hr h => ?_)
  · obtain ⟨r, d, m, b, mk, rfl, _⟩ := h
    rfl
  · obtain ⟨r, d, m, b, mk, rfl, R, hm, k1, k2⟩ := h
    refine ⟨_, pss_one (ps_for PassesOwn.leaving rfl (pi_tup (pv 1)) (pg_name (i := 2) scMark.nd rfl (Or.inl rfl))
      (pss_cons (ps_if (pt_cmpR op_ne (pe_meth0 (pv 0) T.cl mL.me GL (hr.mono (by decide)) mL.bi .nil pass_cx) (pv 2) (nomark _))
        (pss_one (ps_raiseX T.xc GI (hr.mono (by decide)) rfl rfl T.mgF bI pass_cx throws_cx (pa_cons (pe_cst c1 rfl) (pa_cons (pe_fld (pv 0) rfl) pa_nil)))) pss_nil)
      (pss_one (ps_expr (pe_meth0 (pv 0) T.cl mT.me GT hr mT.bi .nil pass_cx))))), ?_⟩
    try dsimp only [cxOf]
    refine ⟨_, rfl, m, rfl, ⟨_, hm _⟩, for_tup (K := K) (a := m) (xs := bv mk) (fun i σ H' => ∃ v : Option V, σ = [some (.ref r), some (.ref m), v] ∧ i ≤ mk.length ∧ RdAt K CR b H' r d i ∧ Keep r H H' ∧ ∀ j, j < i → b[j]? = mk[j]?) ⟨none, rfl, Nat.zero_le _, R, Keep.refl r H, fun j hj => absurd hj (Nat.not_lt_zero j)⟩ (fun i σ H' _ _ => hm H') ?_ ?_⟩
    · rintro i x σ H' hi ⟨v, rfl, hle, R', k', ag⟩
      obtain ⟨c, hc, rfl⟩ := bv_at hi
      have hlt : i < mk.length := (List.getElem?_eq_some_iff.mp hc).1
      obtain ⟨dx, hx⟩ := R'.rd
      refine ⟨_, rfl, r, dx, _, rfl, hx, rf_no d i (by decide +kernel) (by decide +kernel), r, d, b, i, rfl, R', fun a ha => ?_, fun hn => ?_⟩
      · refine ⟨_, rfl, rfl, _, rfl, ?_⟩
        by_cases q : a = c
        · subst q
          refine iteNS rfl ?_
          refine ⟨_, rfl, r, dx, _, rfl, hx, rf_no d i (by decide +kernel) (by decide +kernel), r, d, b, i, rfl, R', fun a' _ H2 R2 k2' => ?_, fun hn => ?_⟩
          · refine ⟨_, rfl, hlt, R2, k'.trans k2', fun j hj => ?_⟩
            by_cases z : j = i
            · subst z
              rw [ha, hc]
            · exact ag j (by lia)
          · rw [ha] at hn
            cases hn
        · have q' : ¬ V.int (a.toNat : Int) = V.int (c.toNat : Int) := fun z => q (byte_inj z)
          rw [decide_eq_false q']
          refine iteT ?_
          refine ⟨_, rfl, r, CR, dx, _, _, rfl, hx, T.cl, T.nP, rf_place d i, (by show 2 ≤ sizeLine; decide), fun ea ta hea => ?_⟩
          have bad := k2 i (markAt_some hlt (by rw [ha, hc]; intro z; exact q (Option.some.inj z)) ag)
          have hl : i < b.length := (List.getElem?_eq_some_iff.mp ha).1
          rw [if_pos hl, Nat.min_eq_left (Nat.le_of_lt hl)] at bad
          exact ⟨ea, ta, 1, i, rfl, upd_same, fails_raise (H := H) bad⟩
      · have bad := k2 i (markAt_some hlt (by rw [hn, hc]; intro z; cases z) ag)
        have hl := List.getElem?_eq_none_iff.mp hn
        have e : i = b.length := Nat.le_antisymm R'.le hl
        rw [if_neg (by lia), Nat.min_eq_left R'.le] at bad
        exact bad
    · rintro σ H' ⟨v, rfl, hle, R', k', ag⟩
      rw [bv_len] at R' ag
      exact k1 (markAt_none ag) H' R' k'
noncomputable def spWidth (K : PySem.W.Frag) (CR CF : Addr) : Sp := fun vs H Q E => ∃ (r d : Addr) (b : Bytes) (p : Nat), vs = [.ref r] ∧ RdAt K CR b H r d p ∧ (b.length < p + 4 → Fails CF E 5 b.length) ∧
  (p + 4 ≤ b.length → ¬ (1 ≤ u32 b p ∧ u32 b p ≤ 8192) → Fails CF E 2 p) ∧ (p + 4 ≤ b.length → (1 ≤ u32 b p ∧ u32 b p ≤ 8192) → ∀ H', RdAt K CR b H' r d (p + 4) → Keep r H H' → Q (.int (u32 b p : Int)) H')
theorem scWidth : FnScope ["reader", "start", "width"] ["reader"] (defScope s_read_width) := ⟨rfl, rfl, rfl, by decide +kernel, rfl, by decide +kernel, by decide +kernel⟩
theorem side_nat (n : Nat) : (1 ≤ (n : Int) ∧ (n : Int) ≤ 8192) ↔ (1 ≤ n ∧ n ≤ 8192) := by lia
theorem ok_Width {f fN fS : Addr} {fd fdN fdS : FuncData} (F : Fun K "read_width" "read_width" s_read_width f fd) (T : Txt K mg CF fI CR) (c2 : Cst mg "WRONG_SIZE" 2)
    (GI : FnOk P w K mg base (CXE P w) 1 fI fdI ["self", "rule", "place"] (spFI CF)) (bI : Binds K fdI ["self", "rule", "place"] [])
    (GN : FnOk P w K mg base (CXE P w) 5 fN fdN ["self"] (spNum K CR CF)) (mN : Dm K CR "take_number" fN fdN ["self"])
    (GS : FnOk P w K mg base (CXE P w) 1 fS fdS ["number"] spSide) (mS : Df K mg "is_side" fS fdS ["number"]) : FnOk P w K mg base (CXE P w) 6 f fd ["reader"] (spWidth K CR CF) := by
  refine F.okX scWidth (fun vs H Q E h => ?_) (fun cdv A outer s H vs Q E hr h => ?_)
  · obtain ⟨r, d, b, p, rfl, _⟩ := h
    rfl
  · obtain ⟨r, d, b, p, rfl, R, k1, k2, k3⟩ := h
    obtain ⟨dx, hx⟩ := R.rd
    refine ⟨_, pss_cons (ps_set (i := 1) scWidth.nd rfl (Or.inl rfl) (pe_fld (pv 0) rfl)) (pss_cons (ps_set (i := 2) scWidth.nd rfl (Or.inl rfl) (pe_meth0 (pv 0) T.cl mN.me GN hr mN.bi .nil pass_cx))
      (pss_cons (ps_if (pt_not (pt_val (pe_call GS (hr.mono (by decide)) rfl mS.mx mS.kp mS.bi .nil pass_cx (pa_cons (pv 2) pa_nil))))
        (pss_one (ps_raiseX T.xc GI (hr.mono (by decide)) rfl rfl T.mgF bI pass_cx throws_cx (pa_cons (pe_cst c2 rfl) (pa_cons (pv 1) pa_nil)))) pss_nil) (pss_one (ps_ret (pv 2))))), ?_⟩
    try dsimp only [cxOf]
    refine ⟨_, rfl, r, CR, dx, _, _, rfl, hx, T.cl, T.nP, rf_place d p, ?_⟩
    refine ⟨_, rfl, r, dx, _, rfl, hx, rf_no d p (by decide +kernel) (by decide +kernel), r, d, b, p, rfl, R, fun hl H' R' k' => ?_, k1⟩
    refine ⟨_, rfl, _, rfl, _, rfl, ?_⟩
    by_cases q : 1 ≤ u32 b p ∧ u32 b p ≤ 8192
    · rw [decide_eq_true ((side_nat _).mpr q)]
      refine iteF ⟨_, rfl, ?_⟩
      exact k3 hl q H' R' k'
    · rw [decide_eq_false (fun z => q ((side_nat _).mp z))]
      refine iteT ⟨_, rfl, (by show 2 ≤ sizeLine; decide), fun ea ta hea => ?_⟩
      exact ⟨ea, ta, 2, p, rfl, upd_same, fails_raise (H := H) (k2 hl q)⟩
noncomputable def spHeight (K : PySem.W.Frag) (CR CF : Addr) : Sp := fun vs H Q E => ∃ (r d : Addr) (b : Bytes) (p wd : Nat), vs = [.ref r, .int (wd : Int)] ∧ (1 ≤ wd ∧ wd ≤ 8192) ∧ RdAt K CR b H r d p ∧ (b.length < p + 4 → Fails CF E 5 b.length) ∧
  (p + 4 ≤ b.length → ¬ (1 ≤ u32 b p ∧ u32 b p ≤ 8192 ∧ wd * u32 b p ≤ 16777216) → Fails CF E 2 p) ∧ (p + 4 ≤ b.length → (1 ≤ u32 b p ∧ u32 b p ≤ 8192 ∧ wd * u32 b p ≤ 16777216) → ∀ H', RdAt K CR b H' r d (p + 4) → Keep r H H' → Q (.int (u32 b p : Int)) H')
theorem scHeight : FnScope ["reader", "width", "start", "height"] ["reader", "width"] (defScope s_read_height) := ⟨rfl, rfl, rfl, by decide +kernel, rfl, by decide +kernel, by decide +kernel⟩
theorem ok_Height {f fN fZ : Addr} {fd fdN fdZ : FuncData} (F : Fun K "read_height" "read_height" s_read_height f fd) (T : Txt K mg CF fI CR) (c2 : Cst mg "WRONG_SIZE" 2)
    (GI : FnOk P w K mg base (CXE P w) 1 fI fdI ["self", "rule", "place"] (spFI CF)) (bI : Binds K fdI ["self", "rule", "place"] [])
    (GN : FnOk P w K mg base (CXE P w) 5 fN fdN ["self"] (spNum K CR CF)) (mN : Dm K CR "take_number" fN fdN ["self"])
    (GZ : FnOk P w K mg base (CXE P w) 2 fZ fdZ ["width", "height"] spSz) (mZ : Df K mg "is_size" fZ fdZ ["width", "height"]) : FnOk P w K mg base (CXE P w) 6 f fd ["reader", "width"] (spHeight K CR CF) := by
  refine F.okX scHeight (fun vs H Q E h => ?_) (fun cdv A outer s H vs Q E hr h => ?_)
  · obtain ⟨r, d, b, p, wd, rfl, _⟩ := h
    rfl
  · obtain ⟨r, d, b, p, wd, rfl, hw, R, k1, k2, k3⟩ := h
    obtain ⟨dx, hx⟩ := R.rd
    refine ⟨_, pss_cons (ps_set (i := 2) scHeight.nd rfl (Or.inl rfl) (pe_fld (pv 0) rfl)) (pss_cons (ps_set (i := 3) scHeight.nd rfl (Or.inl rfl) (pe_meth0 (pv 0) T.cl mN.me GN hr mN.bi .nil pass_cx))
      (pss_cons (ps_if (pt_not (pt_val (pe_call GZ (hr.mono (by decide)) rfl mZ.mx mZ.kp mZ.bi .nil pass_cx (pa_cons (pv 1) (pa_cons (pv 3) pa_nil)))))
        (pss_one (ps_raiseX T.xc GI (hr.mono (by decide)) rfl rfl T.mgF bI pass_cx throws_cx (pa_cons (pe_cst c2 rfl) (pa_cons (pv 2) pa_nil)))) pss_nil) (pss_one (ps_ret (pv 3))))), ?_⟩
    try dsimp only [cxOf]
    refine ⟨_, rfl, r, CR, dx, _, _, rfl, hx, T.cl, T.nP, rf_place d p, ?_⟩
    refine ⟨_, rfl, r, dx, _, rfl, hx, rf_no d p (by decide +kernel) (by decide +kernel), r, d, b, p, rfl, R, fun hl H' R' k' => ?_, k1⟩
    refine ⟨_, rfl, _, rfl, _, _, rfl, _, rfl, ?_⟩
    by_cases q : 1 ≤ u32 b p ∧ u32 b p ≤ 8192 ∧ wd * u32 b p ≤ 16777216
    · rw [decide_eq_true (show (1 ≤ (wd : Int) ∧ (wd : Int) ≤ 8192) ∧ (1 ≤ (u32 b p : Int) ∧ (u32 b p : Int) ≤ 8192) ∧ (wd : Int) * (u32 b p : Int) ≤ 16777216 from ⟨(side_nat _).mpr hw, (side_nat _).mpr ⟨q.1, q.2.1⟩, by rw [← Int.natCast_mul]; lia⟩)]
      refine iteF ⟨_, rfl, ?_⟩
      exact k3 hl q H' R' k'
    · rw [decide_eq_false (show ¬ ((1 ≤ (wd : Int) ∧ (wd : Int) ≤ 8192) ∧ (1 ≤ (u32 b p : Int) ∧ (u32 b p : Int) ≤ 8192) ∧ (wd : Int) * (u32 b p : Int) ≤ 16777216) from fun z => q ⟨((side_nat _).mp z.2.1).1, ((side_nat _).mp z.2.1).2, by have := z.2.2; rw [← Int.natCast_mul] at this; lia⟩)]
      refine iteT ⟨_, rfl, (by show 2 ≤ sizeLine; decide), fun ea ta hea => ?_⟩
      exact ⟨ea, ta, 2, p, rfl, upd_same, fails_raise (H := H) (k2 hl q)⟩
end
end Pg
namespace Pg
open PySem PySem.Spec PyProof.Rows L2 Sh Ink
section
variable {P : Program} {w : World} {K : PySem.W.Frag} {mg : Str → Option Value} {base : Heap} {CF fI CR : Addr} {fdI : FuncData}
noncomputable def spCount (K : PySem.W.Frag) : Sp := fun vs H Q _ => ∃ (a : Addr) (is : List Int) (x most : Nat), vs = [.ref a, .int (x : Int), .int (most : Int)] ∧ SqL K H a (is.map V.int) ∧ x < is.length ∧ Q (.int ((min (sm (is.drop x)) most : Nat) : Int)) H
theorem scCount : FnScope ["row", "x", "most", "end"] ["row", "x", "most"] (defScope s_count_same) := ⟨rfl, rfl, rfl, by decide +kernel, rfl, by decide +kernel, by decide +kernel⟩
theorem int_at {is : List Int} {i : Nat} (h : i < is.length) : (is.map V.int)[i]? = some (V.int is[i]) := by
  rw [List.getElem?_map, List.getElem?_eq_getElem h]
  rfl
theorem ok_Count {f : Addr} {fd : FuncData} (F : Fun K "count_same" "count_same" s_count_same f fd) (hlen : mg "len" = none) : FnOk P w K mg base (CXE P w) 1 f fd ["row", "x", "most"] (spCount K) := by
  refine F.okX scCount (fun vs H Q E h => ?_) (fun cdv A outer s H vs Q E hr h => ?_)
  · obtain ⟨a, is, x, most, rfl, _⟩ := h
    rfl
  · obtain ⟨a, is, x, most, rfl, hS, hx, k⟩ := h
    refine ⟨_, pss_cons (ps_set (i := 3) scCount.nd rfl (Or.inl rfl) (pv 1)) (pss_cons (ps_while PassesOwn.leaving
      (PW.pt (pw_and (pt_cmpR op_lt (pv 3) (pe_callB call_len_seq (by rfl) hlen PySem.boot_len (pa_cons (pv 0) pa_nil)) (nomark _)) (pw_and (pt_cmpR op_lt (pe_op op_sub (pv 3) (pv 1)) (pv 2) (nomark _))
        (pw_and1 (pt_cmpR op_eq (pe_ix ix_list (pv 0) (pv 3) (fun _ _ => rfl)) (pe_ix ix_list (pv 0) (pv 1) (fun _ _ => rfl)) (nomark _))))))
      (pss_one (ps_aug (i := 3) scCount.nd rfl (Or.inl rfl) pe_int ip_add))) (pss_one (ps_ret (pe_op op_sub (pv 3) (pv 1))))), ?_⟩
    try dsimp only [cxOf]
    refine ⟨_, rfl, ?_⟩
    refine ⟨fun m σ H' => ∃ j : Nat, H' = H ∧ σ = [some (.ref a), some (.int (x : Int)), some (.int (most : Int)), some (.int ((x + j : Nat) : Int))] ∧ j ≤ sm (is.drop x) ∧ j ≤ most ∧ m = is.length - (x + j), ⟨_, 0, rfl, rfl, Nat.zero_le _, Nat.zero_le _, rfl⟩, ?_⟩
    rintro m σ H' ⟨j, rfl, rfl, h1, h2, rfl⟩
    have h0 : (is.drop x)[0]? = some is[x] := by rw [List.getElem?_drop]; exact List.getElem?_eq_getElem hx
    have fin : j = min (sm (is.drop x)) most → ∃ v, some (some (V.int ((x + j : Nat) : Int))) = some (some v) ∧ ∃ v2, some (some (V.int (x : Int))) = some (some v2) ∧ ∃ i1 i2, v = .int i1 ∧ v2 = .int i2 ∧ Q (.int (i1 - i2)) H' := fun e => by
      refine ⟨_, rfl, _, rfl, _, _, rfl, rfl, ?_⟩
      have e2 : ((x + j : Nat) : Int) - (x : Int) = ((min (sm (is.drop x)) most : Nat) : Int) := by lia
      rw [e2]
      exact k
    refine ⟨_, rfl, _, rfl, a, _, rfl, .inl hS, _, _, rfl, rfl, _, rfl, ?_⟩
    by_cases q1 : x + j < is.length
    · rw [decide_eq_true (show ((x + j : Nat) : Int) < ((is.map V.int).length : Int) by rw [List.length_map]; lia)]
      refine iteT ?_
      refine ⟨_, rfl, _, rfl, _, _, rfl, rfl, _, rfl, _, _, rfl, rfl, _, rfl, ?_⟩
      by_cases q2 : j < most
      · rw [decide_eq_true (show ((x + j : Nat) : Int) - (x : Int) < (most : Int) by lia)]
        refine iteT ?_
        refine ⟨_, rfl, _, rfl, a, _, _, _, rfl, rfl, hS, at_of (j := x + j) rfl (int_at q1), _, rfl, _, rfl, a, _, _, _, rfl, rfl, hS, at_of (j := x) rfl (int_at hx), rfl, _, rfl, ?_⟩
        have hj : (is.drop x)[j]? = some is[x + j] := by rw [List.getElem?_drop]; exact List.getElem?_eq_getElem q1
        by_cases q3 : is[x + j] = is[x]
        · rw [decide_eq_true (show V.int is[x + j] = V.int is[x] by rw [q3])]
          refine iteT ⟨fun σ' H2 => ∃ m', m' < is.length - (x + j) ∧ ∃ j : Nat, H2 = H' ∧ σ' = [some (.ref a), some (.int (x : Int)), some (.int (most : Int)), some (.int ((x + j : Nat) : Int))] ∧ j ≤ sm (is.drop x) ∧ j ≤ most ∧ m' = is.length - (x + j), fun _ _ z => z, ?_⟩
          refine ⟨_, rfl, _, _, rfl, rfl, _, ?_, j + 1, rfl, ?_, sm_more h0 hj q3 h1, q2, rfl⟩
          · lia
          · have e : ((x + j : Nat) : Int) + 1 = ((x + (j + 1) : Nat) : Int) := by lia
            rw [← e]
            rfl
        · rw [decide_eq_false (show ¬ V.int is[x + j] = V.int is[x] from fun z => q3 (by injection z))]
          refine iteF (fin ?_)
          have := sm_stop h0 hj q3 h1
          lia
      · rw [decide_eq_false (show ¬ ((x + j : Nat) : Int) - (x : Int) < (most : Int) by lia)]
        refine iteF (iteF (fin ?_))
        lia
    · rw [decide_eq_false (show ¬ ((x + j : Nat) : Int) < ((is.map V.int).length : Int) by rw [List.length_map]; lia)]
      refine iteF (iteF (fin ?_))
      have := sm_le (is.drop x)
      rw [List.length_drop] at this
      lia
noncomputable def iv (b : Bytes) : List Int := b.map fun c => (c.toNat : Int)
theorem bv_iv (b : Bytes) : bv b = (iv b).map V.int := by
  unfold bv iv
  rw [List.map_map]
  rfl
theorem iv_len (b : Bytes) : (iv b).length = b.length := List.length_map ..
theorem iv_sm (b : Bytes) (x : Nat) : sm ((iv b).drop x) = same (b.drop x) := by
  unfold iv
  rw [← List.map_drop, sm_map (fun a c h => UInt8.toNat_inj.mp (by lia)), sm_bytes]
end
end Pg
namespace Pg
open PySem PySem.Spec PyProof.Rows L2 Sh Ink
section
variable {P : Program} {w : World} {K : PySem.W.Frag} {mg : Str → Option Value} {base : Heap} {CF fI CR : Addr} {fdI : FuncData}
noncomputable def spGrey (K : PySem.W.Frag) : Sp := fun vs H Q _ => ∃ (a : Addr) (l : Bytes) (x : Nat), vs = [.ref a, .int (x : Int)] ∧ SqL K H a (bv l) ∧ x < l.length ∧ ¬ 3 ≤ same (l.drop x) ∧ Q (.int ((x + mixed 128 (l.drop x) : Nat) : Int)) H
theorem scGrey : FnScope ["row", "x", "end"] ["row", "x"] (defScope s_greys_end) := ⟨rfl, rfl, rfl, by decide +kernel, rfl, by decide +kernel, by decide +kernel⟩
theorem ok_Grey {f fC : Addr} {fd fdC : FuncData} (F : Fun K "greys_end" "greys_end" s_greys_end f fd) (hlen : mg "len" = none) (cG : Cst mg "MOST_GREYS" 128) (cS : Cst mg "LEAST_SAME" 3)
    (GC : FnOk P w K mg base (CXE P w) 1 fC fdC ["row", "x", "most"] (spCount K)) (mC : Df K mg "count_same" fC fdC ["row", "x", "most"]) : FnOk P w K mg base (CXE P w) 2 f fd ["row", "x"] (spGrey K) := by
  refine F.okX scGrey (fun vs H Q E h => ?_) (fun cdv A outer s H vs Q E hr h => ?_)
  · obtain ⟨a, l, x, rfl, _⟩ := h
    rfl
  · obtain ⟨a, l, x, rfl, hS, hx, hns, k⟩ := h
    refine ⟨_, pss_cons (ps_set (i := 2) scGrey.nd rfl (Or.inl rfl) (pe_op op_add (pv 1) pe_int)) (pss_cons (ps_while PassesOwn.leaving
      (PW.pt (pw_and (pt_cmpR op_lt (pv 2) (pe_callB call_len_seq (by rfl) hlen PySem.boot_len (pa_cons (pv 0) pa_nil)) (nomark _)) (pw_and (pt_cmpR op_lt (pe_op op_sub (pv 2) (pv 1)) (pe_cst cG rfl) (nomark _))
        (pw_and1 (pt_cmpR op_lt (pe_call GC hr rfl mC.mx mC.kp mC.bi .nil pass_cx (pa_cons (pv 0) (pa_cons (pv 2) (pa_cons (pe_cst cS rfl) pa_nil)))) (pe_cst cS rfl) (nomark _))))))
      (pss_one (ps_aug (i := 2) scGrey.nd rfl (Or.inl rfl) pe_int ip_add))) (pss_one (ps_ret (pv 2)))), ?_⟩
    try dsimp only [cxOf]
    refine ⟨_, rfl, _, _, rfl, rfl, ?_⟩
    have hne : l.drop x ≠ [] := fun z => by
      have := congrArg List.length z
      rw [List.length_drop] at this
      simp only [List.length_nil] at this
      lia
    have m0 : mixed 128 (l.drop x) = 1 + mixed 127 ((l.drop x).drop 1) := mixed_more hne hns
    refine ⟨fun m σ H' => ∃ j : Nat, H' = H ∧ σ = [some (.ref a), some (.int (x : Int)), some (.int ((x + j : Nat) : Int))] ∧ j ≤ 128 ∧ x + j ≤ l.length ∧ mixed 128 (l.drop x) = j + mixed (128 - j) ((l.drop x).drop j) ∧ m = l.length - (x + j), ⟨_, 1, rfl, rfl, by decide, hx, m0, rfl⟩, ?_⟩
    rintro m σ H' ⟨j, rfl, rfl, h1, h2, h3, rfl⟩
    have fin : mixed (128 - j) ((l.drop x).drop j) = 0 → ∃ v, some (some (V.int ((x + j : Nat) : Int))) = some (some v) ∧ Q v H' := fun e => by
      refine ⟨_, rfl, ?_⟩
      rw [e, Nat.add_zero] at h3
      rw [h3] at k
      exact k
    refine ⟨_, rfl, _, rfl, a, _, rfl, .inl hS, _, _, rfl, rfl, _, rfl, ?_⟩
    by_cases q1 : x + j < l.length
    · rw [decide_eq_true (show ((x + j : Nat) : Int) < ((bv l).length : Int) by rw [bv_len]; lia)]
      refine iteT ?_
      refine ⟨_, rfl, _, rfl, _, _, rfl, rfl, _, _, rfl, rfl, _, rfl, ?_⟩
      by_cases q2 : j < 128
      · rw [decide_eq_true (show ((x + j : Nat) : Int) - (x : Int) < 128 by lia)]
        refine iteT ?_
        refine ⟨_, rfl, _, rfl, a, iv l, x + j, 3, rfl, (by rw [← bv_iv]; exact hS), (by rw [iv_len]; exact q1), _, _, rfl, rfl, _, rfl, ?_⟩
        rw [iv_sm, ← List.drop_drop]
        by_cases q3 : 3 ≤ same ((l.drop x).drop j)
        · rw [decide_eq_false (show ¬ (((min (same ((l.drop x).drop j)) 3 : Nat) : Int) < 3) by lia)]
          exact iteF (fin (mixed_stop _ q3))
        · rw [decide_eq_true (show (((min (same ((l.drop x).drop j)) 3 : Nat) : Int) < 3) by lia)]
          refine iteT ⟨fun σ' H2 => ∃ m', m' < l.length - (x + j) ∧ ∃ j : Nat, H2 = H' ∧ σ' = [some (.ref a), some (.int (x : Int)), some (.int ((x + j : Nat) : Int))] ∧ j ≤ 128 ∧ x + j ≤ l.length ∧ mixed 128 (l.drop x) = j + mixed (128 - j) ((l.drop x).drop j) ∧ m' = l.length - (x + j), fun _ _ z => z, ?_⟩
          refine ⟨_, rfl, _, _, rfl, rfl, _, ?_, j + 1, rfl, ?_, q2, q1, ?_, rfl⟩
          · lia
          · have e : ((x + j : Nat) : Int) + 1 = ((x + (j + 1) : Nat) : Int) := by lia
            rw [← e]
            rfl
          · have ne2 : (l.drop x).drop j ≠ [] := fun z => by
              have := congrArg List.length z
              rw [List.length_drop, List.length_drop] at this
              simp only [List.length_nil] at this
              lia
            have e3 := mixed_more (f := 128 - (j + 1)) ne2 q3
            rw [show 128 - (j + 1) + 1 = 128 - j by lia] at e3
            rw [h3, e3, List.drop_drop]
            lia
      · rw [decide_eq_false (show ¬ ((x + j : Nat) : Int) - (x : Int) < 128 by lia)]
        refine iteF (iteF (fin ?_))
        rw [show 128 - j = 0 by lia]
        rfl
    · rw [decide_eq_false (show ¬ ((x + j : Nat) : Int) < ((bv l).length : Int) by rw [bv_len]; lia)]
      refine iteF (iteF (fin ?_))
      have e : (l.drop x).drop j = [] := by
        rw [List.drop_drop]
        exact List.drop_eq_nil_of_le (by lia)
      rw [e]
      exact mixed_nil _
end
end Pg
namespace Pg
open PySem PySem.Spec PyProof.Rows L2 Sh Ink
theorem small20k {n : Nat} (h : n ≤ 20000) : n < sizeLine := Nat.lt_of_le_of_lt h (by decide)
theorem dp_ints {K : PySem.W.Frag} {H : Hp} : ∀ is : List Int, DpAll K H (is.map V.int) (is.map PyData.int)
  | [] => .nil
  | i :: r => .cons (.int i) (dp_ints r)
theorem eqv_ints : ∀ is js : List Int, PyData.eqvAll (is.map PyData.int) (js.map PyData.int) = decide (is = js)
  | [], [] => by simp [PyData.eqvAll]
  | [], j :: js => by simp [PyData.eqvAll]
  | i :: is, [] => by simp [PyData.eqvAll]
  | i :: is, j :: js => by
    have ih := eqv_ints is js
    simp only [List.map_cons, PyData.eqvAll, PyData.eqv, ih]
    by_cases h : i = j
    · subst h; simp
    · simp [h]
theorem eqv_lists (is js : List Int) : PyData.eqv (.list (is.map PyData.int)) (.list (js.map PyData.int)) = decide (is = js) := by
  rw [PyData.eqv]
  exact eqv_ints is js
theorem eqv_none (is : List Int) : PyData.eqv (.list (is.map PyData.int)) .none = false := by simp [PyData.eqv]
theorem shaped_none : SeqAt.shaped .none = true := by decide
noncomputable def AbIs {α : Type} (em : α → List Int) (H : Hp) (v : V) (o : Option α) : Prop := (v = .non ∧ o = none) ∨ ∃ a x, v = .ref a ∧ o = some x ∧ H a = some (.lst ((em x).map V.int))
theorem AbIs.keep {α : Type} {em : α → List Int} {H H' : Hp} {v : V} {o : Option α} (h : AbIs em H v o) (k : Same H H') : AbIs em H' v o := by
  rcases h with h | ⟨a, x, h1, h2, h3⟩
  · exact .inl h
  · exact .inr ⟨a, x, h1, h2, k _ _ h3⟩
theorem iv_inj {a b : Bytes} (h : iv a = iv b) : a = b := by
  unfold iv at h
  exact List.map_inj_right (fun x y e => UInt8.toNat_inj.mp (by lia)) |>.mp h
section
variable {P : Program} {w : World} {K : PySem.W.Frag} {mg : Str → Option Value} {base : Heap} {CF fI CR : Addr} {fdI : FuncData}
noncomputable def spWrite {α : Type} (K : PySem.W.Frag) (em : α → List Int) (wr : Option α → α → Bytes) : Sp := fun vs H Q _ => ∃ (a : Addr) (av : V) (x : α) (above : Option α), vs = [.ref a, av] ∧ H a = some (.lst ((em x).map V.int)) ∧ AbIs em H av above ∧ (em x).length ≤ 8192 ∧
  ∀ q H', H' q = some (.lst (bv (wr above x))) → Same H H' → Q (.ref q) H'
end
end Pg
namespace Pg
open PySem PySem.Spec PyProof.Rows L2 Sh Ink
section
variable {P : Program} {w : World} {K : PySem.W.Frag} {mg : Str → Option Value} {base : Heap} {CF fI CR : Addr} {fdI : FuncData}
theorem scWrite : FnScope ["row", "above", "told", "x", "same", "end"] ["row", "above"] (defScope s_write_row_2) := ⟨rfl, rfl, rfl, by decide +kernel, rfl, by decide +kernel, by decide +kernel⟩
inductive WInv (a q : Addr) (av : V) (l : Bytes) (H : Hp) (m : Nat) (σ : L2.St) (H' : Hp) : Prop
  | mk (x fu : Nat) (tl : Bytes) (v4 v5 : Option V) (h0 : σ = [some (.ref a), some av, some (.ref q), some (.int (x : Int)), v4, v5]) (h1 : H' q = some (.lst (bv (0 :: tl)))) (h2 : Same H H') (h3 : x ≤ l.length) (h4 : l.length - x ≤ fu) (h5 : writeItems l.length l = tl ++ writeItems fu (l.drop x)) (h6 : m = l.length - x)
theorem ok_Write {f fC fG : Addr} {fd fdC fdG : FuncData} (F : Fun K "write_row" "write_row" s_write_row_2 f fd) (hlen : mg "len" = none) (c0 : Cst mg "ROW_ANEW" 0) (c1 : Cst mg "ROW_AS_ABOVE_picture" 1) (c3 : Cst mg "LEAST_SAME" 3) (c128 : Cst mg "FIRST_OF_SAME" 128) (c130 : Cst mg "MOST_SAME" 130)
    (GC : FnOk P w K mg base (CXE P w) 1 fC fdC ["row", "x", "most"] (spCount K)) (mC : Df K mg "count_same" fC fdC ["row", "x", "most"])
    (GG : FnOk P w K mg base (CXE P w) 2 fG fdG ["row", "x"] (spGrey K)) (mG : Df K mg "greys_end" fG fdG ["row", "x"]) : FnOk P w K mg base (CXE P w) 3 f fd ["row", "above"] (spWrite K iv writeRow) := by
  refine F.okX scWrite (fun vs H Q E h => ?_) (fun cdv A outer s H vs Q E hr h => ?_)
  · obtain ⟨a, av, x, above, rfl, _⟩ := h
    rfl
  · obtain ⟨a, av, l, above, rfl, hA, hav, hlen8, k⟩ := h
    rw [iv_len] at hlen8
    refine ⟨_, pss_cons (ps_if (pt_cmpR (op_eqD hr.units) (pv 0) (pv 1) (nomark _)) (pss_one (ps_ret (pe_lst (pa_cons (pe_cst c1 rfl) pa_nil)))) pss_nil)
      (pss_cons (ps_set (i := 2) scWrite.nd rfl (Or.inl rfl) (pe_lst (pa_cons (pe_cst c0 rfl) pa_nil)))
      (pss_cons (ps_set (i := 3) scWrite.nd rfl (Or.inl rfl) pe_int)
      (pss_cons (ps_while PassesOwn.leaving (pt_cmpR op_lt (pv 3) (pe_callB call_len_seq (by rfl) hlen PySem.boot_len (pa_cons (pv 0) pa_nil)) (nomark _))
        (pss_cons (ps_set (i := 4) scWrite.nd rfl (Or.inl rfl) (pe_call GC (hr.mono (by decide)) rfl mC.mx mC.kp mC.bi .nil pass_cx (pa_cons (pv 0) (pa_cons (pv 3) (pa_cons (pe_cst c130 rfl) pa_nil)))))
        (pss_one (ps_if (pt_cmpR op_ge (pv 4) (pe_cst c3 rfl) (nomark _))
          (pss_cons (ps_expr (pe_bm PySem.F.plainAttrs_list PySem.F.slot_list_append PySem.F.type_list_append mt_append (pv 2) (pa_cons (pe_op op_sub (pe_op op_add (pe_cst c128 rfl) (pv 4)) (pe_cst c3 rfl)) pa_nil)))
          (pss_cons (ps_expr (pe_bm PySem.F.plainAttrs_list PySem.F.slot_list_append PySem.F.type_list_append mt_append (pv 2) (pa_cons (pe_ix ix_list (pv 0) (pv 3) (fun _ _ => rfl)) pa_nil)))
          (pss_one (ps_aug (i := 3) scWrite.nd rfl (Or.inl rfl) (pv 4) ip_add))))
          (pss_cons (ps_set (i := 5) scWrite.nd rfl (Or.inl rfl) (pe_call GG hr rfl mG.mx mG.kp mG.bi .nil pass_cx (pa_cons (pv 0) (pa_cons (pv 3) pa_nil))))
          (pss_cons (ps_expr (pe_bm PySem.F.plainAttrs_list PySem.F.slot_list_append PySem.F.type_list_append mt_append (pv 2) (pa_cons (pe_op op_sub (pe_op op_sub (pv 5) (pv 3)) pe_int) pa_nil)))
          (pss_cons (ps_expr (pe_bm PySem.F.plainAttrs_list PySem.F.slot_list_extend PySem.F.type_list_extend mt_extend (pv 2) (pa_cons (pe_slice sl_list (pv 0) (po_some (pv 3)) (po_some (pv 5))) pa_nil)))
          (pss_one (ps_set (i := 3) scWrite.nd rfl (Or.inl rfl) (pv 5))))))))))
      (pss_one (ps_ret (pv 2)))))), ?_⟩
    try dsimp only [cxOf]
    have hS : ∀ {H' : Hp}, Same H H' → SqL K H' a ((iv l).map V.int) := fun k => SqL.of (k _ _ hA)
    have dpl : Dp K H (.ref a) (.list ((iv l).map PyData.int)) := .lst (SqL.of hA) (dp_ints _)
    -- row == above
    have test : ∃ e, Dp K H av e ∧ SeqAt.shaped e = true ∧ PyData.eqv (.list ((iv l).map PyData.int)) e = decide (above = some l) := by
      rcases hav with ⟨rfl, rfl⟩ | ⟨b, y, rfl, rfl, hb⟩
      · exact ⟨_, .non, shaped_none, by rw [eqv_none]; simp⟩
      · refine ⟨_, .lst (SqL.of hb) (dp_ints _), PySem.W.shaped_ints _, ?_⟩
        rw [eqv_lists]
        by_cases z : l = y
        · subst z; simp
        · have z1 : ¬ iv l = iv y := fun w' => z (iv_inj w')
          have z2 : ¬ some y = some l := fun w' => z (Option.some.inj w').symm
          rw [decide_eq_false z1, decide_eq_false z2]
    obtain ⟨e, de, se, ee⟩ := test
    refine ⟨_, rfl, _, rfl, _, e, dpl, de, PySem.W.shaped_ints _, se, _, rfl, ?_⟩
    rw [ee]
    by_cases qa : above = some l
    · rw [decide_eq_true qa]
      refine iteT ⟨(by show 1 ≤ sizeLine; decide), fun q hq => ?_⟩
      refine k q _ ?_ (Same.new hq)
      rw [upd_same]
      unfold writeRow
      rw [if_pos qa]
      rfl
    · rw [decide_eq_false qa]
      refine iteF ⟨(by show 1 ≤ sizeLine; decide), fun q hq => ?_⟩
      have wq : writeRow above l = 0 :: writeItems l.length l := by unfold writeRow; rw [if_neg qa]
      refine ⟨WInv a q av l H,
        ⟨_, 0, l.length, [], none, none, rfl, upd_same, Same.new hq, Nat.zero_le _, Nat.le_refl _, rfl, rfl⟩, ?_⟩
      rintro m σ H' ⟨x, fu, tl, v4, v5, rfl, hH', sa, hx, hfu, heq, rfl⟩
      have grow : ∀ {H2 : Hp} {o : HO}, Same H H2 → Same H (upd H2 q o) := fun {H2 o} s2 b u eb => by
        rw [upd_ne (ne_of_none eb hq)]
        exact s2 b u eb
      have tlen : tl.length ≤ 2 * l.length := by
        have z := items_len l.length l
        rw [heq, List.length_append] at z
        lia
      refine ⟨_, rfl, _, rfl, a, _, rfl, .inl (hS sa), _, _, rfl, rfl, _, rfl, ?_⟩
      by_cases q1 : x < l.length
      · rw [decide_eq_true (show ((x : Nat) : Int) < (((iv l).map V.int).length : Int) by rw [List.length_map, iv_len]; lia)]
        refine iteT ⟨fun σ' H2 => ∃ m', m' < l.length - x ∧ WInv a q av l H m' σ' H2, fun _ _ z => z, ?_⟩
        obtain ⟨fu, rfl⟩ : ∃ g, fu = g + 1 := ⟨fu - 1, by lia⟩
        obtain ⟨g, r, hgr⟩ : ∃ g r, l.drop x = g :: r := ⟨l[x], l.drop (x + 1), List.drop_eq_getElem_cons q1⟩
        have hg : l[x]? = some g := by
          have z := congrArg (fun y => y[0]?) hgr
          simp only [List.getElem?_drop, Nat.add_zero, List.getElem?_cons_zero] at z
          exact z
        have glen : (g :: r).length = l.length - x := by rw [← hgr, List.length_drop]
        have smle : same (g :: r) ≤ l.length - x := by rw [← glen, ← sm_bytes]; exact sm_le _
        refine ⟨_, rfl, _, rfl, a, iv l, x, 130, rfl, hS sa, (by rw [iv_len]; exact q1), ?_⟩
        rw [iv_sm, hgr]
        refine ⟨_, rfl, _, _, rfl, rfl, _, rfl, ?_⟩
        by_cases q3 : 3 ≤ same (g :: r)
        · rw [decide_eq_true (show (3 : Int) ≤ ((min (same (g :: r)) 130 : Nat) : Int) by lia)]
          refine iteT ?_
          refine ⟨_, rfl, .inl ⟨rfl, _, SqL.of hH'⟩, _, rfl, _, _, rfl, rfl, _, _, rfl, rfl, q, _, _, rfl, rfl, hH', (by rw [bv_len, List.length_cons]; exact small20k (by lia)), ?_⟩
          refine ⟨_, rfl, .inl ⟨rfl, _, SqL.of upd_same⟩, _, rfl, _, rfl, a, _, _, _, rfl, rfl, hS (grow sa), at_of (j := x) rfl (by rw [← bv_iv]; exact bv_get hg), q, _, _, rfl, rfl, upd_same, (by rw [List.length_append, bv_len, List.length_cons]; exact small20k (by simp only [List.length_cons, List.length_nil]; lia)), ?_⟩
          refine ⟨_, rfl, _, rfl, _, _, rfl, rfl, _, ?_, x + min (same (g :: r)) 130, fu, tl ++ [UInt8.ofNat (min (same (g :: r)) 130 + 125), g], some (.int ((min (same (g :: r)) 130 : Nat) : Int)), v5, ?_, ?_, grow (grow sa), by lia, by lia, ?_, rfl⟩
          · lia
          · show _ = _
            have e : ((x + min (same (g :: r)) 130 : Nat) : Int) = (x : Int) + ((min (same (g :: r)) 130 : Nat) : Int) := by lia
            rw [e]
            rfl
          · rw [upd_same]
            have e : (128 : Int) + ((min (same (g :: r)) 130 : Nat) : Int) - 3 = ((UInt8.ofNat (min (same (g :: r)) 130 + 125)).toNat : Int) := by
              rw [byte_nat (by lia)]
              lia
            show some (HO.lst (bv (0 :: tl) ++ [V.int ((128 : Int) + ((min (same (g :: r)) 130 : Nat) : Int) - 3)] ++ [V.int (g.toNat : Int)])) = _
            rw [e, ← List.cons_append, bv_app, List.append_assoc]
            rfl
          · rw [heq, hgr, items_same q3, ← hgr, List.drop_drop, List.append_assoc]
            rfl
        · rw [decide_eq_false (show ¬ (3 : Int) ≤ ((min (same (g :: r)) 130 : Nat) : Int) by lia)]
          refine iteF ?_
          have mle := mixed_le 128 (g :: r)
          have m1 : 1 ≤ mixed 128 (g :: r) := by rw [mixed_more (by simp) q3]; lia
          refine ⟨_, rfl, _, rfl, a, l, x, rfl, (by rw [bv_iv]; exact hS sa), q1, (by rw [hgr]; exact q3), ?_⟩
          rw [hgr]
          refine ⟨_, rfl, .inl ⟨rfl, _, SqL.of hH'⟩, _, rfl, _, rfl, _, _, rfl, rfl, _, _, rfl, rfl, q, _, _, rfl, rfl, hH', (by rw [bv_len, List.length_cons]; exact small20k (by lia)), ?_⟩
          refine ⟨_, rfl, .inl ⟨rfl, _, SqL.of upd_same⟩, _, rfl, _, rfl, _, rfl, _, rfl, _, rfl, a, _, rfl, hS (grow sa), fun p2 hp2 => ?_⟩
          have hp2H : upd H' q (.lst (bv (0 :: tl) ++ [V.int (((x + mixed 128 (g :: r) : Nat) : Int) - (x : Int) - 1)])) q = some (.lst (bv (0 :: tl) ++ [V.int (((x + mixed 128 (g :: r) : Nat) : Int) - (x : Int) - 1)])) := upd_same
          have npq : q ≠ p2 := ne_of_none hp2H hp2
          have ec : cutV ((iv l).map V.int) (some (x : Int)) (some ((x + mixed 128 (g :: r) : Nat) : Int)) = bv ((g :: r).take (mixed 128 (g :: r))) := by
            rw [← bv_iv, cut_bv l (by lia) (by lia), hgr, show x + mixed 128 (g :: r) - x = mixed 128 (g :: r) by lia]
          refine ⟨q, p2, _, _, rfl, rfl, (by rw [upd_ne npq, upd_same]), upd_same, ?_, ?_⟩
          · rw [ec, List.length_append, bv_len, bv_len, List.length_cons, List.length_take]
            refine Nat.le_of_lt (small20k ?_)
            simp only [List.length_cons, List.length_nil]
            simp only [List.length_cons] at glen
            lia
          · refine ⟨_, rfl, _, ?_, x + mixed 128 (g :: r), fu, tl ++ UInt8.ofNat (mixed 128 (g :: r) - 1) :: (g :: r).take (mixed 128 (g :: r)), _, _, rfl, ?_, ?_, by lia, by lia, ?_, rfl⟩
            · lia
            · rw [upd_same, ec]
              have e : ((x + mixed 128 (g :: r) : Nat) : Int) - (x : Int) - 1 = ((UInt8.ofNat (mixed 128 (g :: r) - 1)).toNat : Int) := by
                rw [byte_nat (by lia)]
                lia
              show some (HO.lst (bv (0 :: tl) ++ [V.int (((x + mixed 128 (g :: r) : Nat) : Int) - (x : Int) - 1)] ++ bv ((g :: r).take (mixed 128 (g :: r))))) = _
              rw [e, ← List.cons_append, bv_app, List.append_assoc]
              rfl
            · refine grow fun b u eb => ?_
              have z := grow (o := .lst (bv (0 :: tl) ++ [V.int (((x + mixed 128 (g :: r) : Nat) : Int) - (x : Int) - 1)])) sa b u eb
              rw [upd_ne (ne_of_none z hp2)]
              exact z
            · rw [heq, hgr, items_mixed q3, ← hgr, List.drop_drop, List.append_assoc]
              rfl
      · rw [decide_eq_false (show ¬ ((x : Nat) : Int) < (((iv l).map V.int).length : Int) by rw [List.length_map, iv_len]; lia)]
        refine iteF ⟨_, rfl, ?_⟩
        have z : l.drop x = [] := List.drop_eq_nil_of_le (by lia)
        rw [z, items_nil, List.append_nil] at heq
        refine k q H' ?_ sa
        rw [wq, heq]
        exact hH'
end
end Pg
namespace Pg
open PySem PySem.Spec PyProof.Rows L2 Sh Ink
noncomputable def tv (l : List Trit) : List Int := l.map fun t => (t.number : Int)
theorem tv_len (l : List Trit) : (tv l).length = l.length := List.length_map ..
theorem tv_inj {a b : List Trit} (h : tv a = tv b) : a = b := by
  unfold tv at h
  exact List.map_inj_right (fun x y e => trit_inj (by lia)) |>.mp h
theorem tv_app (a b : List Trit) : tv (a ++ b) = tv a ++ tv b := List.map_append
theorem tv_sm (l : List Trit) (x : Nat) : sm ((tv l).drop x) = sm (l.drop x) := by
  unfold tv
  rw [← List.map_drop, sm_map (fun a c h => trit_inj (by lia))]
theorem tv_get {l : List Trit} {i : Nat} {t : Trit} (h : l[i]? = some t) : ((tv l).map V.int)[i]? = some (V.int (t.number : Int)) := by
  unfold tv
  rw [List.getElem?_map, List.getElem?_map, h]
  rfl
section
variable {P : Program} {w : World} {K : PySem.W.Frag} {mg : Str → Option Value} {base : Heap} {CF fI CR : Addr} {fdI : FuncData}
theorem scWrS : FnScope ["row", "above", "told", "x", "length"] ["row", "above"] (defScope s_write_row) := ⟨rfl, rfl, rfl, by decide +kernel, rfl, by decide +kernel, by decide +kernel⟩
inductive WSInv (a q : Addr) (av : V) (l : List Trit) (H : Hp) (m : Nat) (σ : L2.St) (H' : Hp) : Prop
  | mk (x fu : Nat) (tl : Bytes) (v4 : Option V) (h0 : σ = [some (.ref a), some av, some (.ref q), some (.int (x : Int)), v4]) (h1 : H' q = some (.lst (bv tl))) (h2 : Same H H') (h3 : x ≤ l.length) (h4 : l.length - x ≤ fu) (h5 : writeRuns l.length l = tl ++ writeRuns fu (l.drop x)) (h6 : m = l.length - x)
theorem ok_WrS {f fC : Addr} {fd fdC : FuncData} (F : Fun K "write_row" "write_row" s_write_row f fd) (hlen : mg "len" = none) (c255 : Cst mg "ROW_AS_ABOVE_scan" 255) (c64 : Cst mg "MOST_IN_RUN" 64)
    (GC : FnOk P w K mg base (CXE P w) 1 fC fdC ["row", "x", "most"] (spCount K)) (mC : Df K mg "count_same" fC fdC ["row", "x", "most"]) : FnOk P w K mg base (CXE P w) 3 f fd ["row", "above"] (spWrite K tv writeLine) := by
  refine F.okX scWrS (fun vs H Q E h => ?_) (fun cdv A outer s H vs Q E hr h => ?_)
  · obtain ⟨a, av, x, above, rfl, _⟩ := h
    rfl
  · obtain ⟨a, av, l, above, rfl, hA, hav, hlen8, k⟩ := h
    rw [tv_len] at hlen8
    refine ⟨_, pss_cons (ps_if (pt_cmpR (op_eqD hr.units) (pv 0) (pv 1) (nomark _)) (pss_one (ps_ret (pe_lst (pa_cons (pe_cst c255 rfl) pa_nil)))) pss_nil)
      (pss_cons (ps_set (i := 2) scWrS.nd rfl (Or.inl rfl) (pe_lst pa_nil))
      (pss_cons (ps_set (i := 3) scWrS.nd rfl (Or.inl rfl) pe_int)
      (pss_cons (ps_while PassesOwn.leaving (pt_cmpR op_lt (pv 3) (pe_callB call_len_seq (by rfl) hlen PySem.boot_len (pa_cons (pv 0) pa_nil)) (nomark _))
        (pss_cons (ps_set (i := 4) scWrS.nd rfl (Or.inl rfl) (pe_call GC (hr.mono (by decide)) rfl mC.mx mC.kp mC.bi .nil pass_cx (pa_cons (pv 0) (pa_cons (pv 3) (pa_cons (pe_cst c64 rfl) pa_nil)))))
        (pss_cons (ps_expr (pe_bm PySem.F.plainAttrs_list PySem.F.slot_list_append PySem.F.type_list_append mt_append (pv 2) (pa_cons (pe_op op_sub (pe_op op_add (pe_op op_mul (pe_cst c64 rfl) (pe_ix ix_list (pv 0) (pv 3) (fun _ _ => rfl))) (pv 4)) pe_int) pa_nil)))
        (pss_one (ps_aug (i := 3) scWrS.nd rfl (Or.inl rfl) (pv 4) ip_add)))))
      (pss_one (ps_ret (pv 2)))))), ?_⟩
    try dsimp only [cxOf]
    have hS : ∀ {H' : Hp}, Same H H' → SqL K H' a ((tv l).map V.int) := fun k => SqL.of (k _ _ hA)
    have dpl : Dp K H (.ref a) (.list ((tv l).map PyData.int)) := .lst (SqL.of hA) (dp_ints _)
    have test : ∃ e, Dp K H av e ∧ SeqAt.shaped e = true ∧ PyData.eqv (.list ((tv l).map PyData.int)) e = decide (above = some l) := by
      rcases hav with ⟨rfl, rfl⟩ | ⟨b, y, rfl, rfl, hb⟩
      · exact ⟨_, .non, shaped_none, by rw [eqv_none]; simp⟩
      · refine ⟨_, .lst (SqL.of hb) (dp_ints _), PySem.W.shaped_ints _, ?_⟩
        rw [eqv_lists]
        by_cases z : l = y
        · subst z; simp
        · have z1 : ¬ tv l = tv y := fun w' => z (tv_inj w')
          have z2 : ¬ some y = some l := fun w' => z (Option.some.inj w').symm
          rw [decide_eq_false z1, decide_eq_false z2]
    obtain ⟨e, de, se, ee⟩ := test
    refine ⟨_, rfl, _, rfl, _, e, dpl, de, PySem.W.shaped_ints _, se, _, rfl, ?_⟩
    rw [ee]
    by_cases qa : above = some l
    · rw [decide_eq_true qa]
      refine iteT ⟨(by show 1 ≤ sizeLine; decide), fun q hq => ?_⟩
      refine k q _ ?_ (Same.new hq)
      rw [upd_same]
      unfold writeLine
      rw [if_pos qa]
      rfl
    · rw [decide_eq_false qa]
      refine iteF ⟨Nat.zero_le _, fun q hq => ?_⟩
      have wq : writeLine above l = writeRuns l.length l := by unfold writeLine; rw [if_neg qa]
      refine ⟨WSInv a q av l H,
        ⟨_, 0, l.length, [], none, rfl, upd_same, Same.new hq, Nat.zero_le _, Nat.le_refl _, rfl, rfl⟩, ?_⟩
      rintro m σ H' ⟨x, fu, tl, v4, rfl, hH', sa, hx, hfu, heq, rfl⟩
      have grow : ∀ {H2 : Hp} {o : HO}, Same H H2 → Same H (upd H2 q o) := fun {H2 o} s2 b u eb => by
        rw [upd_ne (ne_of_none eb hq)]
        exact s2 b u eb
      have tlen : tl.length ≤ l.length := by
        have z := runs_len l.length l
        rw [heq, List.length_append] at z
        lia
      refine ⟨_, rfl, _, rfl, a, _, rfl, .inl (hS sa), _, _, rfl, rfl, _, rfl, ?_⟩
      by_cases q1 : x < l.length
      · rw [decide_eq_true (show ((x : Nat) : Int) < (((tv l).map V.int).length : Int) by rw [List.length_map, tv_len]; lia)]
        refine iteT ⟨fun σ' H2 => ∃ m', m' < l.length - x ∧ WSInv a q av l H m' σ' H2, fun _ _ z => z, ?_⟩
        obtain ⟨fu, rfl⟩ : ∃ g, fu = g + 1 := ⟨fu - 1, by lia⟩
        obtain ⟨g, r, hgr⟩ : ∃ g r, l.drop x = g :: r := ⟨l[x], l.drop (x + 1), List.drop_eq_getElem_cons q1⟩
        have hg : l[x]? = some g := by
          have z := congrArg (fun y => y[0]?) hgr
          simp only [List.getElem?_drop, Nat.add_zero, List.getElem?_cons_zero] at z
          exact z
        have glen : (g :: r).length = l.length - x := by rw [← hgr, List.length_drop]
        have smle : sm (g :: r) ≤ l.length - x := by rw [← glen]; exact sm_le _
        have smp : 1 ≤ sm (g :: r) := sm_pos (by simp)
        have gl := trit_le g
        refine ⟨_, rfl, _, rfl, a, tv l, x, 64, rfl, hS sa, (by rw [tv_len]; exact q1), ?_⟩
        rw [tv_sm, hgr]
        refine ⟨_, rfl, .inl ⟨rfl, _, SqL.of hH'⟩, _, rfl, _, rfl, a, _, _, _, rfl, rfl, hS sa, at_of (j := x) rfl (tv_get hg), _, _, rfl, rfl, .inl ⟨by decide, by decide⟩, _, rfl, _, _, rfl, rfl, _, _, rfl, rfl, q, _, _, rfl, rfl, hH', (by rw [bv_len]; exact small20k (by lia)), ?_⟩
        refine ⟨_, rfl, _, rfl, _, _, rfl, rfl, _, ?_, x + min (sm (g :: r)) 64, fu, tl ++ [UInt8.ofNat (64 * g.number + (min (sm (g :: r)) 64 - 1))], some (.int ((min (sm (g :: r)) 64 : Nat) : Int)), ?_, ?_, grow sa, by lia, by lia, ?_, rfl⟩
        · lia
        · show _ = _
          have e : ((x + min (sm (g :: r)) 64 : Nat) : Int) = (x : Int) + ((min (sm (g :: r)) 64 : Nat) : Int) := by lia
          rw [e]
          rfl
        · rw [upd_same]
          have e : (64 : Int) * (g.number : Int) + ((min (sm (g :: r)) 64 : Nat) : Int) - 1 = ((UInt8.ofNat (64 * g.number + (min (sm (g :: r)) 64 - 1))).toNat : Int) := by
            rw [byte_nat (by lia)]
            lia
          show some (HO.lst (bv tl ++ [V.int ((64 : Int) * (g.number : Int) + ((min (sm (g :: r)) 64 : Nat) : Int) - 1)])) = _
          rw [e, bv_app]
          rfl
        · rw [heq, hgr, runs_step, ← hgr, List.drop_drop, List.append_assoc]
          rfl
      · rw [decide_eq_false (show ¬ ((x : Nat) : Int) < (((tv l).map V.int).length : Int) by rw [List.length_map, tv_len]; lia)]
        refine iteF ⟨_, rfl, ?_⟩
        have z : l.drop x = [] := List.drop_eq_nil_of_le (by lia)
        rw [z, runs_nil, List.append_nil] at heq
        refine k q H' ?_ sa
        rw [wq, heq]
        exact hH'
end
end Pg
namespace Pg
open PySem PySem.Spec PyProof.Rows L2 Sh Ink
theorem drop_at {b : Bytes} {p : Nat} {c : UInt8} (h : b[p]? = some c) : b.drop p = c :: b.drop (p + 1) := by
  obtain ⟨hl, e⟩ := List.getElem?_eq_some_iff.mp h
  rw [List.drop_eq_getElem_cons hl, e]
theorem take_more {b : Bytes} {p i : Nat} {c : UInt8} (h : b[p + i]? = some c) : (b.drop p).take (i + 1) = (b.drop p).take i ++ [c] := by
  rw [List.take_succ, List.getElem?_drop, h]
  rfl
theorem bv_rep (n : Nat) (c : UInt8) : bv (List.replicate n c) = (List.replicate n [V.int (c.toNat : Int)]).flatten := by
  unfold bv
  induction n with
  | zero => rfl
  | succ n ih => rw [List.replicate_succ, List.replicate_succ, List.flatten_cons, List.map_cons, ih]; rfl
end Pg
namespace Pg
open PySem PySem.Spec PyProof.Rows L2 Sh Ink
section
variable {P : Program} {w : World} {K : PySem.W.Frag} {mg : Str → Option Value} {base : Heap} {CF fI CR : Addr} {fdI : FuncData}
noncomputable def spILen : Sp := fun vs H Q _ => ∃ c : UInt8, vs = [.int (c.toNat : Int)] ∧ Q (.int (ilen c : Int)) H
theorem scILen : FnScope ["first"] ["first"] (defScope s_item_length) := ⟨rfl, rfl, rfl, by decide +kernel, rfl, by decide +kernel, by decide +kernel⟩
theorem ok_ILen {f : Addr} {fd : FuncData} (F : Fun K "item_length" "item_length" s_item_length f fd) (c3 : Cst mg "LEAST_SAME" 3) (c128 : Cst mg "FIRST_OF_SAME" 128) : FnOk P w K mg base (CXE P w) 1 f fd ["first"] spILen := by
  refine F.okX scILen (fun vs H Q E h => ?_) (fun cdv A outer s H vs Q E hr h => ?_)
  · obtain ⟨c, rfl, _⟩ := h
    rfl
  · obtain ⟨c, rfl, k⟩ := h
    refine ⟨_, pss_cons (ps_if (pt_cmpR op_ge (pv 0) (pe_cst c128 rfl) (nomark _)) (pss_one (ps_ret (pe_op op_add (pe_op op_sub (pv 0) (pe_cst c128 rfl)) (pe_cst c3 rfl)))) pss_nil) (pss_one (ps_ret (pe_op op_add (pv 0) pe_int))), ?_⟩
    try dsimp only [cxOf]
    refine ⟨_, rfl, _, _, rfl, rfl, _, rfl, ?_⟩
    unfold ilen at k
    by_cases q : 128 ≤ c.toNat
    · rw [decide_eq_true (show (128 : Int) ≤ (c.toNat : Int) by lia)]
      refine iteT ⟨_, rfl, _, _, rfl, rfl, _, _, rfl, rfl, ?_⟩
      rw [if_pos q] at k
      have e : (c.toNat : Int) - 128 + 3 = ((c.toNat - 125 : Nat) : Int) := by lia
      show Q (.int ((c.toNat : Int) - 128 + 3)) H
      rw [e]
      exact k
    · rw [decide_eq_false (show ¬ (128 : Int) ≤ (c.toNat : Int) by lia)]
      refine iteF ⟨_, rfl, _, _, rfl, rfl, ?_⟩
      rw [if_neg q] at k
      exact k
theorem ilen_le (c : UInt8) : ilen c ≤ 130 := by
  have := c.toNat_lt
  unfold ilen
  split <;> lia
theorem item_cons (left : Nat) (k : UInt8) (r : Bytes) (p : Nat) : item left (k :: r) p = if left < ilen k then .error ⟨4, p⟩
    else if 128 ≤ k.toNat then (match r with
      | [] => .error ⟨5, p + 1⟩
      | g :: _ => .ok (List.replicate (ilen k) g, p + 2))
    else if r.length < ilen k then .error ⟨5, p + 1 + r.length⟩
    else .ok (r.take (ilen k), p + 1 + ilen k) := rfl
noncomputable def spItem (K : PySem.W.Frag) (CR CF : Addr) : Sp := fun vs H Q E => ∃ (r d : Addr) (b : Bytes) (p left : Nat), vs = [.ref r, .int (left : Int)] ∧ RdAt K CR b H r d p ∧ (∀ e, item left (b.drop p) p = .error e → Fails CF E e.rule e.place) ∧
  (∀ xs p', item left (b.drop p) p = .ok (xs, p') → ∀ H' a, H' a = some (.lst (bv xs)) → H a = none → RdAt K CR b H' r d p' → Keep r H H' → Q (.ref a) H')
theorem scItem : FnScope ["reader", "left", "start", "first", "length", "step"] ["reader", "left"] (defScope s_read_item) := ⟨rfl, rfl, rfl, by decide +kernel, rfl, by decide +kernel, by decide +kernel⟩
theorem ok_Item {f fT fL : Addr} {fd fdT fdL : FuncData} (F : Fun K "read_item" "read_item" s_read_item f fd) (T : Txt K mg CF fI CR) (c4 : Cst mg "TOO_MANY" 4) (c128 : Cst mg "FIRST_OF_SAME" 128)
    (GI : FnOk P w K mg base (CXE P w) 1 fI fdI ["self", "rule", "place"] (spFI CF)) (bI : Binds K fdI ["self", "rule", "place"] [])
    (GT : FnOk P w K mg base (CXE P w) 4 fT fdT ["self"] (spTake K CR CF)) (mT : Dm K CR "take" fT fdT ["self"])
    (GL : FnOk P w K mg base (CXE P w) 1 fL fdL ["first"] spILen) (mL : Df K mg "item_length" fL fdL ["first"]) : FnOk P w K mg base (CXE P w) 5 f fd ["reader", "left"] (spItem K CR CF) := by
  refine F.okX scItem (fun vs H Q E h => ?_) (fun cdv A outer s H vs Q E hr h => ?_)
  · obtain ⟨r, d, b, p, left, rfl, _⟩ := h
    rfl
  · obtain ⟨r, d, b, p, left, rfl, R, k1, k2⟩ := h
    obtain ⟨dx, hx⟩ := R.rd
    refine ⟨_, pss_cons (ps_set (i := 2) scItem.nd rfl (Or.inl rfl) (pe_fld (pv 0) rfl)) (pss_cons (ps_set (i := 3) scItem.nd rfl (Or.inl rfl) (pe_meth0 (pv 0) T.cl mT.me GT hr mT.bi .nil pass_cx))
      (pss_cons (ps_set (i := 4) scItem.nd rfl (Or.inl rfl) (pe_call GL (hr.mono (by decide)) rfl mL.mx mL.kp mL.bi .nil pass_cx (pa_cons (pv 3) pa_nil)))
      (pss_cons (ps_if (pt_cmpR op_gt (pv 4) (pv 1) (nomark _)) (pss_one (ps_raiseX T.xc GI (hr.mono (by decide)) rfl rfl T.mgF bI pass_cx throws_cx (pa_cons (pe_cst c4 rfl) (pa_cons (pv 2) pa_nil)))) pss_nil)
      (pss_cons (ps_if (pt_cmpR op_ge (pv 3) (pe_cst c128 rfl) (nomark _)) (pss_one (ps_ret (pe_op op_rep (pe_lst (pa_cons (pe_meth0 (pv 0) T.cl mT.me GT hr mT.bi .nil pass_cx) pa_nil)) (pv 4)))) pss_nil)
      (pss_one (ps_ret (pe_lcX (own := [("step", 5)]) (L := s.heap.objs.size) rfl rfl rfl lets_cx rfl scItem.nd (pi_range1 rfl T.range (pa_cons (pv 4) pa_nil)) (blkOk_by (by show blkC ["reader", "left", "start", "first", "length", "step"] (defScope s_read_item) _ _ = true; decide +kernel))
        (fun s H C cl fp => pg_name (i := 5) scItem.nd rfl (Or.inl rfl)) (fun s H C cl fp => pts_nil) (fun s H C cl fp xe hp => pe_meth0 (pv 0) T.cl mT.me GT hr mT.bi .nil hp)))))))), ?_⟩
    try dsimp only [cxOf]
    refine ⟨_, rfl, r, CR, dx, _, _, rfl, hx, T.cl, T.nP, rf_place d p, ?_⟩
    refine ⟨_, rfl, r, dx, _, rfl, hx, rf_no d p (by decide +kernel) (by decide +kernel), r, d, b, p, rfl, R, fun c hc H1 R1 kp1 => ?_, fun hn => ?_⟩
    · have hd : b.drop p = c :: b.drop (p + 1) := drop_at hc
      rw [hd] at k1 k2
      have ldr : (b.drop (p + 1)).length = b.length - (p + 1) := List.length_drop ..
      refine ⟨_, rfl, c, rfl, ?_⟩
      refine ⟨_, rfl, _, rfl, _, _, rfl, rfl, _, rfl, ?_⟩
      by_cases q1 : left < ilen c
      · rw [decide_eq_true (show (left : Int) < (ilen c : Int) by lia)]
        refine iteT ⟨_, rfl, (by show 2 ≤ sizeLine; decide), fun ea ta hea => ?_⟩
        refine ⟨ea, ta, 4, p, rfl, upd_same, fails_raise (H := H) (k1 ⟨4, p⟩ ?_)⟩
        rw [item_cons, if_pos q1]
      · rw [decide_eq_false (show ¬ (left : Int) < (ilen c : Int) by lia)]
        refine iteF ?_
        refine ⟨_, rfl, _, _, rfl, rfl, _, rfl, ?_⟩
        obtain ⟨dx1, hx1⟩ := R1.rd
        by_cases q2 : 128 ≤ c.toNat
        · rw [decide_eq_true (show (128 : Int) ≤ (c.toNat : Int) by lia)]
          refine iteT ?_
          refine ⟨_, rfl, r, dx1, _, rfl, hx1, rf_no d (p + 1) (by decide +kernel) (by decide +kernel), r, d, b, p + 1, rfl, R1, fun g hg H2 R2 kp2 => ?_, fun hn => ?_⟩
          · refine ⟨(by show 1 ≤ sizeLine; decide), fun l hl => ?_⟩
            have il := ilen_le c
            refine ⟨_, rfl, l, _, _, rfl, rfl, upd_same, by lia, by lia, ?_, fun a ha => ?_⟩
            · show 1 * ((ilen c : Nat) : Int).toNat ≤ sizeLine
              rw [Int.toNat_natCast]
              exact Nat.le_of_lt (small20k (by lia))
            · have z : item left (c :: b.drop (p + 1)) p = .ok (List.replicate (ilen c) g, p + 2) := by
                rw [item_cons, if_neg q1, if_pos q2, drop_at hg]
              have s2 : Same H2 (upd (upd H2 l (.lst [V.int (g.toNat : Int)])) a (.lst (List.replicate ((ilen c : Nat) : Int).toNat [V.int (g.toNat : Int)]).flatten)) := (Same.new hl).trans (Same.new ha)
              refine k2 _ _ z _ a ?_ ?_ (R2.keep s2) ((kp1.trans kp2).trans (Keep.same s2))
              · rw [upd_same, Int.toNat_natCast, bv_rep]
              · cases q : H a with
                | none => rfl
                | some o =>
                  by_cases ar : a = r
                  · subst ar
                    obtain ⟨dx2, hx2⟩ := R2.rd
                    have := Same.new (o := .lst [V.int (g.toNat : Int)]) hl _ _ hx2
                    rw [this] at ha
                    cases ha
                  · have := Same.new (o := .lst [V.int (g.toNat : Int)]) hl _ _ (kp2 _ _ (kp1 _ _ q ar) ar)
                    rw [this] at ha
                    cases ha
          · have hl := List.getElem?_eq_none_iff.mp hn
            refine k1 ⟨5, p + 1⟩ ?_
            rw [item_cons, if_neg q1, if_pos q2, List.drop_eq_nil_of_le hl]
        · rw [decide_eq_false (show ¬ (128 : Int) ≤ (c.toNat : Int) by lia)]
          refine iteF ?_
          have il := ilen_le c
          refine ⟨_, rfl, _, rfl, by lia, by lia, fun D hD => ?_⟩
          refine lc_range (Pv := fun i H' => H' D = some (.lst (bv ((b.drop (p + 1)).take i))) ∧ RdAt K CR b H' r d (p + 1 + i) ∧ Keep r H H' ∧ i ≤ b.length - (p + 1)) ?_ ?_ ?_
          · exact ⟨upd_same, R1.keep (Same.new hD), kp1.trans (Keep.same (Same.new hD)), Nat.zero_le _⟩
          · rintro i H' hi ⟨hDl, R', kp', hib⟩
            obtain ⟨dx', hx'⟩ := R'.rd
            refine ⟨rfl, ?_⟩
            dsimp only [tYes]
            rw [if_pos rfl]
            refine ⟨_, rfl, r, dx', _, rfl, hx', rf_no d (p + 1 + i) (by decide +kernel) (by decide +kernel), r, d, b, p + 1 + i, rfl, R', fun g hg H2 R2 kp2 => ?_, fun hn => ?_⟩
            · have Dr : D ≠ r := ne_of hDl hx' (by intro z; cases z)
              have hgl := (List.getElem?_eq_some_iff.mp hg).1
              have sm2 : Keep r H2 (upd H2 D (.lst (bv ((b.drop (p + 1)).take i) ++ [V.int (g.toNat : Int)]))) ∨ True := .inr trivial
              refine ⟨_, kp2 _ _ hDl Dr, ?_, ?_, ?_, ?_, by lia⟩
              · rw [bv_len, List.length_take]
                exact small20k (by rw [Int.toNat_natCast] at hi; lia)
              · rw [upd_same, take_more hg, bv_app]
                rfl
              · exact R2.lst (kp2 _ _ hDl Dr)
              · intro y o hy hyr
                have h3 := (kp'.trans kp2) y o hy hyr
                have nD : y ≠ D := fun z => by
                  subst z
                  have h4 := kp1 y o hy hyr
                  rw [hD] at h4
                  cases h4
                rw [upd_ne nD]
                exact h3
            · have hl := List.getElem?_eq_none_iff.mp hn
              have le' := R'.le
              rw [Int.toNat_natCast] at hi
              have e : p + 1 + i = b.length := by lia
              rw [e]
              have z := k1 ⟨5, p + 1 + (b.drop (p + 1)).length⟩ (by
                rw [item_cons, if_neg q1, if_neg q2, if_pos (by lia)])
              have e2 : p + 1 + (b.drop (p + 1)).length = b.length := by lia
              rw [e2] at z
              exact z
          · rintro H' ⟨hDl, R', kp', hib⟩
            rw [Int.toNat_natCast] at hDl R' hib
            have z : item left (c :: b.drop (p + 1)) p = .ok ((b.drop (p + 1)).take (ilen c), p + 1 + ilen c) := by
              rw [item_cons, if_neg q1, if_neg q2, if_neg (by lia)]
            refine k2 _ _ z H' D hDl ?_ R' kp'
            cases q : H D with
            | none => rfl
            | some o =>
              by_cases ar : D = r
              · subst ar
                rw [hx1] at hD
                cases hD
              · rw [kp1 _ _ q ar] at hD
                cases hD
    · have hl := List.getElem?_eq_none_iff.mp hn
      refine k1 ⟨5, p⟩ ?_
      rw [List.drop_eq_nil_of_le hl]
      rfl
end
end Pg
namespace Pg
open PySem PySem.Spec PyProof.Rows L2 Sh Ink
noncomputable def spRow {α : Type} (K : PySem.W.Frag) (CR CF : Addr) (em : α → List Int) (body : Nat → Body α) : Sp := fun vs H Q E => ∃ (r d : Addr) (b : Bytes) (p wd : Nat) (av : V) (above : Option α), vs = [.ref r, .int (wd : Int), av] ∧ RdAt K CR b H r d p ∧ AbIs em H av above ∧ 1 ≤ wd ∧ wd ≤ 8192 ∧
  (∀ e, body wd above (b.drop p) p = .error e → Fails CF E e.rule e.place) ∧ (∀ x, body wd above (b.drop p) p = .ok x → ∀ H' a, H' a = some (.lst ((em x.1).map V.int)) → RdAt K CR b H' r d x.2.2 → Keep r H H' → Q (.ref a) H')
theorem vint_iff (n m : Nat) : (V.int (n : Int) = V.int (m : Int)) ↔ n = m := ⟨fun h => by injection h with h; lia, fun h => by rw [h]⟩
end Pg
namespace Pg
open PySem PySem.Spec PyProof.Rows L2 Sh Ink
section
variable {P : Program} {w : World} {K : PySem.W.Frag} {mg : Str → Option Value} {base : Heap} {CF fI CR : Addr} {fdI : FuncData}
theorem scRow : FnScope ["reader", "width", "above", "start", "first", "row"] ["reader", "width", "above"] (defScope s_read_row) := ⟨rfl, rfl, rfl, by decide +kernel, rfl, by decide +kernel, by decide +kernel⟩
theorem rowBody_cons (wd : Nat) (above : Option Bytes) (k : UInt8) (r : Bytes) (p : Nat) : rowBody wd above (k :: r) p = if k.toNat = 0 then readItems wd wd [] r (p + 1) else match above with
    | some a => if k.toNat = 1 then .ok (a, r, p + 1) else .error ⟨3, p⟩
    | none => .error ⟨3, p⟩ := rfl
inductive RowInv (K : PySem.W.Frag) (CR : Addr) (b : Bytes) (r d q : Addr) (wd p : Nat) (av : V) (c : UInt8) (H : Hp) (m : Nat) (σ : L2.St) (H' : Hp) : Prop
  | mk (had : Bytes) (fu p' : Nat) (h0 : σ = [some (.ref r), some (.int (wd : Int)), some av, some (.int (p : Int)), some (.int (c.toNat : Int)), some (.ref q)]) (h1 : H' q = some (.lst (bv had))) (h2 : RdAt K CR b H' r d p') (h3 : Keep r H H') (h4 : had.length ≤ wd) (h5 : wd - had.length ≤ fu) (h6 : readItems wd wd [] (b.drop (p + 1)) (p + 1) = readItems wd fu had (b.drop p') p') (h7 : m = wd - had.length)
theorem ok_Row {f fT fIt : Addr} {fd fdT fdIt : FuncData} (F : Fun K "read_row" "read_row" s_read_row f fd) (T : Txt K mg CF fI CR) (c0 : Cst mg "ROW_ANEW" 0) (c1 : Cst mg "ROW_AS_ABOVE_picture" 1) (c3 : Cst mg "WRONG_START" 3)
    (GI : FnOk P w K mg base (CXE P w) 1 fI fdI ["self", "rule", "place"] (spFI CF)) (bI : Binds K fdI ["self", "rule", "place"] [])
    (GT : FnOk P w K mg base (CXE P w) 4 fT fdT ["self"] (spTake K CR CF)) (mT : Dm K CR "take" fT fdT ["self"])
    (GJ : FnOk P w K mg base (CXE P w) 5 fIt fdIt ["reader", "left"] (spItem K CR CF)) (mJ : Df K mg "read_item" fIt fdIt ["reader", "left"]) : FnOk P w K mg base (CXE P w) 6 f fd ["reader", "width", "above"] (spRow K CR CF iv rowBody) := by
  refine F.okX scRow (fun vs H Q E h => ?_) (fun cdv A outer s H vs Q E hr h => ?_)
  · obtain ⟨r, d, b, p, wd, av, above, rfl, _⟩ := h
    rfl
  · obtain ⟨r, d, b, p, wd, av, above, rfl, R, hav, hw1, hw8, k1, k2⟩ := h
    obtain ⟨dx, hx⟩ := R.rd
    refine ⟨_, pss_cons (ps_set (i := 3) scRow.nd rfl (Or.inl rfl) (pe_fld (pv 0) rfl)) (pss_cons (ps_set (i := 4) scRow.nd rfl (Or.inl rfl) (pe_meth0 (pv 0) T.cl mT.me GT (hr.mono (by decide)) mT.bi .nil pass_cx))
      (pss_cons (ps_if (PW.pt (pw_and (pt_cmpR op_eq (pv 4) (pe_cst c1 rfl) (nomark _)) (pw_and1 (pt_cmp (pc_notN (pv 2)))))) (pss_one (ps_ret (pv 2))) pss_nil)
      (pss_cons (ps_if (pt_cmpR op_ne (pv 4) (pe_cst c0 rfl) (nomark _)) (pss_one (ps_raiseX T.xc GI (hr.mono (by decide)) rfl rfl T.mgF bI pass_cx throws_cx (pa_cons (pe_cst c3 rfl) (pa_cons (pv 3) pa_nil)))) pss_nil)
      (pss_cons (ps_set (i := 5) scRow.nd rfl (Or.inl rfl) (pe_lst pa_nil))
      (pss_cons (ps_while PassesOwn.leaving (pt_cmpR op_lt (pe_callB call_len_seq (by rfl) T.len PySem.boot_len (pa_cons (pv 5) pa_nil)) (pv 1) (nomark _))
        (pss_one (ps_expr (pe_bm PySem.F.plainAttrs_list PySem.F.slot_list_extend PySem.F.type_list_extend mt_extend (pv 5) (pa_cons (pe_call GJ hr rfl mJ.mx mJ.kp mJ.bi .nil pass_cx (pa_cons (pv 0) (pa_cons (pe_op op_sub (pv 1) (pe_callB call_len_seq (by rfl) T.len PySem.boot_len (pa_cons (pv 5) pa_nil))) pa_nil))) pa_nil)))))
      (pss_one (ps_ret (pv 5)))))))), ?_⟩
    try dsimp only [cxOf]
    refine ⟨_, rfl, r, CR, dx, _, _, rfl, hx, T.cl, T.nP, rf_place d p, ?_⟩
    refine ⟨_, rfl, r, dx, _, rfl, hx, rf_no d p (by decide +kernel) (by decide +kernel), r, d, b, p, rfl, R, fun c hc H1 R1 kp1 => ?_, fun hn => ?_⟩
    · have hd : b.drop p = c :: b.drop (p + 1) := drop_at hc
      rw [hd] at k1 k2
      simp only [rowBody_cons] at k1 k2
      -- what follows where the row above is not told again
      have on : ¬ (c.toNat = 1 ∧ above ≠ none) → tSeq (tIfS (tTest (tOp rNe (tVar 4) (tC (V.int 0)))) (tRaiseX CF (spFI CF) E (tCons (tC (V.int 3)) (tCons (tVar 3) tNil))) tNext)
          (tSeq (tAsg (tLst tNil) (gName 5)) (tSeq (tWhile (tTest (tOp (rI0 fun i j => V.bl (decide (i < j))) (tCB (fun xs H Q => ∃ p ys, xs = [V.ref p] ∧ (SqL K H p ys ∨ SqT K H p ys) ∧ Q (V.int ys.length) H) (tCons (tVar 5) tNil)) (tVar 1)))
            (tDrop (tBM K "list" rExtend (tVar 5) (tCons (tCall (spItem K CR CF) [] E (tCons (tVar 0) (tCons (tOp (rI0 fun i j => V.int (i - j)) (tVar 1) (tCB (fun xs H Q => ∃ p ys, xs = [V.ref p] ∧ (SqL K H p ys ∨ SqT K H p ys) ∧ Q (V.int ys.length) H) (tCons (tVar 5) tNil))) tNil))) tNil))))
            (tRet (tVar 5)))) { nx := fun _ H' => Q .non H', rt := Q } [some (.ref r), some (.int (wd : Int)), some av, some (.int (p : Int)), some (.int (c.toNat : Int)), none] H1 := by
        intro hno
        refine ⟨_, rfl, rfl, _, rfl, ?_⟩
        by_cases q0 : c.toNat = 0
        · refine iteNS ((vint_iff c.toNat 0).mpr q0) ?_
          rw [if_pos q0] at k1 k2
          refine ⟨Nat.zero_le _, fun q hq => ?_⟩
          have qr : q ≠ r := fun z => by
            subst z
            obtain ⟨dx1, hx1⟩ := R1.rd
            rw [hx1] at hq
            cases hq
          refine ⟨RowInv K CR b r d q wd p av c H, ⟨_, [], wd, p + 1, rfl, upd_same, R1.keep (Same.new hq), kp1.trans (Keep.same (Same.new hq)), Nat.zero_le _, Nat.le_refl _, rfl, rfl⟩, ?_⟩
          rintro m σ H' ⟨had, fu, p', rfl, hH', R', kp', h1, h2, heq, rfl⟩
          refine ⟨_, rfl, q, _, rfl, .inl (SqL.of hH'), _, rfl, _, _, rfl, rfl, _, rfl, ?_⟩
          by_cases q1 : had.length < wd
          · rw [decide_eq_true (show (((bv had).length : Nat) : Int) < (wd : Int) by rw [bv_len]; lia)]
            refine iteT ⟨fun σ' H2 => ∃ m', m' < wd - had.length ∧ RowInv K CR b r d q wd p av c H m' σ' H2, fun _ _ z => z, ?_⟩
            obtain ⟨fu, rfl⟩ : ∃ g, fu = g + 1 := ⟨fu - 1, by lia⟩
            rw [readItems_step q1] at heq
            refine ⟨_, rfl, .inl ⟨rfl, _, SqL.of hH'⟩, _, rfl, _, rfl, _, rfl, q, _, rfl, .inl (SqL.of hH'), _, _, rfl, rfl, r, d, b, p', wd - had.length, ?_, R', fun e he => ?_, fun xs p2 he H2 a ha hna R2 kp2 => ?_⟩
            · have e : (wd : Int) - (((bv had).length : Nat) : Int) = ((wd - had.length : Nat) : Int) := by rw [bv_len]; lia
              show [V.ref r, V.int ((wd : Int) - (((bv had).length : Nat) : Int))] = _
              rw [e]
            · rw [he] at heq
              exact k1 e heq
            · obtain ⟨a1, a2, a3, a4⟩ := item_ok he
              rw [he] at heq
              have hq2 : H2 q = some (.lst (bv had)) := kp2 _ _ hH' qr
              refine ⟨q, a, _, _, rfl, rfl, hq2, ha, ?_, ?_⟩
              · rw [bv_len, bv_len]
                exact Nat.le_of_lt (small20k (by lia))
              · refine ⟨_, ?_, had ++ xs, fu, p2, rfl, ?_, ?_, ?_, ?_, ?_, ?_, rfl⟩
                · rw [List.length_append]; lia
                · rw [upd_same, bv_app]
                · exact R2.lst hq2
                · intro y o hy hyr
                  have nq : y ≠ q := fun z => by
                    subst z
                    have h4 := kp1 y o hy hyr
                    rw [hq] at h4
                    cases h4
                  rw [upd_ne nq]
                  exact kp2 _ _ (kp' _ _ hy hyr) hyr
                · rw [List.length_append]; lia
                · rw [List.length_append]; lia
                · rw [heq]
                  dsimp only
                  rw [List.drop_drop, show p' + (p2 - p') = p2 by lia]
          · rw [decide_eq_false (show ¬ (((bv had).length : Nat) : Int) < (wd : Int) by rw [bv_len]; lia)]
            refine iteF ⟨_, rfl, ?_⟩
            rw [readItems_done (w := wd) (f := fu) (p := p') (had := had) (b := b.drop p') (by lia)] at heq
            exact k2 _ heq H' q (by rw [← bv_iv]; exact hH') R' kp'
        · rw [decide_eq_false (show ¬ V.int (c.toNat : Int) = V.int 0 from fun z => q0 ((vint_iff c.toNat 0).mp z))]
          refine iteT ⟨_, rfl, (by show 2 ≤ sizeLine; decide), fun ea ta hea => ?_⟩
          rw [if_neg q0] at k1
          refine ⟨ea, ta, 3, p, rfl, upd_same, fails_raise (H := H) (k1 ⟨3, p⟩ ?_)⟩
          cases above with
          | none => rfl
          | some x =>
            dsimp only
            rw [if_neg fun z => hno ⟨z, by simp⟩]
      refine ⟨_, rfl, rfl, _, rfl, ?_⟩
      by_cases q1 : c.toNat = 1
      · rw [decide_eq_true (show V.int (c.toNat : Int) = V.int 1 from (vint_iff c.toNat 1).mpr q1)]
        refine iteT ⟨_, rfl, _, rfl, ?_⟩
        rcases hav with ⟨rfl, rfl⟩ | ⟨a, x, rfl, rfl, ha⟩
        · exact iteNS rfl (on fun z => z.2 rfl)
        · rw [decide_eq_false (show ¬ V.ref a = V.non from fun z => by cases z)]
          refine iteT ⟨_, rfl, ?_⟩
          have ar : a ≠ r := ne_of ha hx (by intro z; cases z)
          refine k2 (x, b.drop (p + 1), p + 1) ?_ H1 a (kp1 _ _ ha ar) R1 kp1
          rw [if_neg (by lia)]
          dsimp only
          rw [if_pos q1]
      · rw [decide_eq_false (show ¬ V.int (c.toNat : Int) = V.int 1 from fun z => q1 ((vint_iff c.toNat 1).mp z))]
        exact iteF (iteF (on fun z => q1 z.1))
    · have hl := List.getElem?_eq_none_iff.mp hn
      refine k1 ⟨5, p⟩ ?_
      rw [List.drop_eq_nil_of_le hl]
      rfl
end
end Pg
namespace L2
open PySem PySem.Spec PyProof.Rows XE
theorem Same.put {H H' : Hp} {D : Addr} {o : HO} (s : Same H H') (h : H D = none) : Same H (upd H' D o) := fun b u e => by
  rw [upd_ne (ne_of_none e h)]
  exact s b u e
section
variable {K : PySem.W.Frag} {a : Addr} {xs : List V} {g : TG} {tt : TT} {te : TE} {vs : List Nat} {σ : St} {H1 : Hp} {D : Addr} {Qd : Hp → Prop}
theorem lc_enum (Pv : Nat → Hp → Prop) (h0 : Pv 0 (upd H1 D (.lst []))) (hl : ∀ i H, i ≤ xs.length → Pv i H → SqL K H a xs)
    (hs : ∀ i x H T, xs[i]? = some x → Pv i H → H T = none → g (.ref T) (wipe σ vs) (upd H T (.tup [.int (i : Nat), x])) fun σ2 H2 => wipe σ2 vs = wipe σ vs ∧ tt σ2 H2 fun b H3 =>
      if b = true then te σ2 H3 fun y H4 => ∃ acc, H4 D = some (.lst acc) ∧ acc.length < sizeLine ∧ Pv (i + 1) (upd H4 D (.lst (acc ++ [y]))) else Pv (i + 1) H3) (hd : ∀ H, Pv xs.length H → Qd H) :
    ∃ W : Nat → Nat → Hp → Prop, (∃ m, W 0 m (upd H1 D (.lst []))) ∧ ∀ i m H, W i m H →
      ((Ite K a).stop i H ∧ Qd H) ∨ ((Ite K a).go i H ∧ ∃ Nx : Hp → Prop, (∀ H', Nx H' → ∃ m', m' < m ∧ W (i + 1) m' H') ∧ ∀ x H', (Ite K a).yld i H x H' → g x (wipe σ vs) H' fun σ2 H2 => wipe σ2 vs = wipe σ vs ∧ tt σ2 H2 fun b H3 =>
        if b = true then te σ2 H3 fun y H4 => ∃ acc, H4 D = some (.lst acc) ∧ acc.length < sizeLine ∧ Nx (upd H4 D (.lst (acc ++ [y]))) else Nx H3) := by
  refine ⟨fun i m H => m = xs.length - i ∧ i ≤ xs.length ∧ Pv i H, ⟨xs.length, by simp, Nat.zero_le _, h0⟩, ?_⟩
  rintro i m H ⟨rfl, hi, p⟩
  have q := hl i H hi p
  by_cases hlt : i < xs.length
  · refine .inr ⟨⟨xs, xs[i], q, by simp [hlt]⟩, Pv (i + 1), fun H' p' => ⟨xs.length - (i + 1), by lia, rfl, hlt, p'⟩, fun x H' y => ?_⟩
    obtain ⟨T, x', e1, hT, e2, y⟩ := y
    subst e1 e2
    exact hs i x' H T (y xs q) p hT
  · have e : i = xs.length := by lia
    subst e
    exact .inl ⟨⟨xs, q, Nat.le_refl _⟩, hd H p⟩
theorem for_enum {tb : TS} {D : Ends} {σ : St} {H : Hp} (Pv : Nat → St → Hp → Prop) (h0 : Pv 0 σ H) (hl : ∀ i σ H, i ≤ xs.length → Pv i σ H → SqL K H a xs)
    (hs : ∀ i x σ H T, xs[i]? = some x → Pv i σ H → H T = none → g (.ref T) σ (upd H T (.tup [.int (i : Nat), x])) fun σ2 H2 => tb { D with nx := Pv (i + 1), ct := Pv (i + 1), bk := D.nx } σ2 H2) (hd : ∀ σ H, Pv xs.length σ H → D.nx σ H) :
    ∃ W : Nat → Nat → St → Hp → Prop, (∃ m, W 0 m σ H) ∧ ∀ i m σ H, W i m σ H →
      ((Ite K a).stop i H ∧ D.nx σ H) ∨ ((Ite K a).go i H ∧ ∃ N : St → Hp → Prop, (∀ σ' H', N σ' H' → ∃ m', m' < m ∧ W (i + 1) m' σ' H') ∧ ∀ x H', (Ite K a).yld i H x H' → g x σ H' fun σ2 H2 => tb { D with nx := N, ct := N, bk := D.nx } σ2 H2) := by
  refine ⟨fun i m σ H => m = xs.length - i ∧ i ≤ xs.length ∧ Pv i σ H, ⟨xs.length, by simp, Nat.zero_le _, h0⟩, ?_⟩
  rintro i m σ H ⟨rfl, hi, p⟩
  have q := hl i σ H hi p
  by_cases hlt : i < xs.length
  · refine .inr ⟨⟨xs, xs[i], q, by simp [hlt]⟩, Pv (i + 1), fun σ' H' p' => ⟨xs.length - (i + 1), by lia, rfl, hlt, p'⟩, fun x H' y => ?_⟩
    obtain ⟨T, x', e1, hT, e2, y⟩ := y
    subst e1 e2
    exact hs i x' σ H T (y xs q) p hT
  · have e : i = xs.length := by lia
    subst e
    exact .inl ⟨⟨xs, q, Nat.le_refl _⟩, hd σ H p⟩
end
end L2
namespace Pg
open PySem PySem.Spec PyProof.Rows L2 Sh Ink
theorem smallM {n : Nat} (h : n ≤ 4000000) : n < sizeLine := Nat.lt_of_le_of_lt h (by decide)
structure Rows {α : Type} (em : α → List Int) (wd : Nat) (H : Hp) (as : List Addr) (rs : List α) : Prop where
  len : as.length = rs.length
  at_ : ∀ (i : Nat) (x : α), rs[i]? = some x → ∃ a, as[i]? = some a ∧ H a = some (.lst ((em x).map V.int))
  wid : ∀ x ∈ rs, (em x).length = wd
theorem Rows.keep {α : Type} {em : α → List Int} {wd : Nat} {H H' : Hp} {as : List Addr} {rs : List α} (R : Rows em wd H as rs) (k : ∀ a xs, H a = some (.lst xs) → a ∈ as → H' a = some (.lst xs)) : Rows em wd H' as rs :=
  ⟨R.len, fun i x h => by
    obtain ⟨a, h1, h2⟩ := R.at_ i x h
    exact ⟨a, h1, k _ _ h2 (List.mem_of_getElem? h1)⟩, R.wid⟩
theorem Rows.snoc {α : Type} {em : α → List Int} {wd : Nat} {H : Hp} {as : List Addr} {rs : List α} {a : Addr} {x : α} (R : Rows em wd H as rs) (h : H a = some (.lst ((em x).map V.int))) (hw : (em x).length = wd) : Rows em wd H (as ++ [a]) (rs ++ [x]) := by
  refine ⟨by rw [List.length_append, List.length_append, R.len]; rfl, fun i y hy => ?_, fun y hy => ?_⟩
  · by_cases q : i < rs.length
    · rw [List.getElem?_append_left q] at hy
      obtain ⟨a', h1, h2⟩ := R.at_ i y hy
      exact ⟨a', by rw [List.getElem?_append_left (by rw [R.len]; exact q)]; exact h1, h2⟩
    · rw [List.getElem?_append_right (by lia)] at hy
      have z : i - rs.length = 0 := by
        have := (List.getElem?_eq_some_iff.mp hy).1
        simp only [List.length_cons, List.length_nil] at this
        lia
      rw [z] at hy
      cases hy
      exact ⟨a, by rw [List.getElem?_append_right (by rw [R.len]; lia), R.len, z]; rfl, h⟩
  · rcases List.mem_append.mp hy with q | q
    · exact R.wid y q
    · rw [List.mem_singleton.mp q]
      exact hw
theorem Rows.same {α : Type} {em : α → List Int} {wd : Nat} {H H' : Hp} {as : List Addr} {rs : List α} (R : Rows em wd H as rs) (s : Same H H') : Rows em wd H' as rs := R.keep fun a xs h _ => s _ _ h
theorem Rows.grow {α : Type} {em : α → List Int} {wd : Nat} {H H' : Hp} {as : List Addr} {rs : List α} {D p : Addr} {x : α} {o : HO} (R : Rows em wd H as rs) (nD : D ∉ as) (s : Same H H') (hp : H' p = some (.lst ((em x).map V.int))) (pD : p ≠ D) (hw : (em x).length = wd) :
    Rows em wd (upd H' D o) (as ++ [p]) (rs ++ [x]) ∧ D ∉ as ++ [p] := by
  refine ⟨(R.keep fun a xs h hm => ?_).snoc (by rw [upd_ne pD]; exact hp) hw, fun z => ?_⟩
  · have na : a ≠ D := fun z => nD (by rw [← z]; exact hm)
    rw [upd_ne na]
    exact s _ _ h
  · rcases List.mem_append.mp z with z | z
    · exact nD z
    · exact pD (List.mem_singleton.mp z).symm
theorem Rows.nil {α : Type} {em : α → List Int} {wd : Nat} {H : Hp} : Rows em wd H [] [] := ⟨rfl, fun i x h => by simp at h, fun x hx => by simp at hx⟩
theorem take_succ {α : Type} {l : List α} {i : Nat} {x : α} (h : l[i]? = some x) : l.take (i + 1) = l.take i ++ [x] := by
  rw [List.take_add_one, h]
  rfl
end Pg
namespace Pg
open PySem PySem.Spec PyProof.Rows L2 Sh Ink
noncomputable def whole {α : Type} (mk : Bytes) (body : Nat → Body α) (wr : Option α → α → Bytes) (b : Bytes) : Except Fault (Nat × Nat × List α) :=
  andThen (readHead mk b) fun z => andThen (rowsG (body z.1) wr z.2 none (b.drop 12) 12) fun l => .ok (z.1, z.2, l)
inductive RInv {α : Type} (K : PySem.W.Frag) (CR : Addr) (em : α → List Int) (body : Nat → Body α) (wr : Option α → α → Bytes) (b : Bytes) (d m fr fw r q : Addr) (wd ht : Nat) (H : Hp) : Nat → L2.St → Hp → Prop
  | mk (H' : Hp) (rs : List α) (as : List Addr) (p' : Nat) (av : V) (above : Option α) (v9 v10 : Option V) (h1 : H' q = some (.lst (as.map V.ref))) (h2 : RdAt K CR b H' r d p') (h3 : AbIs em H' av above) (h4 : Rows em wd H' as rs) (h5 : q ∉ as) (h6 : ∀ a, av = .ref a → a ≠ q) (h7 : rs.length ≤ ht) (h8 : ∀ a, above = some a → (em a).length = wd) (h9 : Same H H')
      (h10 : rowsG (body wd) wr ht none (b.drop 12) 12 = pre rs (rowsG (body wd) wr (ht - rs.length) above (b.drop p') p')) :
      RInv K CR em body wr b d m fr fw r q wd ht H (ht - rs.length) [some (.ref d), some (.ref m), some (.ref fr), some (.ref fw), some (.ref r), some (.int (wd : Int)), some (.int (ht : Int)), some (.ref q), some av, v9, v10] H'
noncomputable def spRows {α : Type} (CR CF : Addr) (K : PySem.W.Frag) (em : α → List Int) (mk : Bytes) (body : Nat → Body α) (wr : Option α → α → Bytes) (fr fw : Addr) : Sp := fun vs H Q E => ∃ (d m : Addr) (b : Bytes), vs = [.ref d, .ref m, .ref fr, .ref fw] ∧ Dat K H d (bv b) ∧ (∀ H, SqT K H m (bv mk)) ∧ u32 b 4 * u32 b 8 ≤ 400 ∧
  (∀ e, whole mk body wr b = .error e → Fails CF E e.rule e.place) ∧ (∀ wd h rs, whole mk body wr b = .ok (wd, h, rs) → ∀ H' q as, H' q = some (.lst (as.map V.ref)) → Rows em wd H' as rs → rs.length = h → 1 ≤ h → Same H H' → Q (.ref q) H')
section
variable {P : Program} {w : World} {K : PySem.W.Frag} {mg : Str → Option Value} {base : Heap} {CF fI CR : Addr} {fdI : FuncData}
theorem scRows : FnScope ["data", "mark", "read_row", "write_row", "reader", "width", "height", "rows", "above", "start", "row"] ["data", "mark", "read_row", "write_row"] (defScope s_read_rows) := ⟨rfl, rfl, rfl, by decide +kernel, rfl, by decide +kernel, by decide +kernel⟩
theorem ok_Rows {α : Type} {em : α → List Int} {mk : Bytes} {body : Nat → Body α} {wr : Option α → α → Bytes} (hmk : mk.length = 4)
    (hbody : ∀ wd above b p x, body wd above b p = .ok x → (∀ a, above = some a → (em a).length = wd) → (em x.1).length = wd ∧ ∃ n, x.2.1 = b.drop n ∧ x.2.2 = p + n ∧ n ≤ b.length)
    {f fRI fM fW fH fr fw fF fA : Addr} {fd fdRI fdM fdW fdH fdr fdw fdF fdA : FuncData} (F : Fun K "read_rows" "read_rows" s_read_rows f fd) (T : Txt K mg CF fI CR) (c6 : Cst mg "NOT_THE_ONE_FORM" 6) (c7 : Cst mg "BYTES_BEHIND" 7)
    (GI : FnOk P w K mg base (CXE P w) 1 fI fdI ["self", "rule", "place"] (spFI CF)) (bI : Binds K fdI ["self", "rule", "place"] [])
    (M : Mk K CR fRI) (GRI : FnOk P w K mg base (CXE P w) 1 fRI fdRI ["self", "data"] (spRI CR)) (bRI : Binds K fdRI ["self", "data"] [])
    (GM : FnOk P w K mg base (CXE P w) 5 fM fdM ["reader", "mark"] (spMark CR CF K)) (mM : Df K mg "read_mark" fM fdM ["reader", "mark"])
    (GW : FnOk P w K mg base (CXE P w) 6 fW fdW ["reader"] (spWidth K CR CF)) (mW : Df K mg "read_width" fW fdW ["reader"])
    (GH : FnOk P w K mg base (CXE P w) 6 fH fdH ["reader", "width"] (spHeight K CR CF)) (mH : Df K mg "read_height" fH fdH ["reader", "width"])
    (Gr : FnOk P w K mg base (CXE P w) 6 fr fdr ["reader", "width", "above"] (spRow K CR CF em body)) (kr : PySem.W.keepIn K (.ref fr) = true) (br : Binds K fdr ["reader", "width", "above"] [])
    (Gw : FnOk P w K mg base (CXE P w) 3 fw fdw ["row", "above"] (spWrite K em wr)) (kw : PySem.W.keepIn K (.ref fw) = true) (bw : Binds K fdw ["row", "above"] [])
    (GF : FnOk P w K mg base (CXE P w) 1 fF fdF ["self", "start"] (spFrom K CR)) (mF : Dm K CR "taken_from" fF fdF ["self", "start"])
    (GA : FnOk P w K mg base (CXE P w) 1 fA fdA ["self"] (spAt K CR)) (mA : Dm K CR "at_end" fA fdA ["self"]) :
    FnOk P w K mg base (CXE P w) 7 f fd ["data", "mark", "read_row", "write_row"] (spRows CR CF K em mk body wr fr fw) := by
  refine F.okX scRows (fun vs H Q E h => ?_) (fun cdv A outer s H vs Q E hr h => ?_)
  · obtain ⟨d, m, b, rfl, _⟩ := h
    rfl
  · obtain ⟨d, m, b, rfl, hdat, hm, few, k1, k2⟩ := h
    refine ⟨_, pss_cons (ps_set (i := 4) scRows.nd rfl (Or.inl rfl) (pe_make M GRI (hr.mono (by decide)) rfl T.mgR bRI .nil pass_cx (pa_cons (pv 0) pa_nil)))
      (pss_cons (ps_expr (pe_call GM (hr.mono (by decide)) rfl mM.mx mM.kp mM.bi .nil pass_cx (pa_cons (pv 4) (pa_cons (pv 1) pa_nil))))
      (pss_cons (ps_set (i := 5) scRows.nd rfl (Or.inl rfl) (pe_call GW hr rfl mW.mx mW.kp mW.bi .nil pass_cx (pa_cons (pv 4) pa_nil)))
      (pss_cons (ps_set (i := 6) scRows.nd rfl (Or.inl rfl) (pe_call GH hr rfl mH.mx mH.kp mH.bi .nil pass_cx (pa_cons (pv 4) (pa_cons (pv 5) pa_nil))))
      (pss_cons (ps_set (i := 7) scRows.nd rfl (Or.inl rfl) (pe_lst pa_nil))
      (pss_cons (ps_set (i := 8) scRows.nd rfl (Or.inl rfl) pe_non)
      (pss_cons (ps_while PassesOwn.leaving (pt_cmpR op_lt (pe_callB call_len_seq (by rfl) T.len PySem.boot_len (pa_cons (pv 7) pa_nil)) (pv 6) (nomark _))
        (pss_cons (ps_set (i := 9) scRows.nd rfl (Or.inl rfl) (pe_fld (pv 4) rfl))
        (pss_cons (ps_set (i := 10) scRows.nd rfl (Or.inl rfl) (pe_callV (pv 2) Gr hr kr br pass_cx (pa_cons (pv 4) (pa_cons (pv 5) (pa_cons (pv 8) pa_nil)))))
        (pss_cons (ps_if (pt_cmpR (op_neD hr.units) (pe_meth (pv 4) T.cl mF.me GF (hr.mono (by decide)) mF.bi .nil pass_cx (pa_cons (pv 9) pa_nil)) (pe_callV (pv 3) Gw (hr.mono (by decide)) kw bw pass_cx (pa_cons (pv 10) (pa_cons (pv 8) pa_nil))) (nomark _))
          (pss_one (ps_raiseX T.xc GI (hr.mono (by decide)) rfl rfl T.mgF bI pass_cx throws_cx (pa_cons (pe_cst c6 rfl) (pa_cons (pv 9) pa_nil)))) pss_nil)
        (pss_cons (ps_expr (pe_bm PySem.F.plainAttrs_list PySem.F.slot_list_append PySem.F.type_list_append mt_append (pv 7) (pa_cons (pv 10) pa_nil)))
        (pss_one (ps_set (i := 8) scRows.nd rfl (Or.inl rfl) (pv 10))))))))
      (pss_cons (ps_if (pt_not (pt_val (pe_meth0 (pv 4) T.cl mA.me GA (hr.mono (by decide)) mA.bi .nil pass_cx)))
        (pss_one (ps_raiseX T.xc GI (hr.mono (by decide)) rfl rfl T.mgF bI pass_cx throws_cx (pa_cons (pe_cst c7 rfl) (pa_cons (pe_fld (pv 4) rfl) pa_nil)))) pss_nil)
      (pss_one (ps_ret (pv 7)))))))))), ?_⟩
    try dsimp only [cxOf]
    -- reader = Reader(data)
    refine ⟨_, rfl, fun r dx hr0 hdx hne => ?_⟩
    refine ⟨r, dx, d, rfl, upd_same, fun H1 hrd kp1 => ⟨rfl, ?_⟩⟩
    have sH1 : Same H H1 := fun y o hy => by
      have ny : y ≠ r := ne_of_none hy hr0
      refine kp1 y o ?_ ny
      rw [upd_ne ny, upd_ne (ne_of_none hy hdx)]
      exact hy
    have R1 : RdAt K CR b H1 r d 0 := ⟨⟨dx, hrd⟩, hdat.same sH1, Nat.zero_le _⟩
    -- read_mark
    refine ⟨_, rfl, _, rfl, r, d, m, b, mk, rfl, R1, hm, fun hmark H2 R2 kp2 => ?_, fun i hi => ?_⟩
    · rw [hmk] at R2
      have hd := head_rest (m := mk) (b := b) hmark
      have toErr : ∀ {e : Fault}, readHead mk b = .error e → whole mk body wr b = .error e := fun {e} he => by
        unfold whole
        rw [he]
        rfl
      -- read_width
      refine ⟨_, rfl, r, d, b, 4, rfl, R2, fun hl => ?_, fun hl hno => ?_, fun hl hok H3 R3 kp3 => ?_⟩
      · exact k1 ⟨5, b.length⟩ (toErr (by rw [hd, if_pos hl]))
      · exact k1 ⟨2, 4⟩ (toErr (by rw [hd, if_neg (show ¬ b.length < 8 by lia), if_pos hno]))
      · rw [if_neg (show ¬ b.length < 8 by lia), if_neg (fun z => z hok)] at hd
        -- read_height
        refine ⟨_, rfl, _, rfl, r, d, b, 8, u32 b 4, rfl, hok, R3, fun hl2 => ?_, fun hl2 hno => ?_, fun hl2 hok2 H4 R4 kp4 => ?_⟩
        · exact k1 ⟨5, b.length⟩ (toErr (by rw [hd, if_pos hl2]))
        · exact k1 ⟨2, 8⟩ (toErr (by rw [hd, if_neg (show ¬ b.length < 12 by lia), if_pos hno]))
        · rw [if_neg (show ¬ b.length < 12 by lia), if_neg (fun z => z hok2)] at hd
          generalize hwd : u32 b 4 = wd at *
          generalize hht : u32 b 8 = ht at *
          have hle : ht ≤ 400 := Nat.le_trans (Nat.le_mul_of_pos_left ht (by lia)) few
          have wle : wd ≤ 400 := Nat.le_trans (Nat.le_mul_of_pos_right wd (by lia)) few
          have wh : ∀ x, rowsG (body wd) wr ht none (b.drop 12) 12 = x → whole mk body wr b = andThen x fun l => .ok (wd, ht, l) := fun x hx => by
            unfold whole
            rw [hd]
            show andThen (rowsG (body wd) wr ht none (b.drop 12) 12) _ = _
            rw [hx]
          have sH4 : ∀ y o, H y = some o → H4 y = some o := fun y o hy => by
            have ny : y ≠ r := ne_of_none hy hr0
            exact kp4 _ _ (kp3 _ _ (kp2 _ _ (sH1 _ _ hy) ny) ny) ny
          refine ⟨Nat.zero_le _, fun q hq => ?_⟩
          have qr : q ≠ r := fun z => by
            subst z
            obtain ⟨dx4, hx4⟩ := R4.rd
            rw [hx4] at hq
            cases hq
          have Hq : H q = none := by
            cases z : H q with
            | none => rfl
            | some o => rw [sH4 _ _ z] at hq; cases hq
          refine ⟨RInv K CR em body wr b d m fr fw r q wd ht H, ⟨_, ⟨_, [], [], 12, .non, none, none, none, upd_same, R4.keep (Same.new hq), .inl ⟨rfl, rfl⟩, ⟨rfl, fun i x h => by simp at h, fun x hx => by simp at hx⟩, by simp, fun a z => (by cases z), Nat.zero_le _, fun a z => (by cases z), fun y o hy => Same.new hq _ _ (sH4 _ _ hy), by rw [pre_nil]; rfl⟩⟩, ?_⟩
          rintro mm σ H' ⟨_, rs, as, p', av, above, v9, v10, hH', R', hav, RR, qas, avq, hlen, hab, sa, heq⟩
          obtain ⟨dx', hx'⟩ := R'.rd
          refine ⟨_, rfl, q, _, rfl, .inl (SqL.of hH'), _, rfl, _, _, rfl, rfl, _, rfl, ?_⟩
          have al : (as.map V.ref).length = rs.length := by rw [List.length_map, RR.len]
          by_cases q1 : rs.length < ht
          · rw [decide_eq_true (show (((as.map V.ref).length : Nat) : Int) < (ht : Int) by rw [al]; lia)]
            refine iteT ⟨fun σ' H2 => ∃ m', m' < ht - rs.length ∧ RInv K CR em body wr b d m fr fw r q wd ht H m' σ' H2, fun _ _ z => z, ?_⟩
            obtain ⟨hn, hhn⟩ : ∃ hn, ht - rs.length = hn + 1 := ⟨ht - rs.length - 1, by lia⟩
            rw [hhn, pre_step, rowG_eq] at heq
            -- start, row
            refine ⟨_, rfl, r, CR, dx', _, _, rfl, hx', T.cl, T.nP, rf_place d p', ?_⟩
            refine ⟨_, rfl, rfl, _, rfl, _, rfl, _, rfl, r, d, b, p', wd, av, above, rfl, R', hav, hok.1, by lia, fun e he => ?_, fun x he H5 a ha R5 kp5 => ?_⟩
            · rw [he] at heq
              exact k1 e (by rw [wh _ heq]; rfl)
            · rw [he] at heq
              dsimp only at heq
              obtain ⟨hwx, n, hx1, hx2, hnb⟩ := hbody wd above (b.drop p') p' x he hab
              rw [List.length_drop] at hnb
              have ple := R'.le
              have hpn : x.2.2 = p' + n := hx2
              have hq5 : H5 q = some (.lst (as.map V.ref)) := kp5 _ _ hH' qr
              have lk : ∀ a' xs, H' a' = some (.lst xs) → H5 a' = some (.lst xs) := fun a' xs h' => kp5 _ _ h' (ne_of h' hx' (by intro z; cases z))
              obtain ⟨dx5, hx5⟩ := R5.rd
              -- taken_from(start) != write_row(row, above)
              refine ⟨_, rfl, r, dx5, _, rfl, hx5, rf_no d x.2.2 (by decide +kernel) (by decide +kernel), _, rfl, r, d, b, x.2.2, p', rfl, R5, by lia, fun t1 ht1 => ?_⟩
              have s6 := Same.new (o := .lst (bv ((b.drop p').take (x.2.2 - p')))) ht1
              have hav5 : AbIs em H5 av above := by
                rcases hav with h' | ⟨a', x', h1, h2, h3⟩
                · exact .inl h'
                · exact .inr ⟨a', x', h1, h2, lk _ _ h3⟩
              refine ⟨_, rfl, rfl, _, rfl, _, rfl, a, av, x.1, above, rfl, s6 _ _ ha, hav5.keep s6, by lia, fun q7 H7 hq7 s7 => ?_⟩
              have ht7 : H7 t1 = some (.lst (bv ((b.drop p').take (x.2.2 - p')))) := s7 _ _ upd_same
              refine ⟨.list ((iv ((b.drop p').take (x.2.2 - p'))).map PyData.int), .list ((iv (wr above x.1)).map PyData.int), .lst (SqL.of (by rw [ht7, bv_iv])) (dp_ints _), .lst (SqL.of (by rw [hq7, bv_iv])) (dp_ints _), PySem.W.shaped_ints _, PySem.W.shaped_ints _, _, rfl, ?_⟩
              rw [eqv_lists]
              have cond : (b.drop p').take ((b.drop p').length - x.2.1.length) = (b.drop p').take (x.2.2 - p') := by
                have l1 : x.2.1.length = b.length - p' - n := by rw [hx1, List.length_drop, List.length_drop]
                have l2 : (b.drop p').length = b.length - p' := List.length_drop ..
                rw [l1, l2, hpn]
                congr 1
                lia
              rw [cond] at heq
              by_cases q2 : (b.drop p').take (x.2.2 - p') = wr above x.1
              · rw [if_pos q2] at heq
                refine iteNS (by rw [q2]) ?_
                have s57 : Same H5 H7 := s6.trans s7
                have hq8 : H7 q = some (.lst (as.map V.ref)) := s57 _ _ hq5
                refine ⟨_, rfl, .inl ⟨rfl, _, SqL.of hq8⟩, _, rfl, q, _, _, rfl, rfl, hq8, (by rw [al]; exact small20k (by lia)), ?_⟩
                have ha7 : H7 a = some (.lst ((em x.1).map V.int)) := s57 _ _ ha
                have aq : a ≠ q := fun z => by
                  subst z
                  rw [ha] at hq5
                  -- a list of numbers is not a list of lists, unless both are empty
                  injection hq5 with hq5
                  injection hq5 with hq5
                  have l1 := congrArg List.length hq5
                  rw [List.length_map, hwx, al] at l1
                  cases e0 : em x.1 with
                  | nil => rw [e0] at hwx; simp only [List.length_nil] at hwx; lia
                  | cons i0 r0 =>
                    rw [e0] at hq5
                    cases as with
                    | nil => simp at hq5
                    | cons a0 s0 => simp at hq5
                have nq : ∀ a' xs, H7 a' = some (.lst xs) → a' ≠ q → upd H7 q (.lst (as.map V.ref ++ [V.ref a])) a' = some (.lst xs) := fun a' xs h' hn' => by rw [upd_ne hn']; exact h'
                refine ⟨_, rfl, _, ?_, ⟨_, rs ++ [x.1], as ++ [a], x.2.2, .ref a, some x.1, _, _, ?_, ?_, .inr ⟨a, x.1, rfl, rfl, nq _ _ ha7 aq⟩, ?_, ?_, ?_, ?_, fun a' z => ?_, ?_, ?_⟩⟩
                · rw [List.length_append, List.length_cons, List.length_nil]; lia
                · rw [upd_same, List.map_append]
                  rfl
                · exact (R5.keep s57).lst (s57 _ _ hq5)
                · refine (RR.keep fun a' xs h' hm' => ?_).snoc (nq _ _ ha7 aq) hwx
                  exact nq _ _ (s57 _ _ (lk _ _ h')) fun z => qas (z ▸ hm')
                · intro z
                  rcases List.mem_append.mp z with z | z
                  · exact qas z
                  · exact aq (List.mem_singleton.mp z).symm
                · intro a' z
                  cases z
                  exact aq
                · rw [List.length_append, List.length_cons, List.length_nil]; lia
                · cases z
                  exact hwx
                · intro y o hy
                  have ny : y ≠ q := ne_of_none hy Hq
                  rw [upd_ne ny]
                  exact s57 _ _ (kp5 _ _ (sa _ _ hy) (ne_of_none hy hr0))
                · rw [heq]
                  dsimp only
                  rw [hx1, hpn, List.drop_drop]
                  have e1 : ht - (rs ++ [x.1]).length = hn := by rw [List.length_append, List.length_cons, List.length_nil]; lia
                  rw [e1]
              · rw [if_neg q2] at heq
                rw [decide_eq_false (show ¬ iv ((b.drop p').take (x.2.2 - p')) = iv (wr above x.1) from fun z => q2 (iv_inj z))]
                refine iteT ⟨_, rfl, (by show 2 ≤ sizeLine; decide), fun ea ta hea => ?_⟩
                exact ⟨ea, ta, 6, p', rfl, upd_same, fails_raise (H := H) (k1 ⟨6, p'⟩ (by rw [wh _ heq]; rfl))⟩
          · rw [decide_eq_false (show ¬ (((as.map V.ref).length : Nat) : Int) < (ht : Int) by rw [al]; lia)]
            refine iteF ?_
            have e0 : ht - rs.length = 0 := by lia
            rw [e0, pre_end] at heq
            refine ⟨_, rfl, r, dx', _, rfl, hx', rf_no d p' (by decide +kernel) (by decide +kernel), r, d, b, p', rfl, R', _, rfl, ?_⟩
            by_cases q2 : b.length ≤ p'
            · rw [decide_eq_true q2]
              refine iteF ⟨_, rfl, ?_⟩
              rw [if_pos (List.drop_eq_nil_of_le q2)] at heq
              exact k2 wd ht rs (by rw [wh _ heq]; rfl) H' q as hH' RR (by lia) hok2.1 sa
            · rw [decide_eq_false q2]
              refine iteT ⟨_, rfl, r, CR, dx', _, _, rfl, hx', T.cl, T.nP, rf_place d p', (by show 2 ≤ sizeLine; decide), fun ea ta hea => ?_⟩
              rw [if_neg (fun z => by have := congrArg List.length z; rw [List.length_drop] at this; simp only [List.length_nil] at this; lia)] at heq
              exact ⟨ea, ta, 7, p', rfl, upd_same, fails_raise (H := H) (k1 ⟨7, p'⟩ (by rw [wh _ heq]; rfl))⟩
    · refine k1 ⟨if i < b.length then 1 else 5, min i b.length⟩ ?_
      unfold whole
      rw [head_mark hi]
      rfl
end
end Pg
namespace Pg
open PySem PySem.Spec PyProof.Rows L2 Sh Ink
section
variable {P : Program} {w : World} {K : PySem.W.Frag} {mg : Str → Option Value} {base : Heap} {CF fI CR : Addr} {fdI : FuncData}
noncomputable def spPic {α : Type} (K : PySem.W.Frag) (CF : Addr) (em : α → List Int) (mk : Bytes) (body : Nat → Body α) (wr : Option α → α → Bytes) : Sp := fun vs H Q E => ∃ (d : Addr) (b : Bytes), vs = [.ref d] ∧ Dat K H d (bv b) ∧ u32 b 4 * u32 b 8 ≤ 400 ∧
  (∀ e, whole mk body wr b = .error e → Fails CF E e.rule e.place) ∧ (∀ wd h rs, whole mk body wr b = .ok (wd, h, rs) → ∀ H' q as, H' q = some (.lst (as.map V.ref)) → Rows em wd H' as rs → rs.length = h → 1 ≤ h → Same H H' → Q (.ref q) H')
theorem scPic : FnScope ["data"] ["data"] (defScope s_read_picture) := ⟨rfl, rfl, rfl, by decide +kernel, rfl, by decide +kernel, by decide +kernel⟩
theorem ok_Pic {f fR fr fw aM : Addr} {fd fdR : FuncData} (F : Fun K "read_picture" "read_picture" s_read_picture f fd) (cM : CstT K mg "MARK_picture" aM (bv GREYS)) (hr0 : mg "read_row" = some (.ref fr)) (hw0 : mg "write_row_picture" = some (.ref fw))
    (GR : FnOk P w K mg base (CXE P w) 7 fR fdR ["data", "mark", "read_row", "write_row"] (spRows CR CF K iv GREYS rowBody writeRow fr fw)) (mR : Df K mg "read_rows" fR fdR ["data", "mark", "read_row", "write_row"]) : FnOk P w K mg base (CXE P w) 8 f fd ["data"] (spPic K CF iv GREYS rowBody writeRow) := by
  refine F.okX scPic (fun vs H Q E h => ?_) (fun cdv A outer s H vs Q E hr h => ?_)
  · obtain ⟨d, b, rfl, _⟩ := h
    rfl
  · obtain ⟨d, b, rfl, hd, few, k1, k2⟩ := h
    refine ⟨_, pss_one (ps_ret (pe_call GR hr rfl mR.mx mR.kp mR.bi .nil pass_cx (pa_cons (pv 0) (pa_cons (pe_glob (v := .ref aM) rfl cM.mx rfl) (pa_cons (pe_glob (v := .ref fr) rfl hr0 rfl) (pa_cons (pe_glob (v := .ref fw) rfl hw0 rfl) pa_nil)))))), ?_⟩
    try dsimp only [cxOf]
    exact ⟨_, rfl, d, aM, b, rfl, hd, cM.sq, few, k1, k2⟩
end
end Pg
namespace Pg
open PySem PySem.Spec PyProof.Rows L2 Sh Ink
section
variable {P : Program} {w : World} {K : PySem.W.Frag} {mg : Str → Option Value} {base : Heap} {CF fI CR : Addr} {fdI : FuncData}
theorem xf_rule (r p : Nat) : (xf r p).lookup ("rule" : Str) = some (.int (r : Int)) := by
  unfold xf
  rw [lookup_putF, if_neg (by decide +kernel)]
  rfl
theorem xf_place (r p : Nat) : (xf r p).lookup ("place" : Str) = some (.int (p : Int)) := by
  unfold xf
  rw [lookup_putF, if_pos rfl]
noncomputable def spRef (CF : Addr) : Sp := fun vs H Q _ => ∃ (ea d : Addr) (wh : Int) (r p : Nat), vs = [.int wh, .ref ea] ∧ H ea = some (catV ea CF d) ∧ H d = some (xdV d (xf r p)) ∧ ∀ q, H q = none → Q (.ref q) (upd H q (.lst [.int (-5), .int wh, .int (r : Int), .int (p : Int)]))
theorem scRef : FnScope ["which", "fault"] ["which", "fault"] (defScope s_form_refused) := ⟨rfl, rfl, rfl, by decide +kernel, rfl, by decide +kernel, by decide +kernel⟩
theorem ok_Ref {f : Addr} {fd : FuncData} (F : Fun K "form_refused" "form_refused" s_form_refused f fd) (T : Txt K mg CF fI CR) (c5 : Cst mg "NOT_SUCH_A_FORM" (-5)) : FnOkH P w K mg base CX0 1 f fd ["which", "fault"] (spRef CF) := by
  refine F.okH scRef (fun vs H Q E h => ?_) (fun cdv A outer s H vs Q E hr h => ?_)
  · obtain ⟨ea, d, wh, r, p, rfl, _⟩ := h
    rfl
  · obtain ⟨ea, d, wh, r, p, rfl, he, hd, k⟩ := h
    refine ⟨_, pss_one (ps_ret (pe_lst (pa_cons (pe_cst c5 rfl) (pa_cons (pv 0) (pa_cons (pe_fldX (pv 1) rfl) (pa_cons (pe_fldX (pv 1) rfl) pa_nil)))))), ?_⟩
    try dsimp only [cxOf]
    exact ⟨_, rfl, _, rfl, ea, CF, d, _, _, fI, rfl, he, hd, T.xc, T.xr, xf_rule r p, _, rfl, ea, CF, d, _, _, fI, rfl, he, hd, T.xc, T.xp, xf_place r p, (by show 4 ≤ sizeLine; decide), k⟩
noncomputable def answerOf {α : Type} (x : Except Fault α) (f : α → List Int) : List Int := match x with
  | .error e => [-5, 0, (e.rule : Int), (e.place : Int)]
  | .ok y => f y
theorem suiteRoom {X : Cx} {ea : Addr} {j k : Nat} (r : Room k X.A) (h : j ≤ k) : RoomH j (X.suite ea).A := ⟨(r.mono h).dp, (r.mono h).un⟩
end
end Pg
namespace Pg
open PySem PySem.Spec PyProof.Rows L2 Sh Ink
theorem whole_size {α : Type} {mk : Bytes} {body : Nat → Body α} {wr : Option α → α → Bytes} {b : Bytes} {wd h : Nat} {rs : List α} (e : whole mk body wr b = .ok (wd, h, rs)) : wd = u32 b 4 ∧ h = u32 b 8 ∧ 1 ≤ wd ∧ wd ≤ 8192 ∧ 1 ≤ h ∧ h ≤ 8192 := by
  unfold whole at e
  cases q : readHead mk b with
  | error x =>
    rw [q] at e
    cases e
  | ok z =>
    rw [q] at e
    have hz : z = (u32 b 4, u32 b 8) ∧ 1 ≤ u32 b 4 ∧ u32 b 4 ≤ 8192 ∧ 1 ≤ u32 b 8 ∧ u32 b 8 ≤ 8192 := by
      cases m : markAt mk b with
      | some i =>
        rw [head_mark m] at q
        cases q
      | none =>
        rw [head_rest m] at q
        split at q
        · cases q
        · split at q
          · cases q
          · rename_i n1
            split at q
            · cases q
            · split at q
              · cases q
              · rename_i n2
                have y1 := Classical.byContradiction n1
                have y2 := Classical.byContradiction n2
                exact ⟨(Except.ok.inj q).symm, y1.1, y1.2, y2.1, y2.2.1⟩
    obtain ⟨hz, b1, b2, b3, b4⟩ := hz
    subst hz
    revert e
    show andThen (rowsG (body (u32 b 4)) wr (u32 b 8) none (b.drop 12) 12) (fun l => .ok (u32 b 4, u32 b 8, l)) = .ok (wd, h, rs) → _
    cases rowsG (body (u32 b 4)) wr (u32 b 8) none (b.drop 12) 12 with
    | error x => intro e; cases e
    | ok l =>
      intro e
      have e' : (u32 b 4, u32 b 8, l) = (wd, h, rs) := Except.ok.inj e
      have e1 : u32 b 4 = wd := congrArg Prod.fst e'
      have e2 : u32 b 8 = h := congrArg (fun z => z.2.1) e'
      rw [e1] at b1 b2
      rw [e2] at b3 b4
      exact ⟨e1.symm, e2.symm, b1, b2, b3, b4⟩
end Pg
namespace Pg
open PySem PySem.Spec PyProof.Rows L2 Sh Ink
section
variable {P : Program} {w : World} {K : PySem.W.Frag} {mg : Str → Option Value} {base : Heap}
noncomputable def spNB : Sp := fun vs H Q _ => ∃ n : Nat, vs = [.int (n : Int)] ∧ ∀ q H', H q = none → H' q = some (.lst (bv (le 4 n))) → Same H H' → Q (.ref q) H'
theorem scNB : FnScope ["number", "weight"] ["number"] (defScope s_number_bytes) := ⟨rfl, rfl, rfl, by decide +kernel, rfl, by decide +kernel, by decide +kernel⟩
theorem ok_NB {f aW : Addr} {fd : FuncData} (F : Fun K "number_bytes" "number_bytes" s_number_bytes f fd) (cW : CstT K mg "WEIGHTS" aW weights) : FnOk P w K mg base (CXE P w) 1 f fd ["number"] spNB := by
  refine F.okX scNB (fun vs H Q E h => ?_) (fun cdv A outer s H vs Q E hr h => ?_)
  · obtain ⟨n, rfl, _⟩ := h
    rfl
  · obtain ⟨n, rfl, k⟩ := h
    refine ⟨_, pss_one (ps_ret (pe_lcX (own := [("weight", 1)]) (L := s.heap.objs.size) rfl rfl rfl lets_cx rfl scNB.nd (pi_tup (pe_glob (v := .ref aW) rfl cW.mx rfl)) (blkOk_by (by show blkC ["number", "weight"] (defScope s_number_bytes) _ _ = true; decide +kernel))
        (fun s H C cl fp => pg_name (i := 1) scNB.nd rfl (Or.inl rfl)) (fun s H C cl fp => pts_nil) (fun s H C cl fp xe hp => pe_op op_mod (pe_op op_fdiv (pv 0) (pv 1)) pe_int))), ?_⟩
    try dsimp only [cxOf]
    refine ⟨aW, rfl, ⟨_, cW.sq _⟩, fun D hD => ?_⟩
    refine lc_tup (K := K) (a := aW) (xs := weights) (fun i H' => H' D = some (.lst (bv ((le 4 n).take i))) ∧ Same H H') ?_ (fun i H' _ _ => cW.sq H') ?_ ?_
    · exact ⟨upd_same, Same.new hD⟩
    · rintro i x H' hi ⟨hDl, sa⟩
      obtain ⟨hi4, rfl⟩ := weight_at hi
      refine ⟨rfl, ?_⟩
      dsimp only [tYes]
      rw [if_pos rfl]
      have wb : 256 ^ i ≤ 256 ^ 3 := Nat.pow_le_pow_right (by decide) (by lia)
      have wp : 0 < 256 ^ i := Nat.pow_pos (by decide)
      refine ⟨_, rfl, _, rfl, _, _, rfl, rfl, ⟨?_, ?_⟩, _, _, rfl, rfl, (by show (0 : Int) < 256; decide), _, hDl, ?_, ?_, sa.put hD⟩
      · exact Int.natCast_pos.mpr wp
      · exact Int.lt_of_le_of_lt (Int.ofNat_le.mpr wb) (by decide)
      · rw [bv_len, List.length_take]
        exact small20k (by rw [le4_len]; lia)
      · rw [upd_same, le4_take hi4, bv_app]
        have e : (n : Int) / ((256 ^ i : Nat) : Int) % 256 = ((UInt8.ofNat (n / 256 ^ i % 256)).toNat : Int) := by
          rw [byte_nat (by lia), ← Int.natCast_ediv]
          lia
        show some (HO.lst (bv ((le 4 n).take i) ++ [V.int ((n : Int) / ((256 ^ i : Nat) : Int) % 256)])) = _
        rw [e]
        rfl
    · rintro H' ⟨hDl, sa⟩
      exact k D H' hD hDl sa
noncomputable def spWR {α : Type} (K : PySem.W.Frag) (em : α → List Int) (mk : Bytes) (wr : Option α → α → Bytes) (fw : Addr) : Sp := fun vs H Q _ => ∃ (q m : Addr) (as : List Addr) (rs : List α) (wd ht : Nat), vs = [.ref q, .ref m, .ref fw] ∧ H q = some (.lst (as.map V.ref)) ∧ Rows em wd H as rs ∧ rs.length = ht ∧ 1 ≤ ht ∧ wd ≤ 8192 ∧ ht * (1 + 2 * wd) ≤ 1000000 ∧
  (∀ H, SqT K H m (bv mk)) ∧ ∀ H' p, H p = none → H' p = some (.lst (bv (mk ++ (le 4 wd ++ (le 4 ht ++ writeG wr none rs))))) → Same H H' → Q (.ref p) H'
theorem scWR : FnScope ["rows", "mark", "write_row", "told", "above", "row"] ["rows", "mark", "write_row"] (defScope s_write_rows) := ⟨rfl, rfl, rfl, by decide +kernel, rfl, by decide +kernel, by decide +kernel⟩
inductive WRInv {α : Type} (em : α → List Int) (mk' : Bytes) (wr : Option α → α → Bytes) (q m fw t : Addr) (rs : List α) (wd ht : Nat) (H : Hp) (i : Nat) (σ : L2.St) (H' : Hp) : Prop
  | mk (acc : Bytes) (av : V) (above : Option α) (v5 : Option V) (h0 : σ = [some (.ref q), some (.ref m), some (.ref fw), some (.ref t), some av, v5]) (h1 : H' t = some (.lst (bv acc))) (h2 : AbIs em H av above) (h3 : Same H H') (h4 : mk' ++ (le 4 wd ++ (le 4 ht ++ writeG wr none rs)) = acc ++ writeG wr above (rs.drop i))
theorem ok_WR {α : Type} {em : α → List Int} {mk : Bytes} {wr : Option α → α → Bytes} (hmk : mk.length = 4) (hwr : ∀ a x, (wr a x).length ≤ 1 + 2 * (em x).length)
    {f fN fw : Addr} {fd fdN fdw : FuncData} (F : Fun K "write_rows" "write_rows" s_write_rows f fd) (hlen : mg "len" = none) (hlist : mg "list" = none)
    (GN : FnOk P w K mg base (CXE P w) 1 fN fdN ["number"] spNB) (mN : Df K mg "number_bytes" fN fdN ["number"])
    (Gw : FnOk P w K mg base (CXE P w) 3 fw fdw ["row", "above"] (spWrite K em wr)) (kw : PySem.W.keepIn K (.ref fw) = true) (bw : Binds K fdw ["row", "above"] []) :
    FnOk P w K mg base (CXE P w) 4 f fd ["rows", "mark", "write_row"] (spWR K em mk wr fw) := by
  refine F.okX scWR (fun vs H Q E h => ?_) (fun cdv A outer s H vs Q E hr h => ?_)
  · obtain ⟨q, m, as, rs, wd, ht, rfl, _⟩ := h
    rfl
  · obtain ⟨q, m, as, rs, wd, ht, rfl, hq, RR, hrs, ht1, wd8, big, hm, k⟩ := h
    obtain ⟨x0, hx0⟩ : ∃ x, rs[0]? = some x := ⟨_, List.getElem?_eq_getElem (by lia)⟩
    obtain ⟨a0, ha0, hH0⟩ := RR.at_ 0 x0 hx0
    have w0 := RR.wid x0 (List.mem_of_getElem? hx0)
    have al : (as.map V.ref).length = ht := by rw [List.length_map, RR.len, hrs]
    refine ⟨_, pss_cons (ps_set (i := 3) scWR.nd rfl (Or.inl rfl) (pe_op op_cat (pe_op op_cat (pe_callTy call_list_of (by rfl) hlist PyProof.Rows.boot_list (pa_cons (pv 1) pa_nil))
          (pe_call GN (hr.mono (by decide)) rfl mN.mx mN.kp mN.bi .nil pass_cx (pa_cons (pe_callB call_len_seq (by rfl) hlen PySem.boot_len (pa_cons (pe_ix ix_list (pv 0) pe_int (fun _ _ => rfl)) pa_nil)) pa_nil)))
          (pe_call GN (hr.mono (by decide)) rfl mN.mx mN.kp mN.bi .nil pass_cx (pa_cons (pe_callB call_len_seq (by rfl) hlen PySem.boot_len (pa_cons (pv 0) pa_nil)) pa_nil))))
      (pss_cons (ps_set (i := 4) scWR.nd rfl (Or.inl rfl) pe_non)
      (pss_cons (ps_for PassesOwn.leaving rfl (pi_list (pv 0)) (pg_name (i := 5) scWR.nd rfl (Or.inl rfl))
        (pss_cons (ps_expr (pe_bm PySem.F.plainAttrs_list PySem.F.slot_list_extend PySem.F.type_list_extend mt_extend (pv 3) (pa_cons (pe_callV (pv 2) Gw hr kw bw pass_cx (pa_cons (pv 5) (pa_cons (pv 4) pa_nil))) pa_nil)))
        (pss_one (ps_set (i := 4) scWR.nd rfl (Or.inl rfl) (pv 5)))))
      (pss_one (ps_ret (pv 3))))), ?_⟩
    try dsimp only [cxOf]
    -- told = list(mark) + ..
    refine ⟨_, rfl, m, _, rfl, .inr (hm _), fun l hl => ?_⟩
    have s1 : Same H (upd H l (.lst (bv mk))) := Same.new hl
    refine ⟨_, rfl, q, _, _, _, rfl, rfl, SqL.of (s1 _ _ hq), at_of (j := 0) (v := V.ref a0) rfl (by rw [List.getElem?_map, ha0]; rfl), a0, _, rfl, .inl (SqL.of (s1 _ _ hH0)), wd, ?_, fun q1 H1 hq1n hq1 sa1 => ?_⟩
    · show [V.int ((((em x0).map V.int).length : Nat) : Int)] = _
      rw [List.length_map, w0]
    refine ⟨l, q1, _, _, rfl, rfl, sa1 _ _ upd_same, hq1, ?_, fun p2 hp2 => ?_⟩
    · rw [bv_len, bv_len, hmk, le4_len]
      decide
    have s2 := (s1.trans sa1).trans (Same.new (o := .lst (bv mk ++ bv (le 4 wd))) hp2)
    refine ⟨_, rfl, q, _, rfl, .inl (SqL.of (s2 _ _ hq)), ht, ?_, fun q3 H3 hq3n hq3 sa3 => ?_⟩
    · show [V.int (((as.map V.ref).length : Nat) : Int)] = _
      rw [al]
    refine ⟨p2, q3, _, _, rfl, rfl, sa3 _ _ upd_same, hq3, ?_, fun t htn => ?_⟩
    · rw [List.length_append, bv_len, bv_len, bv_len, hmk, le4_len, le4_len]
      decide
    have s3 : Same H H3 := s2.trans sa3
    have Ht : H t = none := s3.free htn
    -- the loop
    have tot : (mk ++ (le 4 wd ++ (le 4 ht ++ writeG wr none rs))).length ≤ 1000012 := by
      have z := writeG_len (wr := wr) (n := 1 + 2 * wd) none rs fun a x hx => by
        have := hwr a x
        rw [RR.wid x hx] at this
        exact this
      rw [hrs] at z
      rw [List.length_append, List.length_append, List.length_append, hmk, le4_len, le4_len]
      lia
    refine ⟨_, rfl, q, rfl, ⟨_, SqL.of ((s3.put Ht) _ _ hq)⟩, for_list (K := K) (a := q) (xs := as.map V.ref) (WRInv em mk wr q m fw t rs wd ht H)
      ⟨mk ++ (le 4 wd ++ le 4 ht), .non, none, none, rfl, ?_, .inl ⟨rfl, rfl⟩, s3.put Ht, ?_⟩ (fun i σ H' _ hy => by obtain ⟨_, _, _, _, _, _, _, s7, _⟩ := hy; exact SqL.of (s7 _ _ hq)) ?_ ?_⟩
    · rw [upd_same, bv_app, bv_app, List.append_assoc]
    · rw [List.drop_zero, List.append_assoc, List.append_assoc]
    · rintro i y σ H' hi ⟨acc, av, above, v5, rfl, ht', hav, s7, heq⟩
      have hil : i < rs.length := by
        have := (List.getElem?_eq_some_iff.mp hi).1
        rw [al] at this
        lia
      obtain ⟨x, hx⟩ : ∃ x, rs[i]? = some x := ⟨_, List.getElem?_eq_getElem hil⟩
      obtain ⟨a, ha, hH⟩ := RR.at_ i x hx
      obtain rfl : V.ref a = y := by
        rw [List.getElem?_map, ha] at hi
        exact Option.some.inj hi
      have wx := RR.wid x (List.mem_of_getElem? hx)
      have ed : rs.drop i = x :: rs.drop (i + 1) := by
        obtain ⟨hl', e'⟩ := List.getElem?_eq_some_iff.mp hx
        rw [List.drop_eq_getElem_cons hl', e']
      rw [ed, writeG] at heq
      refine ⟨_, rfl, .inl ⟨rfl, _, SqL.of ht'⟩, _, rfl, rfl, _, rfl, _, rfl, a, av, x, above, rfl, s7 _ _ hH, hav.keep s7, by lia, fun q7 H7 hq7 sa7 => ?_⟩
      refine ⟨t, q7, _, _, rfl, rfl, sa7 _ _ ht', hq7, ?_, ?_⟩
      · have z := congrArg List.length heq
        rw [List.length_append (as := acc), List.length_append (as := wr above x)] at z
        rw [bv_len, bv_len]
        exact Nat.le_of_lt (smallM (by lia))
      · refine ⟨_, rfl, acc ++ wr above x, .ref a, some x, _, rfl, ?_, .inr ⟨a, x, rfl, rfl, hH⟩, (s7.trans sa7).put Ht, ?_⟩
        · rw [upd_same, bv_app]
        · rw [heq, List.append_assoc]
    · rintro σ H' ⟨acc, av, above, v5, rfl, ht', hav, s7, heq⟩
      refine ⟨_, rfl, ?_⟩
      have e0 : rs.drop (as.map V.ref).length = [] := by rw [al, ← hrs, List.drop_length]
      rw [e0, writeG, List.append_nil] at heq
      refine k H' t Ht ?_ s7
      rw [heq]
      exact ht'
end
end Pg
namespace Pg
open PySem PySem.Spec PyProof.Rows L2 Sh Ink
section
variable {P : Program} {w : World} {K : PySem.W.Frag} {mg : Str → Option Value} {base : Heap}
noncomputable def spWScan {α : Type} (em : α → List Int) (mk : Bytes) (wr : Option α → α → Bytes) : Sp := fun vs H Q _ => ∃ (q : Addr) (as : List Addr) (rs : List α) (wd ht : Nat), vs = [.ref q] ∧ H q = some (.lst (as.map V.ref)) ∧ Rows em wd H as rs ∧ rs.length = ht ∧ 1 ≤ ht ∧ wd ≤ 8192 ∧ ht * (1 + 2 * wd) ≤ 1000000 ∧
  ∀ H' p, H p = none → H' p = some (.lst (bv (mk ++ (le 4 wd ++ (le 4 ht ++ writeG wr none rs))))) → Same H H' → Q (.ref p) H'
theorem scspWScan : FnScope ["rows"] ["rows"] (defScope s_write_scan) := ⟨rfl, rfl, rfl, by decide +kernel, rfl, by decide +kernel, by decide +kernel⟩
theorem ok_spWScan {f fR fw aM : Addr} {fd fdR : FuncData} (F : Fun K "write_scan" "write_scan" s_write_scan f fd) (cM : CstT K mg "MARK_scan" aM (bv TRITS)) (hw0 : mg "write_row_scan" = some (.ref fw))
    (GR : FnOk P w K mg base (CXE P w) 4 fR fdR ["rows", "mark", "write_row"] (spWR K tv TRITS writeLine fw)) (mR : Df K mg "write_rows" fR fdR ["rows", "mark", "write_row"]) : FnOk P w K mg base (CXE P w) 5 f fd ["rows"] (spWScan tv TRITS writeLine) := by
  refine F.okX scspWScan (fun vs H Q E h => ?_) (fun cdv A outer s H vs Q E hr h => ?_)
  · obtain ⟨q, as, rs, wd, ht, rfl, _⟩ := h
    rfl
  · obtain ⟨q, as, rs, wd, ht, rfl, hq, RR, h1, h2, h3, h4, k⟩ := h
    refine ⟨_, pss_one (ps_ret (pe_call GR hr rfl mR.mx mR.kp mR.bi .nil pass_cx (pa_cons (pv 0) (pa_cons (pe_glob (v := .ref aM) rfl cM.mx rfl) (pa_cons (pe_glob (v := .ref fw) rfl hw0 rfl) pa_nil))))), ?_⟩
    try dsimp only [cxOf]
    exact ⟨_, rfl, q, aM, as, rs, wd, ht, rfl, hq, RR, h1, h2, h3, h4, cM.sq, k⟩
end
end Pg
namespace Pg
noncomputable def idv (l : List Int) : List Int := l
end Pg
namespace Pg
open PySem PySem.Spec PyProof.Rows L2 Sh Ink
section
variable {P : Program} {w : World} {K : PySem.W.Frag} {mg : Str → Option Value} {base : Heap} {CF fI CR : Addr} {fdI : FuncData}
noncomputable def spAns : Sp := fun vs H Q _ => ∃ (q : Addr) (ns : List Int), vs = [.ref q] ∧ H q = some (.lst (ns.map V.int)) ∧ ns.length ≤ 2000000 ∧ ∀ H' p, H' p = some (.lst (((0 : Int) :: (ns.length : Int) :: ns).map V.int)) → Q (.ref p) H'
theorem scAns : FnScope ["numbers"] ["numbers"] (defScope s_row_answer) := ⟨rfl, rfl, rfl, by decide +kernel, rfl, by decide +kernel, by decide +kernel⟩
theorem ok_Ans {f : Addr} {fd : FuncData} (F : Fun K "row_answer" "row_answer" s_row_answer f fd) (hlen : mg "len" = none) (c0 : Cst mg "DONE" 0) : FnOk P w K mg base (CXE P w) 1 f fd ["numbers"] spAns := by
  refine F.okX scAns (fun vs H Q E h => ?_) (fun cdv A outer s H vs Q E hr h => ?_)
  · obtain ⟨q, ns, rfl, _⟩ := h
    rfl
  · obtain ⟨q, ns, rfl, hq, hn, k⟩ := h
    refine ⟨_, pss_one (ps_ret (pe_op op_cat (pe_lst (pa_cons (pe_cst c0 rfl) (pa_cons (pe_callB call_len_seq (by rfl) hlen PySem.boot_len (pa_cons (pv 0) pa_nil)) pa_nil))) (pv 0))), ?_⟩
    try dsimp only [cxOf]
    refine ⟨_, rfl, q, _, rfl, .inl (SqL.of hq), (by show 2 ≤ sizeLine; decide), fun p1 hp1 => ⟨_, rfl, p1, q, _, _, rfl, rfl, upd_same, Same.new hp1 _ _ hq, ?_, fun p2 hp2 => k _ p2 ?_⟩⟩
    · rw [List.length_map]
      exact Nat.le_of_lt (smallM (by show 2 + ns.length ≤ 4000000; lia))
    · rw [upd_same, List.length_map]
      rfl
end
end Pg
namespace Pg
open PySem PySem.Spec PyProof.Rows L2 Sh ShA Ink
noncomputable def scanAns (S : Scan) : List Int := 0 :: (((iv (writeScan S)).length : Nat) : Int) :: iv (writeScan S)
section
variable {P : Program} {w : World} {K : PySem.W.Frag} {mg : Str → Option Value} {base : Heap}
theorem scan_out {H : Hp} {q : Addr} {as : List Addr} {S : Scan} {Q : VK} {E E' : XK} (hq : H q = some (.lst (as.map V.ref))) (RR : Rows tv S.width H as S.rows) (hl : S.rows.length = S.height) (h1 : 1 ≤ S.height) (w8 : S.width ≤ 8192) (big : S.height * (1 + 2 * S.width) ≤ 1000000)
    (k : ∀ H' p, H' p = some (.lst ((scanAns S).map V.int)) → Q (.ref p) H') : spWScan tv TRITS writeLine [.ref q] H (fun v H2 => spAns [v] H2 Q E) E' := by
  refine ⟨q, as, S.rows, S.width, S.height, rfl, hq, RR, hl, h1, w8, big, fun H2 p2 hn2 h2 s2 => ?_⟩
  have e : TRITS ++ (le 4 S.width ++ (le 4 S.height ++ writeG writeLine none S.rows)) = writeScan S := by
    unfold writeScan
    rw [writeLines_G]
  have z := writeG_len (wr := writeLine) (n := 1 + 2 * S.width) none S.rows fun a x hx => by
    have := writeLine_len a x
    rw [show x.length = S.width from by rw [← tv_len]; exact RR.wid x hx] at this
    exact this
  rw [hl] at z
  rw [e, bv_iv] at h2
  refine ⟨p2, _, rfl, h2, ?_, fun H3 p3 h3 => k H3 p3 h3⟩
  rw [iv_len, ← e, List.length_append, List.length_append, List.length_append, le4_len, le4_len]
  show 4 + _ ≤ _
  lia
end
theorem size_bigS {wd ht : Nat} (h1 : 1 ≤ wd) (h : wd * ht ≤ 400) : ht * (1 + 2 * wd) ≤ 1000000 := by
  have : ht ≤ wd * ht := Nat.le_mul_of_pos_left ht h1
  have e : ht * (1 + 2 * wd) = ht + 2 * (wd * ht) := by rw [Nat.mul_add, Nat.mul_one, Nat.mul_comm ht, Nat.mul_assoc]
  lia
end Pg
namespace Pg
open PySem PySem.Spec PyProof.Rows L2 Sh ShA Ink
theorem lkp {f g : Str} {v : V} {fs : List (Str × V)} (h : ¬ g = f) : (putF f v fs).lookup g = fs.lookup g := by rw [lookup_putF, if_neg h]
theorem lkp0 {f : Str} {v : V} {fs : List (Str × V)} : (putF f v fs).lookup f = some v := by rw [lookup_putF, if_pos rfl]
noncomputable def wf (n t : Int) : List (Str × V) := putF "total" (.int t) (putF "size" (.int n) [])
noncomputable def uf (R : Sh.Rule) : List (Str × V) := putF "near" (.int (R.near : Int)) (putF "below" (.int (R.below : Int)) (putF "light" (.int (R.light : Int)) (putF "dark" (.int (R.dark : Int)) (putF "radius" (.int (R.radius : Int)) []))))
noncomputable def sf (wd ht : Int) (c : Addr) : List (Str × V) := putF "corners" (.ref c) (putF "height" (.int ht) (putF "width" (.int wd) []))
theorem wf_size (n t : Int) : (wf n t).lookup ("size" : Str) = some (.int n) := (lkp (by decide +kernel)).trans lkp0
theorem wf_total (n t : Int) : (wf n t).lookup ("total" : Str) = some (.int t) := lkp0
theorem uf_near (R : Sh.Rule) : (uf R).lookup ("near" : Str) = some (.int (R.near : Int)) := lkp0
theorem uf_below (R : Sh.Rule) : (uf R).lookup ("below" : Str) = some (.int (R.below : Int)) := (lkp (by decide +kernel)).trans lkp0
theorem uf_light (R : Sh.Rule) : (uf R).lookup ("light" : Str) = some (.int (R.light : Int)) := (lkp (by decide +kernel)).trans ((lkp (by decide +kernel)).trans lkp0)
theorem uf_dark (R : Sh.Rule) : (uf R).lookup ("dark" : Str) = some (.int (R.dark : Int)) := (lkp (by decide +kernel)).trans ((lkp (by decide +kernel)).trans ((lkp (by decide +kernel)).trans lkp0))
theorem uf_radius (R : Sh.Rule) : (uf R).lookup ("radius" : Str) = some (.int (R.radius : Int)) := (lkp (by decide +kernel)).trans ((lkp (by decide +kernel)).trans ((lkp (by decide +kernel)).trans ((lkp (by decide +kernel)).trans lkp0)))
theorem uf_no (R : Sh.Rule) {m : Str} (h1 : ¬ m = "near") (h2 : ¬ m = "below") (h3 : ¬ m = "light") (h4 : ¬ m = "dark") (h5 : ¬ m = "radius") : (uf R).lookup m = none := (lkp h1).trans ((lkp h2).trans ((lkp h3).trans ((lkp h4).trans ((lkp h5).trans rfl))))
theorem sf_width (wd ht : Int) (c : Addr) : (sf wd ht c).lookup ("width" : Str) = some (.int wd) := (lkp (by decide +kernel)).trans ((lkp (by decide +kernel)).trans lkp0)
theorem sf_height (wd ht : Int) (c : Addr) : (sf wd ht c).lookup ("height" : Str) = some (.int ht) := (lkp (by decide +kernel)).trans lkp0
theorem sf_corners (wd ht : Int) (c : Addr) : (sf wd ht c).lookup ("corners" : Str) = some (.ref c) := lkp0
theorem sf_no (wd ht : Int) (c : Addr) {m : Str} (h1 : ¬ m = "corners") (h2 : ¬ m = "height") (h3 : ¬ m = "width") : (sf wd ht c).lookup m = none := (lkp h1).trans ((lkp h2).trans ((lkp h3).trans rfl))
structure TxtW (K : PySem.W.Frag) (mg : Str → Option Value) (CW CU CS : Addr) : Prop where
  w : Cls K CW
  wS : NoAttr K CW "size"
  wT : NoAttr K CW "total"
  u : Cls K CU
  uR : NoAttr K CU "radius"
  uD : NoAttr K CU "dark"
  uL : NoAttr K CU "light"
  uB : NoAttr K CU "below"
  uN : NoAttr K CU "near"
  s : Cls K CS
  sW : NoAttr K CS "width"
  sH : NoAttr K CS "height"
  sC : NoAttr K CS "corners"
  mgW : mg "Window" = some (.ref CW)
  mgU : mg "Rule" = some (.ref CU)
  mgS : mg "Sums" = some (.ref CS)
section
variable {P : Program} {w : World} {K : PySem.W.Frag} {mg : Str → Option Value} {base : Heap} {CF fI CR CW CU CS : Addr}
noncomputable def spWI (CW : Addr) : Sp := fun vs H Q _ => ∃ (x dx : Addr) (n t : Int), vs = [.ref x, .int n, .int t] ∧ H x = some (.ins CW dx []) ∧ ∀ H', H' x = some (.ins CW dx (wf n t)) → Keep x H H' → Q .non H'
theorem scWI : FnScope ["self", "size", "total"] ["self", "size", "total"] (defScope s_Window_init) := ⟨rfl, rfl, rfl, by decide +kernel, rfl, by decide +kernel, by decide +kernel⟩
theorem ok_WI {f : Addr} {fd : FuncData} (F : Fun K "__init__" "Window.__init__" s_Window_init f fd) (T : TxtW K mg CW CU CS) : FnOk P w K mg base (CXE P w) 1 f fd ["self", "size", "total"] (spWI CW) := by
  refine F.okX scWI (fun vs H Q E h => ?_) (fun cdv A outer s H vs Q E hr h => ?_)
  · obtain ⟨x, dx, n, t, rfl, _⟩ := h
    rfl
  · obtain ⟨x, dx, n, t, rfl, hp, k⟩ := h
    refine ⟨_, pss_cons (ps_fld (pv 0) (pv 1) rfl) (pss_one (ps_fld (pv 0) (pv 2) rfl)), ?_⟩
    try dsimp only [cxOf]
    refine ⟨_, rfl, _, rfl, x, CW, dx, [], rfl, hp, T.w, T.wS, (by show 0 < 1000; decide), ?_⟩
    refine ⟨_, rfl, _, rfl, x, CW, dx, _, rfl, upd_same, T.w, T.wT, (by show 1 < 1000; decide), ?_⟩
    exact k _ upd_same (Keep.trans Keep.upd Keep.upd)
noncomputable def spUI (CU : Addr) : Sp := fun vs H Q _ => ∃ (x dx : Addr) (R : Sh.Rule), vs = [.ref x, .int (R.radius : Int), .int (R.dark : Int), .int (R.light : Int), .int (R.below : Int), .int (R.near : Int)] ∧ H x = some (.ins CU dx []) ∧ ∀ H', H' x = some (.ins CU dx (uf R)) → Keep x H H' → Q .non H'
theorem scUI : FnScope ["self", "radius", "dark", "light", "below", "near"] ["self", "radius", "dark", "light", "below", "near"] (defScope s_Rule_init) := ⟨rfl, rfl, rfl, by decide +kernel, rfl, by decide +kernel, by decide +kernel⟩
theorem ok_UI {f : Addr} {fd : FuncData} (F : Fun K "__init__" "Rule.__init__" s_Rule_init f fd) (T : TxtW K mg CW CU CS) : FnOk P w K mg base (CXE P w) 1 f fd ["self", "radius", "dark", "light", "below", "near"] (spUI CU) := by
  refine F.okX scUI (fun vs H Q E h => ?_) (fun cdv A outer s H vs Q E hr h => ?_)
  · obtain ⟨x, dx, R, rfl, _⟩ := h
    rfl
  · obtain ⟨x, dx, R, rfl, hp, k⟩ := h
    refine ⟨_, pss_cons (ps_fld (pv 0) (pv 1) rfl) (pss_cons (ps_fld (pv 0) (pv 2) rfl) (pss_cons (ps_fld (pv 0) (pv 3) rfl) (pss_cons (ps_fld (pv 0) (pv 4) rfl) (pss_one (ps_fld (pv 0) (pv 5) rfl))))), ?_⟩
    try dsimp only [cxOf]
    refine ⟨_, rfl, _, rfl, x, CU, dx, [], rfl, hp, T.u, T.uR, (by show 0 < 1000; decide), ?_⟩
    refine ⟨_, rfl, _, rfl, x, CU, dx, _, rfl, upd_same, T.u, T.uD, (by show 1 < 1000; decide), ?_⟩
    refine ⟨_, rfl, _, rfl, x, CU, dx, _, rfl, upd_same, T.u, T.uL, (by show 2 < 1000; decide), ?_⟩
    refine ⟨_, rfl, _, rfl, x, CU, dx, _, rfl, upd_same, T.u, T.uB, (by show 3 < 1000; decide), ?_⟩
    refine ⟨_, rfl, _, rfl, x, CU, dx, _, rfl, upd_same, T.u, T.uN, (by show 4 < 1000; decide), ?_⟩
    exact k _ upd_same (Keep.trans Keep.upd (Keep.trans Keep.upd (Keep.trans Keep.upd (Keep.trans Keep.upd Keep.upd))))
noncomputable def spSo (CU : Addr) : Sp := fun vs H Q _ => ∃ (x dx : Addr) (R : Sh.Rule), vs = [.ref x] ∧ H x = some (.ins CU dx (uf R)) ∧ Q (.bl R.ok) H
theorem scSo : FnScope ["self"] ["self"] (defScope s_Rule_is_so) := ⟨rfl, rfl, rfl, by decide +kernel, rfl, by decide +kernel, by decide +kernel⟩
theorem ok_So {f : Addr} {fd : FuncData} (F : Fun K "is_so" "Rule.is_so" s_Rule_is_so f fd) (T : TxtW K mg CW CU CS) (c64 : Cst mg "MOST_RADIUS" 64) (c255 : Cst mg "WHITE" 255) : FnOk P w K mg base (CXE P w) 1 f fd ["self"] (spSo CU) := by
  refine F.okX scSo (fun vs H Q E h => ?_) (fun cdv A outer s H vs Q E hr h => ?_)
  · obtain ⟨x, dx, R, rfl, _⟩ := h
    rfl
  · obtain ⟨x, dx, R, rfl, hx, k⟩ := h
    refine ⟨_, pss_one (ps_ret (pe_and (pe_cmpR op_le (pe_fld (pv 0) rfl) (pe_cst c64 rfl) (nomark _)) (pe_and (pe_cmpR op_le (pe_fld (pv 0) rfl) (pe_cst c255 rfl) (nomark _)) (pe_and (pe_cmpR op_le (pe_fld (pv 0) rfl) (pe_cst c255 rfl) (nomark _))
      (pe_and (pe_cmpR op_lt (pe_fld (pv 0) rfl) (pe_fld (pv 0) rfl) (nomark _)) (pe_one (pe_cmpR op_le (pe_fld (pv 0) rfl) (pe_fld (pv 0) rfl) (nomark _)))))))), ?_⟩
    try dsimp only [cxOf]
    have ok : R.ok = decide (R.radius ≤ 64 ∧ R.light ≤ 255 ∧ R.below ≤ 255 ∧ R.dark < R.light ∧ R.near ≤ R.below) := by
      unfold Sh.Rule.ok RADIUS
      rw [← Bool.decide_and, ← Bool.decide_and, ← Bool.decide_and, ← Bool.decide_and]
      exact decide_eq_decide.mpr (by lia)
    rw [ok] at k
    refine ⟨_, rfl, x, CU, dx, _, _, rfl, hx, T.u, T.uR, uf_radius R, _, _, rfl, rfl, _, rfl, ?_⟩
    by_cases q1 : R.radius ≤ 64
    · rw [decide_eq_true (show (R.radius : Int) ≤ 64 by lia)]
      refine iteT ⟨_, rfl, x, CU, dx, _, _, rfl, hx, T.u, T.uL, uf_light R, _, _, rfl, rfl, _, rfl, ?_⟩
      by_cases q2 : R.light ≤ 255
      · rw [decide_eq_true (show (R.light : Int) ≤ 255 by lia)]
        refine iteT ⟨_, rfl, x, CU, dx, _, _, rfl, hx, T.u, T.uB, uf_below R, _, _, rfl, rfl, _, rfl, ?_⟩
        by_cases q3 : R.below ≤ 255
        · rw [decide_eq_true (show (R.below : Int) ≤ 255 by lia)]
          refine iteT ⟨_, rfl, x, CU, dx, _, _, rfl, hx, T.u, T.uD, uf_dark R, _, rfl, x, CU, dx, _, _, rfl, hx, T.u, T.uL, uf_light R, _, _, rfl, rfl, _, rfl, ?_⟩
          by_cases q4 : R.dark < R.light
          · rw [decide_eq_true (show (R.dark : Int) < (R.light : Int) by lia)]
            refine iteT ⟨_, rfl, x, CU, dx, _, _, rfl, hx, T.u, T.uN, uf_near R, _, rfl, x, CU, dx, _, _, rfl, hx, T.u, T.uB, uf_below R, _, _, rfl, rfl, ?_⟩
            have e : decide ((R.near : Int) ≤ (R.below : Int)) = decide (R.radius ≤ 64 ∧ R.light ≤ 255 ∧ R.below ≤ 255 ∧ R.dark < R.light ∧ R.near ≤ R.below) := decide_eq_decide.mpr (by lia)
            show Q (.bl (decide ((R.near : Int) ≤ (R.below : Int)))) H
            rw [e]
            exact k
          · rw [decide_eq_false (show ¬ (R.dark : Int) < (R.light : Int) by lia)]
            refine iteF ?_
            rw [decide_eq_false (show ¬ (R.radius ≤ 64 ∧ R.light ≤ 255 ∧ R.below ≤ 255 ∧ R.dark < R.light ∧ R.near ≤ R.below) from fun z => q4 z.2.2.2.1)] at k
            exact k
        · rw [decide_eq_false (show ¬ (R.below : Int) ≤ 255 by lia)]
          refine iteF ?_
          rw [decide_eq_false (show ¬ (R.radius ≤ 64 ∧ R.light ≤ 255 ∧ R.below ≤ 255 ∧ R.dark < R.light ∧ R.near ≤ R.below) from fun z => q3 z.2.2.1)] at k
          exact k
      · rw [decide_eq_false (show ¬ (R.light : Int) ≤ 255 by lia)]
        refine iteF ?_
        rw [decide_eq_false (show ¬ (R.radius ≤ 64 ∧ R.light ≤ 255 ∧ R.below ≤ 255 ∧ R.dark < R.light ∧ R.near ≤ R.below) from fun z => q2 z.2.1)] at k
        exact k
    · rw [decide_eq_false (show ¬ (R.radius : Int) ≤ 64 by lia)]
      refine iteF ?_
      rw [decide_eq_false (show ¬ (R.radius ≤ 64 ∧ R.light ≤ 255 ∧ R.below ≤ 255 ∧ R.dark < R.light ∧ R.near ≤ R.below) from fun z => q1 z.1)] at k
      exact k
noncomputable def kindOf (R : Sh.Rule) (g n t : Nat) : Trit := if g ≤ R.dark then .ink else if R.light ≤ g then .paper else if n * (g + R.below) ≤ t then .ink else if t ≤ n * (g + R.near) then .paper else .unclear
noncomputable def spKind (CU CW : Addr) : Sp := fun vs H Q _ => ∃ (x dx y dy : Addr) (R : Sh.Rule) (g n t : Nat), vs = [.ref x, .int (g : Int), .ref y] ∧ H x = some (.ins CU dx (uf R)) ∧ H y = some (.ins CW dy (wf (n : Int) (t : Int))) ∧ n ≤ 1000000 ∧ Q (.int ((kindOf R g n t).number : Int)) H
theorem scKind : FnScope ["self", "grey", "window"] ["self", "grey", "window"] (defScope s_Rule_kind_of) := ⟨rfl, rfl, rfl, by decide +kernel, rfl, by decide +kernel, by decide +kernel⟩
theorem ok_Kind {f : Addr} {fd : FuncData} (F : Fun K "kind_of" "Rule.kind_of" s_Rule_kind_of f fd) (T : TxtW K mg CW CU CS) (c0 : Cst mg "PAPER" 0) (c1 : Cst mg "INK" 1) (c2 : Cst mg "UNCLEAR" 2) : FnOk P w K mg base (CXE P w) 1 f fd ["self", "grey", "window"] (spKind CU CW) := by
  refine F.okX scKind (fun vs H Q E h => ?_) (fun cdv A outer s H vs Q E hr h => ?_)
  · obtain ⟨x, dx, y, dy, R, g, n, t, rfl, _⟩ := h
    rfl
  · obtain ⟨x, dx, y, dy, R, g, n, t, rfl, hx, hy, hn, k⟩ := h
    refine ⟨_, pss_cons (ps_if (pt_cmpR op_le (pv 1) (pe_fld (pv 0) rfl) (nomark _)) (pss_one (ps_ret (pe_cst c1 rfl))) pss_nil)
      (pss_cons (ps_if (pt_cmpR op_ge (pv 1) (pe_fld (pv 0) rfl) (nomark _)) (pss_one (ps_ret (pe_cst c0 rfl))) pss_nil)
      (pss_cons (ps_if (pt_cmpR op_le (pe_op op_mul (pe_fld (pv 2) rfl) (pe_op op_add (pv 1) (pe_fld (pv 0) rfl))) (pe_fld (pv 2) rfl) (nomark _)) (pss_one (ps_ret (pe_cst c1 rfl))) pss_nil)
      (pss_cons (ps_if (pt_cmpR op_le (pe_fld (pv 2) rfl) (pe_op op_mul (pe_fld (pv 2) rfl) (pe_op op_add (pv 1) (pe_fld (pv 0) rfl))) (nomark _)) (pss_one (ps_ret (pe_cst c0 rfl))) pss_nil)
      (pss_one (ps_ret (pe_cst c2 rfl)))))), ?_⟩
    try dsimp only [cxOf]
    unfold kindOf at k
    refine ⟨_, rfl, _, rfl, x, CU, dx, _, _, rfl, hx, T.u, T.uD, uf_dark R, _, _, rfl, rfl, _, rfl, ?_⟩
    by_cases q1 : g ≤ R.dark
    · rw [decide_eq_true (show (g : Int) ≤ (R.dark : Int) by lia)]
      rw [if_pos q1] at k
      exact iteT k
    · rw [decide_eq_false (show ¬ (g : Int) ≤ (R.dark : Int) by lia)]
      rw [if_neg q1] at k
      refine iteF ⟨_, rfl, _, rfl, x, CU, dx, _, _, rfl, hx, T.u, T.uL, uf_light R, _, _, rfl, rfl, _, rfl, ?_⟩
      by_cases q2 : R.light ≤ g
      · rw [decide_eq_true (show (R.light : Int) ≤ (g : Int) by lia)]
        rw [if_pos q2] at k
        exact iteT k
      · rw [decide_eq_false (show ¬ (R.light : Int) ≤ (g : Int) by lia)]
        rw [if_neg q2] at k
        refine iteF ⟨_, rfl, y, CW, dy, _, _, rfl, hy, T.w, T.wS, wf_size _ _, _, rfl, _, rfl, x, CU, dx, _, _, rfl, hx, T.u, T.uB, uf_below R, _, _, rfl, rfl, _, _, rfl, rfl, .inl ⟨by lia, by lia⟩, _, rfl, y, CW, dy, _, _, rfl, hy, T.w, T.wT, wf_total _ _, _, _, rfl, rfl, _, rfl, ?_⟩
        have e3 : ((n : Int) * ((g : Int) + (R.below : Int)) ≤ (t : Int)) ↔ n * (g + R.below) ≤ t := by
          rw [← Int.natCast_add, ← Int.natCast_mul]
          lia
        have e4 : ((t : Int) ≤ (n : Int) * ((g : Int) + (R.near : Int))) ↔ t ≤ n * (g + R.near) := by
          rw [← Int.natCast_add, ← Int.natCast_mul]
          lia
        by_cases q3 : n * (g + R.below) ≤ t
        · rw [decide_eq_true (e3.mpr q3)]
          rw [if_pos q3] at k
          exact iteT k
        · rw [decide_eq_false (fun z => q3 (e3.mp z))]
          rw [if_neg q3] at k
          refine iteF ⟨_, rfl, y, CW, dy, _, _, rfl, hy, T.w, T.wT, wf_total _ _, _, rfl, y, CW, dy, _, _, rfl, hy, T.w, T.wS, wf_size _ _, _, rfl, _, rfl, x, CU, dx, _, _, rfl, hx, T.u, T.uN, uf_near R, _, _, rfl, rfl, _, _, rfl, rfl, .inl ⟨by lia, by lia⟩, _, _, rfl, rfl, _, rfl, ?_⟩
          by_cases q4 : t ≤ n * (g + R.near)
          · rw [decide_eq_true (e4.mpr q4)]
            rw [if_pos q4] at k
            exact iteT k
          · rw [decide_eq_false (fun z => q4 (e4.mp z))]
            rw [if_neg q4] at k
            exact iteF k
noncomputable def cornRow (P : Picture) (y n : Nat) : List Int := (List.range n).map fun x => ((corner P y x : Nat) : Int)
noncomputable def corns (P : Picture) : List (List Int) := (List.range (P.height + 1)).map fun y => cornRow P y (P.width + 1)
theorem cornRow_len (P : Picture) (y n : Nat) : (cornRow P y n).length = n := by unfold cornRow; simp
theorem cornRow_at {P : Picture} {y n x : Nat} (h : x < n) : ((cornRow P y n).map V.int)[x]? = some (V.int ((corner P y x : Nat) : Int)) := by
  unfold cornRow
  rw [List.getElem?_map, List.getElem?_map, List.getElem?_range h]
  rfl
theorem cornRow_succ (P : Picture) (y n : Nat) : cornRow P y (n + 1) = cornRow P y n ++ [((corner P y n : Nat) : Int)] := by
  unfold cornRow
  rw [List.range_succ, List.map_append]
  rfl
theorem corns_len (P : Picture) : (corns P).length = P.height + 1 := by unfold corns; simp
theorem corns_at {P : Picture} {y : Nat} (h : y ≤ P.height) : (corns P)[y]? = some (cornRow P y (P.width + 1)) := by
  unfold corns
  rw [List.getElem?_map, List.getElem?_range (by lia)]
  rfl
theorem corner_top (P : Picture) (x : Nat) : corner P 0 x = 0 := rfl
theorem corner_left (P : Picture) : ∀ y : Nat, corner P y 0 = 0
  | 0 => rfl
  | y + 1 => by
    have ih := corner_left P y
    unfold corner at ih ⊢
    simp only [Ink.sumTo] at ih ⊢
    lia
theorem corner_more (P : Picture) (y x : Nat) : corner P (y + 1) x = corner P y x + Ink.sumTo (fun u => P.at_ u y) x := rfl
theorem zero_row (P : Picture) : ∀ n : Nat, cornRow P 0 n = List.replicate n 0
  | 0 => rfl
  | n + 1 => by
    rw [cornRow_succ, zero_row P n, corner_top, List.replicate_succ']
    rfl
theorem rep_flat (n : Nat) : (List.replicate n [V.int 0]).flatten = (List.replicate n (0 : Int)).map V.int := by
  induction n with
  | zero => rfl
  | succ n ih => rw [List.replicate_succ, List.replicate_succ, List.flatten_cons, List.map_cons, ih]; rfl
structure PicOk (P : Picture) : Prop where
  len : P.greys.length = P.height
  h1 : 1 ≤ P.height
  h8 : P.height ≤ 8192
  w1 : 1 ≤ P.width
  w8 : P.width ≤ 8192
noncomputable def spCorn : Sp := fun vs H Q _ => ∃ (q : Addr) (as : List Addr) (P : Picture), vs = [.ref q] ∧ H q = some (.lst (as.map V.ref)) ∧ Rows iv P.width H as P.greys ∧ PicOk P ∧
  ∀ H' c cs, H' c = some (.lst (cs.map V.ref)) → Rows idv (P.width + 1) H' cs (corns P) → Same H H' → Q (.ref c) H'
theorem scCorn : FnScope ["rows", "above", "corners", "row", "along", "through", "x", "grey"] ["rows"] (defScope s_corner_sums) := ⟨rfl, rfl, rfl, by decide +kernel, rfl, by decide +kernel, by decide +kernel⟩
inductive CInv (PP : Picture) (q c : Addr) (H : Hp) (i : Nat) (σ : L2.St) (H' : Hp) : Prop
  | mk (al : Addr) (cs : List Addr) (v3 v4 v5 v6 v7 : Option V) (h0 : σ = [some (.ref q), some (.ref al), some (.ref c), v3, v4, v5, v6, v7]) (h1 : H' c = some (.lst (cs.map V.ref))) (h2 : Rows idv (PP.width + 1) H' cs ((corns PP).take (i + 1))) (h3 : c ∉ cs) (h4 : cs.length = i + 1) (h5 : H' al = some (.lst ((cornRow PP i (PP.width + 1)).map V.int))) (h6 : al ≠ c) (h7 : Same H H')
inductive CJnv (PP : Picture) (q al' c a t : Addr) (i : Nat) (H' : Hp) (j : Nat) (σ : L2.St) (H2 : Hp) : Prop
  | mk (v6 v7 : Option V) (h0 : σ = [some (.ref q), some (.ref al'), some (.ref c), some (.ref a), some (.int ((Ink.sumTo (fun u => PP.at_ u i) j : Nat) : Int)), some (.ref t), v6, v7]) (h1 : H2 t = some (.lst ((cornRow PP (i + 1) (j + 1)).map V.int))) (h2 : Same H' H2)
theorem ok_Corn {f : Addr} {fd : FuncData} (F : Fun K "corner_sums" "corner_sums" s_corner_sums f fd) (hlen : mg "len" = none) (henum : mg "enumerate" = none) : FnOk P w K mg base (CXE P w) 1 f fd ["rows"] spCorn := by
  refine F.okX scCorn (fun vs H Q E h => ?_) (fun cdv A outer s H vs Q E hr h => ?_)
  · obtain ⟨q, as, PP, rfl, _⟩ := h
    rfl
  · obtain ⟨q, as, PP, rfl, hq, RR, ok, k⟩ := h
    obtain ⟨hlen', h1, h8, w1, w8⟩ := ok
    obtain ⟨x0, hx0⟩ : ∃ x, PP.greys[0]? = some x := ⟨_, List.getElem?_eq_getElem (by lia)⟩
    obtain ⟨a0, ha0, hH0⟩ := RR.at_ 0 x0 hx0
    have w0 := RR.wid x0 (List.mem_of_getElem? hx0)
    have al : (as.map V.ref).length = PP.height := by rw [List.length_map, RR.len, hlen']
    refine ⟨_, pss_cons (ps_set (i := 1) scCorn.nd rfl (Or.inl rfl) (pe_op op_rep (pe_lst (pa_cons pe_int pa_nil)) (pe_op op_add (pe_callB call_len_seq (by rfl) hlen PySem.boot_len (pa_cons (pe_ix ix_list (pv 0) pe_int (fun _ _ => rfl)) pa_nil)) pe_int)))
      (pss_cons (ps_set (i := 2) scCorn.nd rfl (Or.inl rfl) (pe_lst (pa_cons (pv 1) pa_nil)))
      (pss_cons (ps_for PassesOwn.leaving rfl (pi_list (pv 0)) (pg_name (i := 3) scCorn.nd rfl (Or.inl rfl))
        (pss_cons (ps_set (i := 4) scCorn.nd rfl (Or.inl rfl) pe_int)
        (pss_cons (ps_set (i := 5) scCorn.nd rfl (Or.inl rfl) (pe_lst (pa_cons pe_int pa_nil)))
        (pss_cons (ps_for PassesOwn.leaving rfl (pi_enum rfl henum (pa_cons (pv 3) pa_nil)) (pg_tup rfl (pgs_cons (pg_name (i := 6) scCorn.nd rfl (Or.inl rfl)) (pgs_cons (pg_name (i := 7) scCorn.nd rfl (Or.inl rfl)) pgs_nil)))
          (pss_cons (ps_aug (i := 4) scCorn.nd rfl (Or.inl rfl) (pv 7) ip_add)
          (pss_one (ps_expr (pe_bm PySem.F.plainAttrs_list PySem.F.slot_list_append PySem.F.type_list_append mt_append (pv 5) (pa_cons (pe_op op_add (pe_ix ix_list (pv 1) (pe_op op_add (pv 6) pe_int) (fun _ _ => rfl)) (pv 4)) pa_nil))))))
        (pss_cons (ps_expr (pe_bm PySem.F.plainAttrs_list PySem.F.slot_list_append PySem.F.type_list_append mt_append (pv 2) (pa_cons (pv 5) pa_nil)))
        (pss_one (ps_set (i := 1) scCorn.nd rfl (Or.inl rfl) (pv 5))))))))
      (pss_one (ps_ret (pv 2))))), ?_⟩
    try dsimp only [cxOf]
    -- above = [0] * (len(rows[0]) + 1)
    refine ⟨(by show 1 ≤ sizeLine; decide), fun z hz => ?_⟩
    have s0 : Same H (upd H z (.lst [.int 0])) := Same.new hz
    have hl0 : ((((iv x0).map V.int).length : Nat) : Int) = (PP.width : Int) := by rw [List.length_map, w0]
    refine ⟨_, rfl, q, _, _, _, rfl, rfl, SqL.of (s0 _ _ hq), at_of (j := 0) (v := V.ref a0) rfl (by rw [List.getElem?_map, ha0]; rfl), a0, _, rfl, .inl (SqL.of (s0 _ _ hH0)), _, _, rfl, rfl, z, _, _, rfl, rfl, upd_same, by lia, by lia, ?_, fun ab hab => ?_⟩
    · rw [hl0]
      show 1 * ((PP.width : Int) + 1).toNat ≤ sizeLine
      exact Nat.le_of_lt (smallM (by lia))
    rw [hl0, show ((PP.width : Int) + 1).toNat = PP.width + 1 by lia, rep_flat, ← zero_row PP]
    have s1 := s0.trans (Same.new (o := .lst ((cornRow PP 0 (PP.width + 1)).map V.int)) hab)
    -- corners = [above]
    refine ⟨_, rfl, (by show 1 ≤ sizeLine; decide), fun c hc => ?_⟩
    have Hc : H c = none := s1.free hc
    have abc : ab ≠ c := fun z => by rw [← z, upd_same] at hc; cases hc
    have R0 : Rows idv (PP.width + 1) (upd (upd (upd H z (.lst [.int 0])) ab (.lst ((cornRow PP 0 (PP.width + 1)).map V.int))) c (.lst [V.ref ab])) [ab] ((corns PP).take 1) := by
      have e : (corns PP).take 1 = [cornRow PP 0 (PP.width + 1)] := by rw [take_succ (corns_at (Nat.zero_le _))]; rfl
      rw [e]
      exact Rows.nil.snoc (by rw [upd_ne abc, upd_same]; rfl) (cornRow_len ..)
    -- the rows
    refine ⟨_, rfl, q, rfl, ⟨_, SqL.of (s1.put Hc _ _ hq)⟩, for_list (K := K) (a := q) (xs := as.map V.ref) (CInv PP q c H)
      ⟨ab, [ab], none, none, none, none, none, rfl, upd_same, R0, (by simpa using Ne.symm abc), rfl, (by rw [upd_ne abc, upd_same]), abc, s1.put Hc⟩ (fun i σ H' _ hy => by obtain ⟨_, _, _, _, _, _, _, _, _, _, _, _, _, _, s7⟩ := hy; exact SqL.of (s7 _ _ hq)) ?_ ?_⟩
    · rintro i y σ H' hi ⟨al', cs, v3, v4, v5, v6, v7, rfl, hc', RC, nc, csl, hal, alc, s7⟩
      have hil : i < PP.height := by
        have := (List.getElem?_eq_some_iff.mp hi).1
        rw [al] at this
        exact this
      obtain ⟨row, hrow⟩ : ∃ x, PP.greys[i]? = some x := ⟨_, List.getElem?_eq_getElem (by lia)⟩
      obtain ⟨a, ha, hH⟩ := RR.at_ i row hrow
      obtain rfl : V.ref a = y := by
        rw [List.getElem?_map, ha] at hi
        exact Option.some.inj hi
      have wr : row.length = PP.width := by rw [← iv_len]; exact RR.wid row (List.mem_of_getElem? hrow)
      have atq : ∀ u g, row[u]? = some g → PP.at_ u i = g.toNat := fun u g hg => by
        unfold Picture.at_
        rw [getD_some hrow, getD_some hg]
      -- along = 0, through = [0]
      refine ⟨(by show 1 ≤ sizeLine; decide), fun t ht => ?_⟩
      have tc : t ≠ c := fun z => by rw [z, hc'] at ht; cases ht
      have tal : t ≠ al' := fun z => by rw [z, hal] at ht; cases ht
      have Ht : H t = none := s7.free ht
      have s8 : Same H' (upd H' t (.lst [V.int 0])) := Same.new ht
      -- the greys of the row
      refine ⟨_, rfl, a, _, rfl, SqL.of (s8 _ _ (s7 _ _ hH)), for_enum (K := K) (a := a) (xs := (iv row).map V.int) (CJnv PP q al' c a t i H')
        ⟨v6, v7, rfl, ?_, s8⟩ (fun j σ H2 _ hy => by obtain ⟨_, _, _, _, s9⟩ := hy; exact SqL.of (s9 _ _ (s7 _ _ hH))) ?_ ?_⟩
      · rw [upd_same]
        unfold cornRow
        simp [corner_left]
      · rintro j y σ H2 T hj ⟨v6, v7, rfl, ht2, s9⟩ hT
        have hjl : j < PP.width := by
          have := (List.getElem?_eq_some_iff.mp hj).1
          rw [List.length_map, iv_len, wr] at this
          exact this
        obtain ⟨g, hg⟩ : ∃ g, row[j]? = some g := ⟨_, List.getElem?_eq_getElem (by lia)⟩
        obtain rfl : V.int (g.toNat : Int) = y := by
          rw [← bv_iv, bv_get hg] at hj
          exact Option.some.inj hj
        have s10 : Same H2 (upd H2 T (.tup [.int (j : Nat), .int (g.toNat : Int)])) := Same.new hT
        have tT : t ≠ T := ne_of_none ht2 hT
        refine ⟨T, _, rfl, SqT.of upd_same, rfl, _, _, rfl, _, _, rfl, rfl, ?_⟩
        refine ⟨_, rfl, _, rfl, _, _, rfl, rfl, ?_⟩
        have e1 : ((Ink.sumTo (fun u => PP.at_ u i) j : Nat) : Int) + (g.toNat : Int) = ((Ink.sumTo (fun u => PP.at_ u i) (j + 1) : Nat) : Int) := by
          show _ = ((Ink.sumTo (fun u => PP.at_ u i) j + PP.at_ j i : Nat) : Int)
          rw [atq j g hg, Int.natCast_add]
        refine ⟨_, rfl, .inl ⟨rfl, _, SqL.of (s10 _ _ ht2)⟩, _, rfl, _, rfl, _, _, rfl, rfl, al', _, _, _, rfl, rfl, SqL.of (s10 _ _ (s9 _ _ hal)), at_of (j := j + 1) (by lia) (cornRow_at (by lia)), _, rfl, _, _, rfl, rfl, t, _, _, rfl, rfl, s10 _ _ ht2, ?_, ?_⟩
        · rw [List.length_map, cornRow_len]
          exact smallM (by lia)
        · refine ⟨some (.int (j : Nat)), some (.int (g.toNat : Int)), ?_, ?_, fun b o e => ?_⟩
          · rw [← e1]
            rfl
          · rw [upd_same]
            show some (HO.lst ((cornRow PP (i + 1) (j + 1)).map V.int ++ [V.int (((corner PP i (j + 1) : Nat) : Int) + (((Ink.sumTo (fun u => PP.at_ u i) j : Nat) : Int) + (g.toNat : Int)))])) = _
            rw [e1, cornRow_succ PP (i + 1) (j + 1), corner_more, List.map_append, Int.natCast_add]
            rfl
          · have z := s10 _ _ (s9 _ _ e)
            rw [upd_ne (fun w => by rw [w, ht] at e; cases e)]
            exact z
      · rintro σ H2 ⟨v6, v7, rfl, ht2, s9⟩
        rw [List.length_map, iv_len, wr] at ht2
        refine ⟨_, rfl, .inl ⟨rfl, _, SqL.of (s9 _ _ hc')⟩, _, rfl, c, _, _, rfl, rfl, s9 _ _ hc', ?_, ?_⟩
        · rw [List.length_map, csl]
          exact smallM (by lia)
        · obtain ⟨R3, nD3⟩ := RC.grow (x := cornRow PP (i + 1) (PP.width + 1)) (o := .lst (cs.map V.ref ++ [V.ref t])) nc s9 ht2 tc (cornRow_len ..)
          refine ⟨_, rfl, t, cs ++ [t], _, _, _, _, _, rfl, ?_, ?_, nD3, ?_, ?_, tc, ?_⟩
          · rw [upd_same, List.map_append]
            rfl
          · rw [take_succ (corns_at (y := i + 1) (by lia))]
            exact R3
          · rw [List.length_append, csl]
            rfl
          · rw [upd_ne tc]
            exact ht2
          · exact (s7.trans s9).put Hc
    · rintro σ H' ⟨al', cs, v3, v4, v5, v6, v7, rfl, hc', RC, nc, csl, hal, alc, s7⟩
      rw [al, List.take_of_length_le (by rw [corns_len]; exact Nat.le_refl _)] at RC
      exact ⟨_, rfl, k H' c cs hc' RC s7⟩
end
end Pg
namespace Pg
open PySem PySem.Spec PyProof.Rows L2 Sh ShA Ink
section
variable {P : Program} {w : World} {K : PySem.W.Frag} {mg : Str → Option Value} {base : Heap} {CF fI CR CW CU CS : Addr}
structure SumsAt (CS : Addr) (P : Picture) (H : Hp) (x : Addr) : Prop where
  at_ : ∃ dx c cs, H x = some (.ins CS dx (sf (P.width : Int) (P.height : Int) c)) ∧ H c = some (.lst (cs.map V.ref)) ∧ Rows idv (P.width + 1) H cs (corns P)
theorem SumsAt.same {CS : Addr} {P : Picture} {H H' : Hp} {x : Addr} (S : SumsAt CS P H x) (s : Same H H') : SumsAt CS P H' x := by
  obtain ⟨dx, c, cs, h1, h2, h3⟩ := S.at_
  exact ⟨dx, c, cs, s _ _ h1, s _ _ h2, h3.same s⟩
noncomputable def spSI (CS : Addr) : Sp := fun vs H Q _ => ∃ (x dx q : Addr) (as : List Addr) (P : Picture), vs = [.ref x, .ref q] ∧ H x = some (.ins CS dx []) ∧ H q = some (.lst (as.map V.ref)) ∧ Rows iv P.width H as P.greys ∧ PicOk P ∧
  ∀ H', SumsAt CS P H' x → Keep x H H' → Q .non H'
theorem scSI : FnScope ["self", "rows"] ["self", "rows"] (defScope s_Sums_init) := ⟨rfl, rfl, rfl, by decide +kernel, rfl, by decide +kernel, by decide +kernel⟩
theorem ok_SI {f fC : Addr} {fd fdC : FuncData} (F : Fun K "__init__" "Sums.__init__" s_Sums_init f fd) (T : TxtW K mg CW CU CS) (hlen : mg "len" = none)
    (GC : FnOk P w K mg base (CXE P w) 1 fC fdC ["rows"] spCorn) (mC : Df K mg "corner_sums" fC fdC ["rows"]) : FnOk P w K mg base (CXE P w) 2 f fd ["self", "rows"] (spSI CS) := by
  refine F.okX scSI (fun vs H Q E h => ?_) (fun cdv A outer s H vs Q E hr h => ?_)
  · obtain ⟨x, dx, q, as, PP, rfl, _⟩ := h
    rfl
  · obtain ⟨x, dx, q, as, PP, rfl, hx, hq, RR, ok, k⟩ := h
    obtain ⟨hlen', h1, h8, w1, w8⟩ := id ok
    obtain ⟨x0, hx0⟩ : ∃ x, PP.greys[0]? = some x := ⟨_, List.getElem?_eq_getElem (by lia)⟩
    obtain ⟨a0, ha0, hH0⟩ := RR.at_ 0 x0 hx0
    have w0 := RR.wid x0 (List.mem_of_getElem? hx0)
    have al : (as.map V.ref).length = PP.height := by rw [List.length_map, RR.len, hlen']
    have qx : q ≠ x := ne_of hq hx (by intro z; cases z)
    have ax : a0 ≠ x := ne_of hH0 hx (by intro z; cases z)
    refine ⟨_, pss_cons (ps_fld (pv 0) (pe_callB call_len_seq (by rfl) hlen PySem.boot_len (pa_cons (pe_ix ix_list (pv 1) pe_int (fun _ _ => rfl)) pa_nil)) rfl)
      (pss_cons (ps_fld (pv 0) (pe_callB call_len_seq (by rfl) hlen PySem.boot_len (pa_cons (pv 1) pa_nil)) rfl)
      (pss_one (ps_fld (pv 0) (pe_call GC hr rfl mC.mx mC.kp mC.bi .nil pass_cx (pa_cons (pv 1) pa_nil)) rfl))), ?_⟩
    try dsimp only [cxOf]
    have hl0 : ((((iv x0).map V.int).length : Nat) : Int) = (PP.width : Int) := by rw [List.length_map, w0]
    refine ⟨_, rfl, q, _, _, _, rfl, rfl, SqL.of hq, at_of (j := 0) (v := V.ref a0) rfl (by rw [List.getElem?_map, ha0]; rfl), a0, _, rfl, .inl (SqL.of hH0), _, rfl, x, CS, dx, [], rfl, hx, T.s, T.sW, (by show 0 < 1000; decide), ?_⟩
    rw [hl0]
    refine ⟨_, rfl, q, _, rfl, .inl (SqL.of (by rw [upd_ne qx]; exact hq)), _, rfl, x, CS, dx, _, rfl, upd_same, T.s, T.sH, (by show 1 < 1000; decide), ?_⟩
    rw [al]
    have kp : Keep x H (upd (upd H x (.ins CS dx (putF "width" (.int (PP.width : Int)) []))) x (.ins CS dx (putF "height" (.int (PP.height : Int)) (putF "width" (.int (PP.width : Int)) [])))) := Keep.trans Keep.upd Keep.upd
    refine ⟨_, rfl, q, as, PP, rfl, kp _ _ hq qx, RR.keep (fun a xs h _ => kp _ _ h (ne_of h hx (by intro z; cases z))), ok, fun H' c cs hc RC s1 => ?_⟩
    have hx' := s1 _ _ (upd_same (H := upd H x (.ins CS dx (putF "width" (.int (PP.width : Int)) []))) (a := x) (o := .ins CS dx (putF "height" (.int (PP.height : Int)) (putF "width" (.int (PP.width : Int)) []))))
    have cx : c ≠ x := ne_of hc hx' (by intro z; cases z)
    refine ⟨_, rfl, x, CS, dx, _, rfl, hx', T.s, T.sC, (by show 2 < 1000; decide), ?_⟩
    refine k _ ⟨dx, c, cs, upd_same, by rw [upd_ne cx]; exact hc, RC.keep fun a xs h _ => by rw [upd_ne (ne_of h hx' (by intro z; cases z))]; exact h⟩ ?_
    exact Keep.trans (Keep.trans kp (Keep.same s1)) Keep.upd
noncomputable def spWin (CS CW : Addr) : Sp := fun vs H Q _ => ∃ (x : Addr) (P : Picture) (u v r : Nat), vs = [.ref x, .int (u : Int), .int (v : Int), .int (r : Int)] ∧ SumsAt CS P H x ∧ u < P.width ∧ v < P.height ∧ r ≤ 64 ∧ P.width ≤ 8192 ∧ P.height ≤ 8192 ∧
  ∀ H' y dy, H' y = some (.ins CW dy (wf (((windowOf P r u v).1 : Nat) : Int) (((windowOf P r u v).2 : Nat) : Int))) → Same H H' → Q (.ref y) H'
theorem scWin : FnScope ["self", "x", "y", "radius", "left", "right", "top", "bottom", "above", "through", "total"] ["self", "x", "y", "radius"] (defScope s_Sums_window_of) := ⟨rfl, rfl, rfl, by decide +kernel, rfl, by decide +kernel, by decide +kernel⟩
theorem max_nat (x r : Nat) : (if (0 : Int) > (x : Int) - (r : Int) then (0 : Int) else (x : Int) - (r : Int)) = ((x - r : Nat) : Int) := by
  split <;> lia
theorem min_nat (x r n : Nat) : (if (n : Int) < (x : Int) + (r : Int) + 1 then (n : Int) else (x : Int) + (r : Int) + 1) = ((min (x + r + 1) n : Nat) : Int) := by
  split <;> lia
theorem win_size {rt l b t n : Nat} (h1 : l ≤ rt) (h2 : t ≤ b) (e : n = (rt - l) * (b - t)) : ((rt : Int) - (l : Int)) * ((b : Int) - (t : Int)) = (n : Int) := by
  rw [e, Int.natCast_mul, Int.natCast_sub h1, Int.natCast_sub h2]
theorem win_sum {a b c d n : Nat} (e : n + b + c = a + d) : (a : Int) - (b : Int) - (c : Int) + (d : Int) = (n : Int) := by lia
theorem ok_Win {f fI' : Addr} {fd fdI' : FuncData} (F : Fun K "window_of" "Sums.window_of" s_Sums_window_of f fd) (T : TxtW K mg CW CU CS) (hmax : mg "max" = none) (hmin : mg "min" = none)
    (M : Mk K CW fI') (GI : FnOk P w K mg base (CXE P w) 1 fI' fdI' ["self", "size", "total"] (spWI CW)) (bI : Binds K fdI' ["self", "size", "total"] []) : FnOk P w K mg base (CXE P w) 3 f fd ["self", "x", "y", "radius"] (spWin CS CW) := by
  refine F.okX scWin (fun vs H Q E h => ?_) (fun cdv A outer s H vs Q E hr h => ?_)
  · obtain ⟨x, PP, u, v, r, rfl, _⟩ := h
    rfl
  · obtain ⟨x, PP, u, v, r, rfl, S, hu, hv, hr64, w8, h8, k⟩ := h
    obtain ⟨dx, c, cs, hx, hc, RC⟩ := S.at_
    obtain ⟨we1, we2⟩ := window_eq PP r u v hu hv
    generalize hl : u - r = l at we1 we2
    generalize hrt : min (u + r + 1) PP.width = rt at we1 we2
    generalize ht : v - r = t at we1 we2
    generalize hb : min (v + r + 1) PP.height = b at we1 we2
    have cl := cs
    obtain ⟨at', hat, hHt⟩ := RC.at_ t _ (corns_at (P := PP) (by lia))
    obtain ⟨ab, hab, hHb⟩ := RC.at_ b _ (corns_at (P := PP) (by lia))
    refine ⟨_, pss_cons (ps_set (i := 4) scWin.nd rfl (Or.inl rfl) (pe_callB (call_max2 rfl) (by rfl) hmax PyProof.Rows.boot_max (pa_cons (pe_op op_sub (pv 1) (pv 3)) (pa_cons pe_int pa_nil))))
      (pss_cons (ps_set (i := 5) scWin.nd rfl (Or.inl rfl) (pe_callB (call_min2 rfl) (by rfl) hmin PyProof.Rows.boot_min (pa_cons (pe_op op_add (pe_op op_add (pv 1) (pv 3)) pe_int) (pa_cons (pe_fld (pv 0) rfl) pa_nil))))
      (pss_cons (ps_set (i := 6) scWin.nd rfl (Or.inl rfl) (pe_callB (call_max2 rfl) (by rfl) hmax PyProof.Rows.boot_max (pa_cons (pe_op op_sub (pv 2) (pv 3)) (pa_cons pe_int pa_nil))))
      (pss_cons (ps_set (i := 7) scWin.nd rfl (Or.inl rfl) (pe_callB (call_min2 rfl) (by rfl) hmin PyProof.Rows.boot_min (pa_cons (pe_op op_add (pe_op op_add (pv 2) (pv 3)) pe_int) (pa_cons (pe_fld (pv 0) rfl) pa_nil))))
      (pss_cons (ps_set (i := 8) scWin.nd rfl (Or.inl rfl) (pe_ix ix_list (pe_fld (pv 0) rfl) (pv 6) (fun _ _ => rfl)))
      (pss_cons (ps_set (i := 9) scWin.nd rfl (Or.inl rfl) (pe_ix ix_list (pe_fld (pv 0) rfl) (pv 7) (fun _ _ => rfl)))
      (pss_cons (ps_set (i := 10) scWin.nd rfl (Or.inl rfl) (pe_op op_add (pe_op op_sub (pe_op op_sub (pe_ix ix_list (pv 9) (pv 5) (fun _ _ => rfl)) (pe_ix ix_list (pv 9) (pv 4) (fun _ _ => rfl))) (pe_ix ix_list (pv 8) (pv 5) (fun _ _ => rfl))) (pe_ix ix_list (pv 8) (pv 4) (fun _ _ => rfl))))
      (pss_one (ps_ret (pe_make M GI hr rfl T.mgW bI .nil pass_cx (pa_cons (pe_op op_mul (pe_op op_sub (pv 5) (pv 4)) (pe_op op_sub (pv 7) (pv 6))) (pa_cons (pv 10) pa_nil))))))))))), ?_⟩
    try dsimp only [cxOf]
    refine seqK fun R1 k1 => ⟨_, rfl, _, rfl, _, _, rfl, rfl, _, _, rfl, ?_⟩
    rw [max_nat, hl]
    refine k1 _ _ _ ?_
    refine seqK fun R1 k1 => ⟨_, rfl, _, rfl, _, _, rfl, rfl, _, _, rfl, rfl, _, rfl, x, CS, dx, _, _, rfl, hx, T.s, T.sW, sf_width _ _ _, _, _, rfl, ?_⟩
    rw [min_nat, hrt]
    refine k1 _ _ _ ?_
    refine seqK fun R1 k1 => ⟨_, rfl, _, rfl, _, _, rfl, rfl, _, _, rfl, ?_⟩
    rw [max_nat, ht]
    refine k1 _ _ _ ?_
    refine seqK fun R1 k1 => ⟨_, rfl, _, rfl, _, _, rfl, rfl, _, _, rfl, rfl, _, rfl, x, CS, dx, _, _, rfl, hx, T.s, T.sH, sf_height _ _ _, _, _, rfl, ?_⟩
    rw [min_nat, hb]
    refine k1 _ _ _ ?_
    refine seqK fun R1 k1 => ⟨_, rfl, x, CS, dx, _, _, rfl, hx, T.s, T.sC, sf_corners _ _ _, _, rfl, c, _, _, V.ref at', rfl, rfl, SqL.of hc, at_of (j := t) rfl (by rw [List.getElem?_map, hat]; rfl), ?_⟩
    refine k1 _ _ _ ?_
    refine seqK fun R1 k1 => ⟨_, rfl, x, CS, dx, _, _, rfl, hx, T.s, T.sC, sf_corners _ _ _, _, rfl, c, _, _, V.ref ab, rfl, rfl, SqL.of hc, at_of (j := b) rfl (by rw [List.getElem?_map, hab]; rfl), ?_⟩
    refine k1 _ _ _ ?_
    have rl : rt < PP.width + 1 := by lia
    have ll : l < PP.width + 1 := by lia
    refine seqK fun R1 k1 => ⟨_, rfl, _, rfl, ab, _, _, _, rfl, rfl, SqL.of hHb, at_of (j := rt) rfl (cornRow_at rl), _, rfl, _, rfl, ab, _, _, _, rfl, rfl, SqL.of hHb, at_of (j := l) rfl (cornRow_at ll), _, _, rfl, rfl, _, rfl, _, rfl, at', _, _, _, rfl, rfl, SqL.of hHt, at_of (j := rt) rfl (cornRow_at rl), _, _, rfl, rfl, _, rfl, _, rfl, at', _, _, _, rfl, rfl, SqL.of hHt, at_of (j := l) rfl (cornRow_at ll), _, _, rfl, rfl, ?_⟩
    refine k1 _ _ _ ?_
    refine ⟨_, rfl, _, rfl, _, _, rfl, rfl, _, rfl, _, rfl, _, _, rfl, rfl, _, _, rfl, rfl, .inl ⟨by lia, by lia⟩, _, rfl, fun y dy hy hdy ne => ?_⟩
    refine ⟨y, dy, _, _, rfl, upd_same, fun H' hy' kp => ⟨rfl, k H' y dy ?_ (Same.made hy hdy kp)⟩⟩
    rw [hy']
    rw [win_size (show l ≤ rt by lia) (show t ≤ b by lia) we1, win_sum we2]
theorem window_few (PP : Picture) (r u v : Nat) (hu : u < PP.width) (hv : v < PP.height) (few : PP.width * PP.height ≤ 400) : (windowOf PP r u v).1 ≤ 1000000 := by
  rw [(window_eq PP r u v hu hv).1]
  exact Nat.le_trans (Nat.mul_le_mul (Nat.le_trans (Nat.sub_le _ _) (Nat.min_le_right _ _)) (Nat.le_trans (Nat.sub_le _ _) (Nat.min_le_right _ _))) (Nat.le_trans few (by decide))
noncomputable def toldRow (PP : Picture) (R : Sh.Rule) (y : Nat) : List Trit := (List.range PP.width).map fun x => tellPoint PP R x y
theorem toldRow_len (PP : Picture) (R : Sh.Rule) (y : Nat) : (toldRow PP R y).length = PP.width := by unfold toldRow; simp
theorem toldRow_at {PP : Picture} {R : Sh.Rule} {y i : Nat} (h : i < PP.width) : (toldRow PP R y)[i]? = some (tellPoint PP R i y) := by
  unfold toldRow
  rw [List.getElem?_map, List.getElem?_range h]
  rfl
noncomputable def spTRow (CU CS : Addr) : Sp := fun vs H Q _ => ∃ (u du sa a : Addr) (R : Sh.Rule) (PP : Picture) (y : Nat) (row : Bytes), vs = [.ref u, .ref sa, .int (y : Int), .ref a] ∧ H u = some (.ins CU du (uf R)) ∧ SumsAt CS PP H sa ∧ H a = some (.lst ((iv row).map V.int)) ∧ PP.greys[y]? = some row ∧ row.length = PP.width ∧ y < PP.height ∧ PicOk PP ∧ PP.width * PP.height ≤ 400 ∧ R.radius ≤ 64 ∧
  ∀ H' p, H p = none → H' p = some (.lst ((tv (toldRow PP R y)).map V.int)) → Same H H' → Q (.ref p) H'
theorem scTRow : FnScope ["rule", "sums", "y", "row", "x", "grey"] ["rule", "sums", "y", "row"] (defScope s_tell_row) := ⟨rfl, rfl, rfl, by decide +kernel, rfl, by decide +kernel, by decide +kernel⟩
theorem ok_TRow {f fK fW : Addr} {fd fdK fdW : FuncData} (F : Fun K "tell_row" "tell_row" s_tell_row f fd) (T : TxtW K mg CW CU CS) (henum : mg "enumerate" = none)
    (GK : FnOk P w K mg base (CXE P w) 1 fK fdK ["self", "grey", "window"] (spKind CU CW)) (mK : Dm K CU "kind_of" fK fdK ["self", "grey", "window"])
    (GW : FnOk P w K mg base (CXE P w) 3 fW fdW ["self", "x", "y", "radius"] (spWin CS CW)) (mW : Dm K CS "window_of" fW fdW ["self", "x", "y", "radius"]) : FnOk P w K mg base (CXE P w) 4 f fd ["rule", "sums", "y", "row"] (spTRow CU CS) := by
  refine F.okX scTRow (fun vs H Q E h => ?_) (fun cdv A outer s H vs Q E hr h => ?_)
  · obtain ⟨u, du, sa, a, R, PP, y, row, rfl, _⟩ := h
    rfl
  · obtain ⟨u, du, sa, a, R, PP, y, row, rfl, hu, S, ha, hrow, wr, hy, ok, few, r64, k⟩ := h
    refine ⟨_, pss_one (ps_ret (pe_lcX (g := gTup K 2 (gCons (gName 4) (gCons (gName 5) gNil))) (own := [("x", 4), ("grey", 5)]) (L := s.heap.objs.size) rfl rfl rfl lets_cx rfl scTRow.nd (pi_enum rfl henum (pa_cons (pv 3) pa_nil)) (blkOk_by (by show blkC ["rule", "sums", "y", "row", "x", "grey"] (defScope s_tell_row) _ _ = true; decide +kernel))
        (fun s H C cl fp => pg_tup rfl (pgs_cons (pg_name (i := 4) scTRow.nd rfl (Or.inl rfl)) (pgs_cons (pg_name (i := 5) scTRow.nd rfl (Or.inl rfl)) pgs_nil))) (fun s H C cl fp => pts_nil)
        (fun s H C cl fp xe hp => pe_meth (pv 0) T.u mK.me GK (hr.mono (by decide)) mK.bi .nil hp (pa_cons (pv 5) (pa_cons (pe_meth (pv 1) T.s mW.me GW hr mW.bi .nil hp (pa_cons (pv 4) (pa_cons (pv 2) (pa_cons (show PE _ _ (tFld K (tVar 0) "radius") from pe_fld (pv 0) rfl) pa_nil)))) pa_nil))))), ?_⟩
    try dsimp only [cxOf]
    refine ⟨_, rfl, a, _, rfl, SqL.of ha, fun D hD => ?_⟩
    refine lc_enum (K := K) (a := a) (xs := (iv row).map V.int) (fun i H' => H' D = some (.lst ((tv ((toldRow PP R y).take i)).map V.int)) ∧ Same H H') ?_ (fun i H' _ hy => by obtain ⟨_, s7⟩ := hy; exact SqL.of (s7 _ _ ha)) ?_ ?_
    · exact ⟨upd_same, Same.new hD⟩
    · rintro i v H' Tt hi ⟨hDl, s7⟩ hT
      have hil : i < PP.width := by
        have := (List.getElem?_eq_some_iff.mp hi).1
        rw [List.length_map, iv_len, wr] at this
        exact this
      obtain ⟨g, hg⟩ : ∃ g, row[i]? = some g := ⟨_, List.getElem?_eq_getElem (by lia)⟩
      obtain rfl : V.int (g.toNat : Int) = v := by
        rw [← bv_iv, bv_get hg] at hi
        exact Option.some.inj hi
      have eg : PP.at_ i y = g.toNat := by
        unfold Picture.at_
        rw [getD_some hrow, getD_some hg]
      have s8 : Same H' (upd H' Tt (.tup [.int (i : Nat), .int (g.toNat : Int)])) := Same.new hT
      have s9 := s7.trans s8
      obtain ⟨dxs, c, cs, hsx, _, _⟩ := (S.same s9).at_
      refine ⟨Tt, _, rfl, SqT.of upd_same, rfl, _, _, rfl, _, _, rfl, rfl, rfl, ?_⟩
      dsimp only [tYes]
      rw [if_pos rfl]
      refine ⟨_, rfl, u, du, _, rfl, s9 _ _ hu, uf_no R (by decide +kernel) (by decide +kernel) (by decide +kernel) (by decide +kernel) (by decide +kernel), _, rfl, _, rfl, sa, dxs, _, rfl, hsx, sf_no _ _ _ (by decide +kernel) (by decide +kernel) (by decide +kernel), _, rfl, _, rfl, _, rfl, u, CU, du, _, _, rfl, s9 _ _ hu, T.u, T.uR, uf_radius R, sa, PP, i, y, R.radius, rfl, S.same s9, hil, hy, r64, ok.w8, ok.h8, fun H2 yw dyw hyw s10 => ?_⟩
      refine ⟨u, du, yw, dyw, R, g.toNat, _, _, rfl, s10 _ _ (s9 _ _ hu), hyw, window_few PP R.radius i y hil hy few, _, s10 _ _ (s8 _ _ hDl), ?_, ?_, (s9.trans s10).put hD⟩
      · rw [List.length_map, tv_len, List.length_take, toldRow_len]
        exact smallM (by have := ok.w8; lia)
      · rw [upd_same, take_succ (toldRow_at hil), tv_app, List.map_append]
        have e : kindOf R g.toNat (windowOf PP R.radius i y).1 (windowOf PP R.radius i y).2 = tellPoint PP R i y := by
          rw [← eg]
          rfl
        rw [e]
        rfl
    · rintro H' ⟨hDl, s7⟩
      rw [List.length_map, iv_len, wr, List.take_of_length_le (by rw [toldRow_len]; exact Nat.le_refl _)] at hDl
      exact k H' D hD hDl s7
noncomputable def spTRows (CU : Addr) : Sp := fun vs H Q _ => ∃ (u du q : Addr) (as : List Addr) (R : Sh.Rule) (PP : Picture), vs = [.ref u, .ref q] ∧ H u = some (.ins CU du (uf R)) ∧ H q = some (.lst (as.map V.ref)) ∧ Rows iv PP.width H as PP.greys ∧ PicOk PP ∧ PP.width * PP.height ≤ 400 ∧ R.radius ≤ 64 ∧
  ∀ H' p as', H' p = some (.lst (as'.map V.ref)) → Rows tv PP.width H' as' (Sh.tell PP R).rows → Same H H' → Q (.ref p) H'
theorem scTRows : FnScope ["rule", "rows", "sums", "y", "row"] ["rule", "rows"] (defScope s_tell_rows) := ⟨rfl, rfl, rfl, by decide +kernel, rfl, by decide +kernel, by decide +kernel⟩
theorem ok_TRows {f fS fR : Addr} {fd fdS fdR : FuncData} (F : Fun K "tell_rows" "tell_rows" s_tell_rows f fd) (T : TxtW K mg CW CU CS) (henum : mg "enumerate" = none)
    (M : Mk K CS fS) (GS : FnOk P w K mg base (CXE P w) 2 fS fdS ["self", "rows"] (spSI CS)) (bS : Binds K fdS ["self", "rows"] [])
    (GR : FnOk P w K mg base (CXE P w) 4 fR fdR ["rule", "sums", "y", "row"] (spTRow CU CS)) (mR : Df K mg "tell_row" fR fdR ["rule", "sums", "y", "row"]) : FnOk P w K mg base (CXE P w) 5 f fd ["rule", "rows"] (spTRows CU) := by
  refine F.okX scTRows (fun vs H Q E h => ?_) (fun cdv A outer s H vs Q E hr h => ?_)
  · obtain ⟨u, du, q, as, R, PP, rfl, _⟩ := h
    rfl
  · obtain ⟨u, du, q, as, R, PP, rfl, hu, hq, RR, ok, few, r64, k⟩ := h
    have al : (as.map V.ref).length = PP.height := by rw [List.length_map, RR.len, ok.len]
    refine ⟨_, pss_cons (ps_set (i := 2) scTRows.nd rfl (Or.inr rfl) (pe_make M GS (hr.mono (by decide)) rfl T.mgS bS .nil pass_cx (pa_cons (pv 1) pa_nil)))
      (pss_one (ps_ret (pe_lcX (g := gTup K 2 (gCons (gName 3) (gCons (gName 4) gNil))) (own := [("y", 3), ("row", 4)]) (L := s.heap.objs.size) rfl rfl rfl lets_cx rfl scTRows.nd (pi_enum rfl henum (pa_cons (pv 1) pa_nil)) (blkOk_by (by show blkC ["rule", "rows", "sums", "y", "row"] (defScope s_tell_rows) _ _ = true; decide +kernel))
        (fun s H C cl fp => pg_tup rfl (pgs_cons (pg_name (i := 3) scTRows.nd rfl (Or.inl rfl)) (pgs_cons (pg_name (i := 4) scTRows.nd rfl (Or.inl rfl)) pgs_nil))) (fun s H C cl fp => pts_nil)
        (fun s H C cl fp xe hp => pe_call GR hr rfl mR.mx mR.kp mR.bi .nil hp (pa_cons (pv 0) (pa_cons (pv 2) (pa_cons (pv 3) (pa_cons (pv 4) pa_nil)))))))), ?_⟩
    try dsimp only [cxOf]
    refine ⟨_, rfl, fun sa dsa hsa hdsa ne => ?_⟩
    have s00 : Same H (upd (upd H dsa (.own sa)) sa (.ins CS dsa [])) := (Same.refl H).put hdsa |>.put hsa
    refine ⟨sa, dsa, q, as, PP, rfl, upd_same, s00 _ _ hq, RR.same s00, ok, fun H1 S1 kp1 => ⟨rfl, ?_⟩⟩
    have s1 : Same H H1 := Same.made hsa hdsa kp1
    refine ⟨_, rfl, q, _, rfl, SqL.of (s1 _ _ hq), fun D hD => ?_⟩
    have HD : H D = none := s1.free hD
    have plen : (Sh.tell PP R).rows.length = PP.height := by unfold Sh.tell; exact by_len
    refine lc_enum (K := K) (a := q) (xs := as.map V.ref) (fun i H' => ∃ as' : List Addr, H' D = some (.lst (as'.map V.ref)) ∧ Rows tv PP.width H' as' ((Sh.tell PP R).rows.take i) ∧ D ∉ as' ∧ as'.length = i ∧ Same H1 H') ?_ (fun i H' _ hy => by obtain ⟨_, _, _, _, _, s7⟩ := hy; exact SqL.of (s7 _ _ (s1 _ _ hq))) ?_ ?_
    · exact ⟨[], upd_same, Rows.nil, by simp, rfl, Same.new hD⟩
    · rintro i x H' Tt hi ⟨as', hDl, R2, nD, asl, s7⟩ hT
      have hil : i < PP.height := by
        have := (List.getElem?_eq_some_iff.mp hi).1
        rw [al] at this
        exact this
      have hlg := ok.len
      obtain ⟨row, hrow⟩ : ∃ x, PP.greys[i]? = some x := ⟨_, List.getElem?_eq_getElem (by lia)⟩
      obtain ⟨a, ha, hH⟩ := RR.at_ i row hrow
      obtain rfl : V.ref a = x := by
        rw [List.getElem?_map, ha] at hi
        exact Option.some.inj hi
      have wr : row.length = PP.width := by rw [← iv_len]; exact RR.wid row (List.mem_of_getElem? hrow)
      have s8 : Same H' (upd H' Tt (.tup [.int (i : Nat), .ref a])) := Same.new hT
      have s9 := s7.trans s8
      have s10 := s1.trans s9
      refine ⟨Tt, _, rfl, SqT.of upd_same, rfl, _, _, rfl, _, _, rfl, rfl, rfl, ?_⟩
      dsimp only [tYes]
      rw [if_pos rfl]
      refine ⟨_, rfl, _, rfl, _, rfl, _, rfl, u, du, sa, a, R, PP, i, row, rfl, s10 _ _ hu, S1.same s9, s10 _ _ hH, hrow, wr, hil, ok, few, r64, fun H2 p hpn hp s2 => ?_⟩
      have pD : p ≠ D := fun z => by rw [z, s8 _ _ hDl] at hpn; cases hpn
      obtain ⟨R3, nD3⟩ := R2.grow (o := .lst (as'.map V.ref ++ [V.ref p])) nD (s8.trans s2) hp pD (by rw [tv_len, toldRow_len])
      refine ⟨_, s2 _ _ (s8 _ _ hDl), ?_, as' ++ [p], ?_, ?_, nD3, ?_, ?_⟩
      · rw [List.length_map, asl]
        exact smallM (by have := ok.h8; lia)
      · rw [upd_same, List.map_append]
        rfl
      · rw [take_succ (tell_at (R := R) hil)]
        exact R3
      · rw [List.length_append, asl]
        rfl
      · exact (s9.trans s2).put hD
    · rintro H' ⟨as', hDl, R2, nD, asl, s7⟩
      rw [al, List.take_of_length_le (by rw [plen]; exact Nat.le_refl _)] at R2
      exact k H' D as' hDl R2 (s1.trans s7)
noncomputable def toldOut (R : Sh.Rule) (b : Bytes) : List Int := if R.ok = false then [-1] else answerOf (whole GREYS rowBody writeRow b) fun z => scanAns (Sh.tell ⟨z.1, z.2.1, z.2.2⟩ R)
noncomputable def spTell (K : PySem.W.Frag) : Sp := fun vs H Q _ => ∃ (R : Sh.Rule) (d : Addr) (b : Bytes), vs = [.int (R.radius : Int), .int (R.dark : Int), .int (R.light : Int), .int (R.below : Int), .int (R.near : Int), .ref d] ∧ Dat K H d (bv b) ∧ u32 b 4 * u32 b 8 ≤ 400 ∧ ∀ H' p, H' p = some (.lst ((toldOut R b).map V.int)) → Q (.ref p) H'
theorem scTell : FnScope ["r", "dark", "light", "below", "near", "picture", "rule", "rows", "fault"] ["r", "dark", "light", "below", "near", "picture"] (defScope s_tell) := ⟨rfl, rfl, rfl, by decide +kernel, rfl, by decide +kernel, by decide +kernel⟩
theorem ok_Tell {f fU fX fS fR fM fW fA : Addr} {fd fdU fdX fdS fdR fdM fdW fdA : FuncData} (F : Fun K "tell" "tell" s_tell f fd) (T : Txt K mg CF fI CR) (TW : TxtW K mg CW CU CS) (cF : Cst mg "FIRST_FORM" 0) (c1 : Cst mg "MAY_NOT_BE" (-1))
    (M : Mk K CU fU) (GU : FnOk P w K mg base (CXE P w) 1 fU fdU ["self", "radius", "dark", "light", "below", "near"] (spUI CU)) (bU : Binds K fdU ["self", "radius", "dark", "light", "below", "near"] [])
    (GX : FnOk P w K mg base (CXE P w) 1 fX fdX ["self"] (spSo CU)) (mX : Dm K CU "is_so" fX fdX ["self"])
    (GS : FnOk P w K mg base (CXE P w) 8 fS fdS ["data"] (spPic K CF iv GREYS rowBody writeRow)) (mS : Df K mg "read_picture" fS fdS ["data"])
    (GR : FnOkH P w K mg base CX0 1 fR fdR ["which", "fault"] (spRef CF)) (mR : Df K mg "form_refused" fR fdR ["which", "fault"])
    (GM : FnOk P w K mg base (CXE P w) 5 fM fdM ["rule", "rows"] (spTRows CU)) (mM : Df K mg "tell_rows" fM fdM ["rule", "rows"])
    (GW : FnOk P w K mg base (CXE P w) 5 fW fdW ["rows"] (spWScan tv TRITS writeLine)) (mW : Df K mg "write_scan" fW fdW ["rows"])
    (GA : FnOk P w K mg base (CXE P w) 1 fA fdA ["numbers"] spAns) (mA : Df K mg "row_answer" fA fdA ["numbers"]) :
    FnOk P w K mg base (CXE P w) 9 f fd ["r", "dark", "light", "below", "near", "picture"] (spTell K) := by
  refine F.okX scTell (fun vs H Q E h => ?_) (fun cdv A outer s H vs Q E hr h => ?_)
  · obtain ⟨R, d, b, rfl, _⟩ := h
    rfl
  · obtain ⟨R, d, b, rfl, hd, few, k⟩ := h
    refine ⟨_, pss_cons (ps_set (i := 6) scTell.nd rfl (Or.inl rfl) (pe_make M GU (hr.mono (by decide)) rfl TW.mgU bU .nil pass_cx (pa_cons (pv 0) (pa_cons (pv 1) (pa_cons (pv 2) (pa_cons (pv 3) (pa_cons (pv 4) pa_nil)))))))
      (pss_cons (ps_if (pt_not (pt_val (pe_meth0 (pv 6) TW.u mX.me GX (hr.mono (by decide)) mX.bi .nil pass_cx))) (pss_one (ps_ret (pe_lst (pa_cons (pe_cst c1 rfl) pa_nil)))) pss_nil)
      (pss_cons (ps_tryX (i := 8) (L := s.heap.objs.size) rfl rfl rfl T.xc rfl T.mgF scTell.nd rfl rfl
        (fun pn xe E hp => pss_one (ps_set (i := 7) scTell.nd rfl (Or.inl rfl) (pe_call GS hr rfl mS.mx mS.kp mS.bi .nil hp (pa_cons (pv 5) pa_nil))))
        (fun ea => pss_one (ps_ret (pe_callH GR (suiteRoom hr (by decide)) rfl mR.mx mR.kp mR.bi .nil pass0 (pa_cons (pe_cst cF rfl) (pa_cons (pv 8) pa_nil))))))
      (pss_one (ps_ret (pe_call GA (hr.mono (by decide)) rfl mA.mx mA.kp mA.bi .nil pass_cx (pa_cons (pe_call GW (hr.mono (by decide)) rfl mW.mx mW.kp mW.bi .nil pass_cx (pa_cons (pe_call GM (hr.mono (by decide)) rfl mM.mx mM.kp mM.bi .nil pass_cx (pa_cons (pv 6) (pa_cons (pv 7) pa_nil))) pa_nil)) pa_nil)))))), ?_⟩
    try dsimp only [cxOf]
    refine ⟨_, rfl, _, rfl, _, rfl, _, rfl, _, rfl, fun u du hu hdu ne => ?_⟩
    refine ⟨u, du, R, rfl, upd_same, fun H1 hu1 kp1 => ⟨rfl, ?_⟩⟩
    have s1 : Same H H1 := Same.made hu hdu kp1
    refine ⟨_, rfl, u, du, _, rfl, hu1, uf_no R (by decide +kernel) (by decide +kernel) (by decide +kernel) (by decide +kernel) (by decide +kernel), u, du, R, rfl, hu1, _, rfl, ?_⟩
    unfold toldOut at k
    by_cases q : R.ok = true
    · rw [q]
      rw [if_neg (by rw [q]; intro z; cases z)] at k
      have r64 : R.radius ≤ 64 := by
        have z := q
        unfold Sh.Rule.ok at z
        rw [Bool.and_eq_true, decide_eq_true_eq] at z
        exact z.1
      refine iteF ?_
      refine ⟨_, rfl, d, b, rfl, hd.same s1, few, fun e he => ?_, fun wd ht rs he H' q' as hq RR hl h1 sa => ?_⟩
      · intro d' H' hd'
        refine ⟨d', rfl, rfl, fun ea hea => ?_⟩
        refine ⟨_, rfl, ea, d', 0, e.rule, e.place, rfl, upd_same, ?_, fun q hq => ?_⟩
        · rw [upd_ne (ne_of_none hd' hea)]
          exact hd'
        · refine k _ q ?_
          rw [upd_same, he]
          rfl
      · obtain ⟨e1, e2, b1, b2, b3, b4⟩ := whole_size he
        rw [← e1, ← e2] at few
        refine ⟨_, rfl, _, rfl, u, du, q', as, R, ⟨wd, ht, rs⟩, rfl, sa _ _ hu1, hq, RR, ⟨hl, b3, b4, b1, b2⟩, few, r64, fun H2 p2 as2 h2 R2 s2 => ?_⟩
        refine scan_out (E := E) (E' := E) (S := Sh.tell ⟨wd, ht, rs⟩ R) h2 R2 (by unfold Sh.tell; exact by_len) b3 b2 (size_bigS b1 few) fun H3 p3 h3 => k H3 p3 ?_
        rw [h3, he]
        rfl
    · rw [Bool.not_eq_true] at q
      rw [q]
      rw [if_pos q] at k
      refine iteT ⟨(by show 1 ≤ sizeLine; decide), fun p hp => k _ p ?_⟩
      rw [upd_same]
      rfl
end
end Pg
namespace L2
open PySem PySem.Spec PyProof.Rows
open PySem.W (Codec OpenSpec)
theorem walk_specX {r : OpenSpec} {k : Nat} {q : Program} {loose : List Str} {XP : (Str → Option Value) → Heap → Prop} {YP : World → Heap → Prop} {d : DefRec} {K : Params → PySem.W.Frag} {CX : World → CXT} {ps : List Str} {sp : PySem.W.Frag → Sp}
    (hwell : r.wellSaid = true) (hdf : d.params.defaults = []) (hlen : r.args.length = ps.length) (hr : Room k callerA)
    (hY : ∀ (w : World) (h : Heap), YP w h → (K w.params).In h)
    (F : ∀ (w : World) (mg : Str → Option Value) (fa : Addr) (h : Heap), YP w h → (K w.params).In h → h.Ns mainGlobals mg → mg d.name = some (.ref fa) →
      ∃ fd : FuncData, (∀ (s : Shared) (us : List Value), us.length = ps.length → BindsTo s fd ⟨us, []⟩ (ps.zip us)) ∧
        ∀ base : Heap, (K w.params).In base → base.Ns mainGlobals mg → FnOk r.prog w (K w.params) mg base (CX w) k fa fd ps (sp (K w.params)))
    (hsp : ∀ (K : PySem.W.Frag) (H : Hp) (xs : List V) (a : Codec.denoteAll r.args), OnlyF H → Codec.withinAll r.args a = true → Codec.app r.args r.asked a = true → DwAll K H xs (Codec.encAll r.args a) →
      sp K xs H (fun v H' => Dw K H' v (r.ret.enc (Codec.app r.args r.f a))) fun _ _ _ => False)
    (hCX : ∀ (w : World) (H : Hp) (s : Shared) (e : Value) (s' : Shared), CX w [] H s (fun _ _ _ => False) e s' → False) :
    PySem.W.WalkOS q loose XP YP r d [] (fun f vs => PySem.call f vs) :=
  walk_spec (K := K) (CX := CX) (sp := fun w => sp (K w.params)) hwell hdf hlen hr hY F (fun w H xs a h1 h2 h3 h4 => hsp (K w.params) H xs a h1 h2 h3 h4) hCX
end L2
namespace Pg
theorem len1 {α : Type} {l : List α} (h : l.length = 1) : ∃ a0, l = [a0] := by
  cases l with
  | nil => cases h
  | cons a r =>
    cases r with
    | nil => exact ⟨a, rfl⟩
    | cons b t => simp at h
theorem len2 {α : Type} {l : List α} (h : l.length = 2) : ∃ a0 a1, l = [a0, a1] := by
  cases l with
  | nil => cases h
  | cons a r =>
    obtain ⟨b0, rfl⟩ := len1 (l := r) (Nat.succ.inj h)
    exact ⟨a, b0, rfl⟩
theorem len3 {α : Type} {l : List α} (h : l.length = 3) : ∃ a0 a1 a2, l = [a0, a1, a2] := by
  cases l with
  | nil => cases h
  | cons a r =>
    obtain ⟨b0, b1, rfl⟩ := len2 (l := r) (Nat.succ.inj h)
    exact ⟨a, b0, b1, rfl⟩
theorem len4 {α : Type} {l : List α} (h : l.length = 4) : ∃ a0 a1 a2 a3, l = [a0, a1, a2, a3] := by
  cases l with
  | nil => cases h
  | cons a r =>
    obtain ⟨b0, b1, b2, rfl⟩ := len3 (l := r) (Nat.succ.inj h)
    exact ⟨a, b0, b1, b2, rfl⟩
theorem len5 {α : Type} {l : List α} (h : l.length = 5) : ∃ a0 a1 a2 a3 a4, l = [a0, a1, a2, a3, a4] := by
  cases l with
  | nil => cases h
  | cons a r =>
    obtain ⟨b0, b1, b2, b3, rfl⟩ := len4 (l := r) (Nat.succ.inj h)
    exact ⟨a, b0, b1, b2, b3, rfl⟩
theorem len6 {α : Type} {l : List α} (h : l.length = 6) : ∃ a0 a1 a2 a3 a4 a5, l = [a0, a1, a2, a3, a4, a5] := by
  cases l with
  | nil => cases h
  | cons a r =>
    obtain ⟨b0, b1, b2, b3, b4, rfl⟩ := len5 (l := r) (Nat.succ.inj h)
    exact ⟨a, b0, b1, b2, b3, b4, rfl⟩
end Pg
namespace Pg
open PySem PySem.Spec PyProof.Rows L2 Sh Ink
theorem lk_rule : typeLookup (.type "Exception") "rule" = pure none := by
  rw [typeLookup_type, builtinLookup_eq_fast]
  kernel_rfl
theorem lk_place : typeLookup (.type "Exception") "place" = pure none := by
  rw [typeLookup_type, builtinLookup_eq_fast]
  kernel_rfl
noncomputable def ofInts (l : List Int) : Bytes := l.map fun z => UInt8.ofNat z.toNat
theorem bv_ofInts : ∀ (l : List Int), (∀ z ∈ l, 0 ≤ z ∧ z < 256) → bv (ofInts l) = l.map V.int
  | [], _ => rfl
  | a :: l, h => by
    have h0 := h a (List.mem_cons_self ..)
    have e : ((UInt8.ofNat a.toNat).toNat : Int) = a := by
      rw [UInt8.toNat_ofNat']
      lia
    have ih := bv_ofInts l fun z hz => h z (List.mem_cons_of_mem _ hz)
    show V.int ((UInt8.ofNat a.toNat).toNat : Int) :: bv (ofInts l) = V.int a :: l.map V.int
    rw [e, ih]
theorem all_nat {l : List Int} (h : l.all (fun z => ScanNeutral.natural z 8) = true) : ∀ z ∈ l, 0 ≤ z ∧ z < 256 := fun z hz => by
  have q := List.all_eq_true.mp h z hz
  unfold ScanNeutral.natural at q
  rw [Bool.and_eq_true, decide_eq_true_eq, decide_eq_true_eq] at q
  exact ⟨q.1, q.2⟩
theorem bytes_some {l : List Int} (h : ∀ z ∈ l, 0 ≤ z ∧ z < 256) : ScanNeutral.bytes l = some (ofInts l) := by
  unfold ScanNeutral.bytes
  rw [if_pos]
  · rfl
  · unfold NeutralIO.bytes
    first
      | exact List.all_eq_true.mpr fun z hz => by have := h z hz; simp; lia
      | skip
theorem nat_some {z : Int} (h : 0 ≤ z) : ScanNeutral.nat z = some z.toNat := by
  unfold ScanNeutral.nat
  rw [if_neg (by lia)]
theorem whole_nat {z : Int} (h : ScanNeutral.whole z = true) : 0 ≤ z := of_decide_eq_true h
theorem toNat_int {z : Int} (h : 0 ≤ z) : ((z.toNat : Nat) : Int) = z := Int.toNat_of_nonneg h
theorem rowBody_em (wd : Nat) (above : Option Bytes) (b : Bytes) (p : Nat) (x : Bytes × Bytes × Nat) (h : rowBody wd above b p = .ok x) (ha : ∀ a, above = some a → (iv a).length = wd) : (iv x.1).length = wd ∧ ∃ n, x.2.1 = b.drop n ∧ x.2.2 = p + n ∧ n ≤ b.length := by
  have z := rowBody_rest h fun a q => by rw [← iv_len]; exact ha a q
  exact ⟨by rw [iv_len]; exact z.1, z.2⟩
theorem told_pic (b : Bytes) (f : Picture → ShA.Answer) : ScanNeutral.told (ShA.judged 0 (judgePicture b) f) = answerOf (whole GREYS rowBody writeRow b) fun z => ScanNeutral.told (f ⟨z.1, z.2.1, z.2.2⟩) := by
  unfold judgePicture whole
  cases readHead GREYS b with
  | error e => rfl
  | ok z =>
    show ScanNeutral.told (ShA.judged 0 (andThen (readRows z.1 z.2 none (b.drop 12) 12) fun l => .ok (⟨z.1, z.2, l⟩ : Picture)) f) = answerOf (andThen (rowsG (rowBody z.1) writeRow z.2 none (b.drop 12) 12) fun l => .ok (z.1, z.2, l)) _
    rw [readRows_G]
    cases rowsG (rowBody z.1) writeRow z.2 none (b.drop 12) 12 with
    | error e => rfl
    | ok y => rfl
theorem all_mk {P : Program} {w : World} {K : PySem.W.Frag} {h : Heap} {mg : Str → Option Value} {fa C_FormFault C_Reader C_Window C_Rule C_Sums f_FormFault_init f_Reader_init f_Reader_at_end f_Reader_look f_Reader_take f_Reader_take_number f_Reader_taken_from f_read_mark f_is_side f_is_size f_read_width f_read_height f_read_rows f_write_rows f_number_bytes f_count_same f_write_scan f_write_row f_read_picture f_read_row f_read_item f_item_length f_write_row_2 f_greys_end f_Window_init f_Rule_init f_Rule_is_so f_Rule_kind_of f_Sums_init f_Sums_window_of f_corner_sums f_tell_rows f_tell_row f_tell f_form_refused f_row_answer a_WEIGHTS a_MARK_scan a_MARK_picture : Addr} (X : K.In h) (G : h.Ns mainGlobals mg) (hfa : mg "tell" = some (.ref fa))
    {od_FormFault_init an_FormFault_init : Option Addr} {sl_FormFault_init : Array (Option Value)} {oc_FormFault_init kV_FormFault_init dc_FormFault_init pm_FormFault_init cd_FormFault_init ct_FormFault_init : Value}
    {od_Reader_init an_Reader_init : Option Addr} {sl_Reader_init : Array (Option Value)} {oc_Reader_init kV_Reader_init dc_Reader_init pm_Reader_init cd_Reader_init ct_Reader_init : Value}
    {od_Reader_at_end an_Reader_at_end : Option Addr} {sl_Reader_at_end : Array (Option Value)} {oc_Reader_at_end kV_Reader_at_end dc_Reader_at_end pm_Reader_at_end cd_Reader_at_end ct_Reader_at_end : Value}
    {od_Reader_look an_Reader_look : Option Addr} {sl_Reader_look : Array (Option Value)} {oc_Reader_look kV_Reader_look dc_Reader_look pm_Reader_look cd_Reader_look ct_Reader_look : Value}
    {od_Reader_take an_Reader_take : Option Addr} {sl_Reader_take : Array (Option Value)} {oc_Reader_take kV_Reader_take dc_Reader_take pm_Reader_take cd_Reader_take ct_Reader_take : Value}
    {od_Reader_take_number an_Reader_take_number : Option Addr} {sl_Reader_take_number : Array (Option Value)} {oc_Reader_take_number kV_Reader_take_number dc_Reader_take_number pm_Reader_take_number cd_Reader_take_number ct_Reader_take_number : Value}
    {od_Reader_taken_from an_Reader_taken_from : Option Addr} {sl_Reader_taken_from : Array (Option Value)} {oc_Reader_taken_from kV_Reader_taken_from dc_Reader_taken_from pm_Reader_taken_from cd_Reader_taken_from ct_Reader_taken_from : Value}
    {od_read_mark an_read_mark : Option Addr} {sl_read_mark : Array (Option Value)} {oc_read_mark kV_read_mark dc_read_mark pm_read_mark cd_read_mark ct_read_mark : Value}
    {od_is_side an_is_side : Option Addr} {sl_is_side : Array (Option Value)} {oc_is_side kV_is_side dc_is_side pm_is_side cd_is_side ct_is_side : Value}
    {od_is_size an_is_size : Option Addr} {sl_is_size : Array (Option Value)} {oc_is_size kV_is_size dc_is_size pm_is_size cd_is_size ct_is_size : Value}
    {od_read_width an_read_width : Option Addr} {sl_read_width : Array (Option Value)} {oc_read_width kV_read_width dc_read_width pm_read_width cd_read_width ct_read_width : Value}
    {od_read_height an_read_height : Option Addr} {sl_read_height : Array (Option Value)} {oc_read_height kV_read_height dc_read_height pm_read_height cd_read_height ct_read_height : Value}
    {od_read_rows an_read_rows : Option Addr} {sl_read_rows : Array (Option Value)} {oc_read_rows kV_read_rows dc_read_rows pm_read_rows cd_read_rows ct_read_rows : Value}
    {od_write_rows an_write_rows : Option Addr} {sl_write_rows : Array (Option Value)} {oc_write_rows kV_write_rows dc_write_rows pm_write_rows cd_write_rows ct_write_rows : Value}
    {od_number_bytes an_number_bytes : Option Addr} {sl_number_bytes : Array (Option Value)} {oc_number_bytes kV_number_bytes dc_number_bytes pm_number_bytes cd_number_bytes ct_number_bytes : Value}
    {od_count_same an_count_same : Option Addr} {sl_count_same : Array (Option Value)} {oc_count_same kV_count_same dc_count_same pm_count_same cd_count_same ct_count_same : Value}
    {od_write_scan an_write_scan : Option Addr} {sl_write_scan : Array (Option Value)} {oc_write_scan kV_write_scan dc_write_scan pm_write_scan cd_write_scan ct_write_scan : Value}
    {od_write_row an_write_row : Option Addr} {sl_write_row : Array (Option Value)} {oc_write_row kV_write_row dc_write_row pm_write_row cd_write_row ct_write_row : Value}
    {od_read_picture an_read_picture : Option Addr} {sl_read_picture : Array (Option Value)} {oc_read_picture kV_read_picture dc_read_picture pm_read_picture cd_read_picture ct_read_picture : Value}
    {od_read_row an_read_row : Option Addr} {sl_read_row : Array (Option Value)} {oc_read_row kV_read_row dc_read_row pm_read_row cd_read_row ct_read_row : Value}
    {od_read_item an_read_item : Option Addr} {sl_read_item : Array (Option Value)} {oc_read_item kV_read_item dc_read_item pm_read_item cd_read_item ct_read_item : Value}
    {od_item_length an_item_length : Option Addr} {sl_item_length : Array (Option Value)} {oc_item_length kV_item_length dc_item_length pm_item_length cd_item_length ct_item_length : Value}
    {od_write_row_2 an_write_row_2 : Option Addr} {sl_write_row_2 : Array (Option Value)} {oc_write_row_2 kV_write_row_2 dc_write_row_2 pm_write_row_2 cd_write_row_2 ct_write_row_2 : Value}
    {od_greys_end an_greys_end : Option Addr} {sl_greys_end : Array (Option Value)} {oc_greys_end kV_greys_end dc_greys_end pm_greys_end cd_greys_end ct_greys_end : Value}
    {od_Window_init an_Window_init : Option Addr} {sl_Window_init : Array (Option Value)} {oc_Window_init kV_Window_init dc_Window_init pm_Window_init cd_Window_init ct_Window_init : Value}
    {od_Rule_init an_Rule_init : Option Addr} {sl_Rule_init : Array (Option Value)} {oc_Rule_init kV_Rule_init dc_Rule_init pm_Rule_init cd_Rule_init ct_Rule_init : Value}
    {od_Rule_is_so an_Rule_is_so : Option Addr} {sl_Rule_is_so : Array (Option Value)} {oc_Rule_is_so kV_Rule_is_so dc_Rule_is_so pm_Rule_is_so cd_Rule_is_so ct_Rule_is_so : Value}
    {od_Rule_kind_of an_Rule_kind_of : Option Addr} {sl_Rule_kind_of : Array (Option Value)} {oc_Rule_kind_of kV_Rule_kind_of dc_Rule_kind_of pm_Rule_kind_of cd_Rule_kind_of ct_Rule_kind_of : Value}
    {od_Sums_init an_Sums_init : Option Addr} {sl_Sums_init : Array (Option Value)} {oc_Sums_init kV_Sums_init dc_Sums_init pm_Sums_init cd_Sums_init ct_Sums_init : Value}
    {od_Sums_window_of an_Sums_window_of : Option Addr} {sl_Sums_window_of : Array (Option Value)} {oc_Sums_window_of kV_Sums_window_of dc_Sums_window_of pm_Sums_window_of cd_Sums_window_of ct_Sums_window_of : Value}
    {od_corner_sums an_corner_sums : Option Addr} {sl_corner_sums : Array (Option Value)} {oc_corner_sums kV_corner_sums dc_corner_sums pm_corner_sums cd_corner_sums ct_corner_sums : Value}
    {od_tell_rows an_tell_rows : Option Addr} {sl_tell_rows : Array (Option Value)} {oc_tell_rows kV_tell_rows dc_tell_rows pm_tell_rows cd_tell_rows ct_tell_rows : Value}
    {od_tell_row an_tell_row : Option Addr} {sl_tell_row : Array (Option Value)} {oc_tell_row kV_tell_row dc_tell_row pm_tell_row cd_tell_row ct_tell_row : Value}
    {od_tell an_tell : Option Addr} {sl_tell : Array (Option Value)} {oc_tell kV_tell dc_tell pm_tell cd_tell ct_tell : Value}
    {od_form_refused an_form_refused : Option Addr} {sl_form_refused : Array (Option Value)} {oc_form_refused kV_form_refused dc_form_refused pm_form_refused cd_form_refused ct_form_refused : Value}
    {od_row_answer an_row_answer : Option Addr} {sl_row_answer : Array (Option Value)} {oc_row_answer kV_row_answer dc_row_answer pm_row_answer cd_row_answer ct_row_answer : Value}
    (g_FormFault : PySem.W.nsIn K mainGlobals "FormFault" = some (some (.ref C_FormFault)))
    (kc_FormFault : PySem.W.keepIn K (.ref C_FormFault) = true)
    (g_Reader : PySem.W.nsIn K mainGlobals "Reader" = some (some (.ref C_Reader)))
    (kc_Reader : PySem.W.keepIn K (.ref C_Reader) = true)
    (g_Window : PySem.W.nsIn K mainGlobals "Window" = some (some (.ref C_Window)))
    (kc_Window : PySem.W.keepIn K (.ref C_Window) = true)
    (g_Rule : PySem.W.nsIn K mainGlobals "Rule" = some (some (.ref C_Rule)))
    (kc_Rule : PySem.W.keepIn K (.ref C_Rule) = true)
    (g_Sums : PySem.W.nsIn K mainGlobals "Sums" = some (some (.ref C_Sums)))
    (kc_Sums : PySem.W.keepIn K (.ref C_Sums) = true)
    (a_read_mark_ : PySem.W.nsIn K mainGlobals "read_mark" = some (some (.ref f_read_mark)))
    (a_is_side_ : PySem.W.nsIn K mainGlobals "is_side" = some (some (.ref f_is_side)))
    (a_is_size_ : PySem.W.nsIn K mainGlobals "is_size" = some (some (.ref f_is_size)))
    (a_read_width_ : PySem.W.nsIn K mainGlobals "read_width" = some (some (.ref f_read_width)))
    (a_read_height_ : PySem.W.nsIn K mainGlobals "read_height" = some (some (.ref f_read_height)))
    (a_read_rows_ : PySem.W.nsIn K mainGlobals "read_rows" = some (some (.ref f_read_rows)))
    (a_write_rows_ : PySem.W.nsIn K mainGlobals "write_rows" = some (some (.ref f_write_rows)))
    (a_number_bytes_ : PySem.W.nsIn K mainGlobals "number_bytes" = some (some (.ref f_number_bytes)))
    (a_count_same_ : PySem.W.nsIn K mainGlobals "count_same" = some (some (.ref f_count_same)))
    (a_write_scan_ : PySem.W.nsIn K mainGlobals "write_scan" = some (some (.ref f_write_scan)))
    (a_write_row_ : PySem.W.nsIn K mainGlobals "write_row" = some (some (.ref f_write_row_2)))
    (a_write_row_scan_ : PySem.W.nsIn K mainGlobals "write_row_scan" = some (some (.ref f_write_row)))
    (a_read_picture_ : PySem.W.nsIn K mainGlobals "read_picture" = some (some (.ref f_read_picture)))
    (a_read_row_ : PySem.W.nsIn K mainGlobals "read_row" = some (some (.ref f_read_row)))
    (a_read_item_ : PySem.W.nsIn K mainGlobals "read_item" = some (some (.ref f_read_item)))
    (a_item_length_ : PySem.W.nsIn K mainGlobals "item_length" = some (some (.ref f_item_length)))
    (a_write_row_picture_ : PySem.W.nsIn K mainGlobals "write_row_picture" = some (some (.ref f_write_row_2)))
    (a_greys_end_ : PySem.W.nsIn K mainGlobals "greys_end" = some (some (.ref f_greys_end)))
    (a_corner_sums_ : PySem.W.nsIn K mainGlobals "corner_sums" = some (some (.ref f_corner_sums)))
    (a_tell_rows_ : PySem.W.nsIn K mainGlobals "tell_rows" = some (some (.ref f_tell_rows)))
    (a_tell_row_ : PySem.W.nsIn K mainGlobals "tell_row" = some (some (.ref f_tell_row)))
    (a_tell_ : PySem.W.nsIn K mainGlobals "tell" = some (some (.ref f_tell)))
    (a_form_refused_ : PySem.W.nsIn K mainGlobals "form_refused" = some (some (.ref f_form_refused)))
    (a_row_answer_ : PySem.W.nsIn K mainGlobals "row_answer" = some (some (.ref f_row_answer)))
    (a_Reader_init_ : PySem.W.findIn K (.ref C_Reader) "__init__" = some (some (.ref f_Reader_init)))
    (i_Reader_init : PySem.W.isFn K (.ref f_Reader_init) = true)
    (a_Reader_at_end_ : PySem.W.findIn K (.ref C_Reader) "at_end" = some (some (.ref f_Reader_at_end)))
    (i_Reader_at_end : PySem.W.isFn K (.ref f_Reader_at_end) = true)
    (a_Reader_look_ : PySem.W.findIn K (.ref C_Reader) "look" = some (some (.ref f_Reader_look)))
    (i_Reader_look : PySem.W.isFn K (.ref f_Reader_look) = true)
    (a_Reader_take_ : PySem.W.findIn K (.ref C_Reader) "take" = some (some (.ref f_Reader_take)))
    (i_Reader_take : PySem.W.isFn K (.ref f_Reader_take) = true)
    (a_Reader_take_number_ : PySem.W.findIn K (.ref C_Reader) "take_number" = some (some (.ref f_Reader_take_number)))
    (i_Reader_take_number : PySem.W.isFn K (.ref f_Reader_take_number) = true)
    (a_Reader_taken_from_ : PySem.W.findIn K (.ref C_Reader) "taken_from" = some (some (.ref f_Reader_taken_from)))
    (i_Reader_taken_from : PySem.W.isFn K (.ref f_Reader_taken_from) = true)
    (a_Window_init_ : PySem.W.findIn K (.ref C_Window) "__init__" = some (some (.ref f_Window_init)))
    (i_Window_init : PySem.W.isFn K (.ref f_Window_init) = true)
    (a_Rule_init_ : PySem.W.findIn K (.ref C_Rule) "__init__" = some (some (.ref f_Rule_init)))
    (i_Rule_init : PySem.W.isFn K (.ref f_Rule_init) = true)
    (a_Rule_is_so_ : PySem.W.findIn K (.ref C_Rule) "is_so" = some (some (.ref f_Rule_is_so)))
    (i_Rule_is_so : PySem.W.isFn K (.ref f_Rule_is_so) = true)
    (a_Rule_kind_of_ : PySem.W.findIn K (.ref C_Rule) "kind_of" = some (some (.ref f_Rule_kind_of)))
    (i_Rule_kind_of : PySem.W.isFn K (.ref f_Rule_kind_of) = true)
    (a_Sums_init_ : PySem.W.findIn K (.ref C_Sums) "__init__" = some (some (.ref f_Sums_init)))
    (i_Sums_init : PySem.W.isFn K (.ref f_Sums_init) = true)
    (a_Sums_window_of_ : PySem.W.findIn K (.ref C_Sums) "window_of" = some (some (.ref f_Sums_window_of)))
    (i_Sums_window_of : PySem.W.isFn K (.ref f_Sums_window_of) = true)
    (xi_FormFault : PySem.W.findIn K (.ref C_FormFault) "__init__" = some (some (.ref f_FormFault_init)))
    (x_FormFault : excInit K C_FormFault f_FormFault_init = true)
    (xf_FormFault : PySem.W.typeIn K (.ref f_FormFault_init) = some (.type "function"))
    (no_FormFault_rule : noX K C_FormFault "rule" = true)
    (no_FormFault_place : noX K C_FormFault "place" = true)
    (pg_Reader : PySem.W.plainGet K C_Reader Str.empty = true)
    (hd_Reader : PySem.W.hasDictIn K C_Reader = true)
    (po_Reader : PySem.W.plainOver K C_Reader = true)
    (sa_Reader : PySem.W.findIn K (.ref C_Reader) "__setattr__" = some (some (.builtin "object.__setattr__")))
    (mk_Reader : PySem.W.makesIn K C_Reader = true)
    (no_Reader_data : PySem.W.findIn K (.ref C_Reader) "data" = some none)
    (no_Reader_place : PySem.W.findIn K (.ref C_Reader) "place" = some none)
    (pg_Window : PySem.W.plainGet K C_Window Str.empty = true)
    (hd_Window : PySem.W.hasDictIn K C_Window = true)
    (po_Window : PySem.W.plainOver K C_Window = true)
    (sa_Window : PySem.W.findIn K (.ref C_Window) "__setattr__" = some (some (.builtin "object.__setattr__")))
    (mk_Window : PySem.W.makesIn K C_Window = true)
    (no_Window_size : PySem.W.findIn K (.ref C_Window) "size" = some none)
    (no_Window_total : PySem.W.findIn K (.ref C_Window) "total" = some none)
    (pg_Rule : PySem.W.plainGet K C_Rule Str.empty = true)
    (hd_Rule : PySem.W.hasDictIn K C_Rule = true)
    (po_Rule : PySem.W.plainOver K C_Rule = true)
    (sa_Rule : PySem.W.findIn K (.ref C_Rule) "__setattr__" = some (some (.builtin "object.__setattr__")))
    (mk_Rule : PySem.W.makesIn K C_Rule = true)
    (no_Rule_radius : PySem.W.findIn K (.ref C_Rule) "radius" = some none)
    (no_Rule_dark : PySem.W.findIn K (.ref C_Rule) "dark" = some none)
    (no_Rule_light : PySem.W.findIn K (.ref C_Rule) "light" = some none)
    (no_Rule_below : PySem.W.findIn K (.ref C_Rule) "below" = some none)
    (no_Rule_near : PySem.W.findIn K (.ref C_Rule) "near" = some none)
    (pg_Sums : PySem.W.plainGet K C_Sums Str.empty = true)
    (hd_Sums : PySem.W.hasDictIn K C_Sums = true)
    (po_Sums : PySem.W.plainOver K C_Sums = true)
    (sa_Sums : PySem.W.findIn K (.ref C_Sums) "__setattr__" = some (some (.builtin "object.__setattr__")))
    (mk_Sums : PySem.W.makesIn K C_Sums = true)
    (no_Sums_width : PySem.W.findIn K (.ref C_Sums) "width" = some none)
    (no_Sums_height : PySem.W.findIn K (.ref C_Sums) "height" = some none)
    (no_Sums_corners : PySem.W.findIn K (.ref C_Sums) "corners" = some none)
    (l_FormFault_init : K.lookup f_FormFault_init = some ⟨oc_FormFault_init, od_FormFault_init, .func (PySem.W.fnOf "__init__" "FormFault.__init__" (defArgs s_FormFault_init) (defBody s_FormFault_init) (defScope s_FormFault_init) .none kV_FormFault_init dc_FormFault_init pm_FormFault_init an_FormFault_init cd_FormFault_init ct_FormFault_init), sl_FormFault_init⟩)
    (c_FormFault_init : PySem.W.codeIn K cd_FormFault_init "FormFault.__init__" = true)
    (k_FormFault_init : PySem.W.keepIn K (.ref f_FormFault_init) = true)
    (l_Reader_init : K.lookup f_Reader_init = some ⟨oc_Reader_init, od_Reader_init, .func (PySem.W.fnOf "__init__" "Reader.__init__" (defArgs s_Reader_init) (defBody s_Reader_init) (defScope s_Reader_init) .none kV_Reader_init dc_Reader_init pm_Reader_init an_Reader_init cd_Reader_init ct_Reader_init), sl_Reader_init⟩)
    (c_Reader_init : PySem.W.codeIn K cd_Reader_init "Reader.__init__" = true)
    (k_Reader_init : PySem.W.keepIn K (.ref f_Reader_init) = true)
    (l_Reader_at_end : K.lookup f_Reader_at_end = some ⟨oc_Reader_at_end, od_Reader_at_end, .func (PySem.W.fnOf "at_end" "Reader.at_end" (defArgs s_Reader_at_end) (defBody s_Reader_at_end) (defScope s_Reader_at_end) .none kV_Reader_at_end dc_Reader_at_end pm_Reader_at_end an_Reader_at_end cd_Reader_at_end ct_Reader_at_end), sl_Reader_at_end⟩)
    (c_Reader_at_end : PySem.W.codeIn K cd_Reader_at_end "Reader.at_end" = true)
    (k_Reader_at_end : PySem.W.keepIn K (.ref f_Reader_at_end) = true)
    (l_Reader_look : K.lookup f_Reader_look = some ⟨oc_Reader_look, od_Reader_look, .func (PySem.W.fnOf "look" "Reader.look" (defArgs s_Reader_look) (defBody s_Reader_look) (defScope s_Reader_look) .none kV_Reader_look dc_Reader_look pm_Reader_look an_Reader_look cd_Reader_look ct_Reader_look), sl_Reader_look⟩)
    (c_Reader_look : PySem.W.codeIn K cd_Reader_look "Reader.look" = true)
    (k_Reader_look : PySem.W.keepIn K (.ref f_Reader_look) = true)
    (l_Reader_take : K.lookup f_Reader_take = some ⟨oc_Reader_take, od_Reader_take, .func (PySem.W.fnOf "take" "Reader.take" (defArgs s_Reader_take) (defBody s_Reader_take) (defScope s_Reader_take) .none kV_Reader_take dc_Reader_take pm_Reader_take an_Reader_take cd_Reader_take ct_Reader_take), sl_Reader_take⟩)
    (c_Reader_take : PySem.W.codeIn K cd_Reader_take "Reader.take" = true)
    (k_Reader_take : PySem.W.keepIn K (.ref f_Reader_take) = true)
    (l_Reader_take_number : K.lookup f_Reader_take_number = some ⟨oc_Reader_take_number, od_Reader_take_number, .func (PySem.W.fnOf "take_number" "Reader.take_number" (defArgs s_Reader_take_number) (defBody s_Reader_take_number) (defScope s_Reader_take_number) .none kV_Reader_take_number dc_Reader_take_number pm_Reader_take_number an_Reader_take_number cd_Reader_take_number ct_Reader_take_number), sl_Reader_take_number⟩)
    (c_Reader_take_number : PySem.W.codeIn K cd_Reader_take_number "Reader.take_number" = true)
    (k_Reader_take_number : PySem.W.keepIn K (.ref f_Reader_take_number) = true)
    (l_Reader_taken_from : K.lookup f_Reader_taken_from = some ⟨oc_Reader_taken_from, od_Reader_taken_from, .func (PySem.W.fnOf "taken_from" "Reader.taken_from" (defArgs s_Reader_taken_from) (defBody s_Reader_taken_from) (defScope s_Reader_taken_from) .none kV_Reader_taken_from dc_Reader_taken_from pm_Reader_taken_from an_Reader_taken_from cd_Reader_taken_from ct_Reader_taken_from), sl_Reader_taken_from⟩)
    (c_Reader_taken_from : PySem.W.codeIn K cd_Reader_taken_from "Reader.taken_from" = true)
    (k_Reader_taken_from : PySem.W.keepIn K (.ref f_Reader_taken_from) = true)
    (l_read_mark : K.lookup f_read_mark = some ⟨oc_read_mark, od_read_mark, .func (PySem.W.fnOf "read_mark" "read_mark" (defArgs s_read_mark) (defBody s_read_mark) (defScope s_read_mark) .none kV_read_mark dc_read_mark pm_read_mark an_read_mark cd_read_mark ct_read_mark), sl_read_mark⟩)
    (c_read_mark : PySem.W.codeIn K cd_read_mark "read_mark" = true)
    (k_read_mark : PySem.W.keepIn K (.ref f_read_mark) = true)
    (l_is_side : K.lookup f_is_side = some ⟨oc_is_side, od_is_side, .func (PySem.W.fnOf "is_side" "is_side" (defArgs s_is_side) (defBody s_is_side) (defScope s_is_side) .none kV_is_side dc_is_side pm_is_side an_is_side cd_is_side ct_is_side), sl_is_side⟩)
    (c_is_side : PySem.W.codeIn K cd_is_side "is_side" = true)
    (k_is_side : PySem.W.keepIn K (.ref f_is_side) = true)
    (l_is_size : K.lookup f_is_size = some ⟨oc_is_size, od_is_size, .func (PySem.W.fnOf "is_size" "is_size" (defArgs s_is_size) (defBody s_is_size) (defScope s_is_size) .none kV_is_size dc_is_size pm_is_size an_is_size cd_is_size ct_is_size), sl_is_size⟩)
    (c_is_size : PySem.W.codeIn K cd_is_size "is_size" = true)
    (k_is_size : PySem.W.keepIn K (.ref f_is_size) = true)
    (l_read_width : K.lookup f_read_width = some ⟨oc_read_width, od_read_width, .func (PySem.W.fnOf "read_width" "read_width" (defArgs s_read_width) (defBody s_read_width) (defScope s_read_width) .none kV_read_width dc_read_width pm_read_width an_read_width cd_read_width ct_read_width), sl_read_width⟩)
    (c_read_width : PySem.W.codeIn K cd_read_width "read_width" = true)
    (k_read_width : PySem.W.keepIn K (.ref f_read_width) = true)
    (l_read_height : K.lookup f_read_height = some ⟨oc_read_height, od_read_height, .func (PySem.W.fnOf "read_height" "read_height" (defArgs s_read_height) (defBody s_read_height) (defScope s_read_height) .none kV_read_height dc_read_height pm_read_height an_read_height cd_read_height ct_read_height), sl_read_height⟩)
    (c_read_height : PySem.W.codeIn K cd_read_height "read_height" = true)
    (k_read_height : PySem.W.keepIn K (.ref f_read_height) = true)
    (l_read_rows : K.lookup f_read_rows = some ⟨oc_read_rows, od_read_rows, .func (PySem.W.fnOf "read_rows" "read_rows" (defArgs s_read_rows) (defBody s_read_rows) (defScope s_read_rows) .none kV_read_rows dc_read_rows pm_read_rows an_read_rows cd_read_rows ct_read_rows), sl_read_rows⟩)
    (c_read_rows : PySem.W.codeIn K cd_read_rows "read_rows" = true)
    (k_read_rows : PySem.W.keepIn K (.ref f_read_rows) = true)
    (l_write_rows : K.lookup f_write_rows = some ⟨oc_write_rows, od_write_rows, .func (PySem.W.fnOf "write_rows" "write_rows" (defArgs s_write_rows) (defBody s_write_rows) (defScope s_write_rows) .none kV_write_rows dc_write_rows pm_write_rows an_write_rows cd_write_rows ct_write_rows), sl_write_rows⟩)
    (c_write_rows : PySem.W.codeIn K cd_write_rows "write_rows" = true)
    (k_write_rows : PySem.W.keepIn K (.ref f_write_rows) = true)
    (l_number_bytes : K.lookup f_number_bytes = some ⟨oc_number_bytes, od_number_bytes, .func (PySem.W.fnOf "number_bytes" "number_bytes" (defArgs s_number_bytes) (defBody s_number_bytes) (defScope s_number_bytes) .none kV_number_bytes dc_number_bytes pm_number_bytes an_number_bytes cd_number_bytes ct_number_bytes), sl_number_bytes⟩)
    (c_number_bytes : PySem.W.codeIn K cd_number_bytes "number_bytes" = true)
    (k_number_bytes : PySem.W.keepIn K (.ref f_number_bytes) = true)
    (l_count_same : K.lookup f_count_same = some ⟨oc_count_same, od_count_same, .func (PySem.W.fnOf "count_same" "count_same" (defArgs s_count_same) (defBody s_count_same) (defScope s_count_same) .none kV_count_same dc_count_same pm_count_same an_count_same cd_count_same ct_count_same), sl_count_same⟩)
    (c_count_same : PySem.W.codeIn K cd_count_same "count_same" = true)
    (k_count_same : PySem.W.keepIn K (.ref f_count_same) = true)
    (l_write_scan : K.lookup f_write_scan = some ⟨oc_write_scan, od_write_scan, .func (PySem.W.fnOf "write_scan" "write_scan" (defArgs s_write_scan) (defBody s_write_scan) (defScope s_write_scan) .none kV_write_scan dc_write_scan pm_write_scan an_write_scan cd_write_scan ct_write_scan), sl_write_scan⟩)
    (c_write_scan : PySem.W.codeIn K cd_write_scan "write_scan" = true)
    (k_write_scan : PySem.W.keepIn K (.ref f_write_scan) = true)
    (l_write_row : K.lookup f_write_row = some ⟨oc_write_row, od_write_row, .func (PySem.W.fnOf "write_row" "write_row" (defArgs s_write_row) (defBody s_write_row) (defScope s_write_row) .none kV_write_row dc_write_row pm_write_row an_write_row cd_write_row ct_write_row), sl_write_row⟩)
    (c_write_row : PySem.W.codeIn K cd_write_row "write_row" = true)
    (k_write_row : PySem.W.keepIn K (.ref f_write_row) = true)
    (l_read_picture : K.lookup f_read_picture = some ⟨oc_read_picture, od_read_picture, .func (PySem.W.fnOf "read_picture" "read_picture" (defArgs s_read_picture) (defBody s_read_picture) (defScope s_read_picture) .none kV_read_picture dc_read_picture pm_read_picture an_read_picture cd_read_picture ct_read_picture), sl_read_picture⟩)
    (c_read_picture : PySem.W.codeIn K cd_read_picture "read_picture" = true)
    (k_read_picture : PySem.W.keepIn K (.ref f_read_picture) = true)
    (l_read_row : K.lookup f_read_row = some ⟨oc_read_row, od_read_row, .func (PySem.W.fnOf "read_row" "read_row" (defArgs s_read_row) (defBody s_read_row) (defScope s_read_row) .none kV_read_row dc_read_row pm_read_row an_read_row cd_read_row ct_read_row), sl_read_row⟩)
    (c_read_row : PySem.W.codeIn K cd_read_row "read_row" = true)
    (k_read_row : PySem.W.keepIn K (.ref f_read_row) = true)
    (l_read_item : K.lookup f_read_item = some ⟨oc_read_item, od_read_item, .func (PySem.W.fnOf "read_item" "read_item" (defArgs s_read_item) (defBody s_read_item) (defScope s_read_item) .none kV_read_item dc_read_item pm_read_item an_read_item cd_read_item ct_read_item), sl_read_item⟩)
    (c_read_item : PySem.W.codeIn K cd_read_item "read_item" = true)
    (k_read_item : PySem.W.keepIn K (.ref f_read_item) = true)
    (l_item_length : K.lookup f_item_length = some ⟨oc_item_length, od_item_length, .func (PySem.W.fnOf "item_length" "item_length" (defArgs s_item_length) (defBody s_item_length) (defScope s_item_length) .none kV_item_length dc_item_length pm_item_length an_item_length cd_item_length ct_item_length), sl_item_length⟩)
    (c_item_length : PySem.W.codeIn K cd_item_length "item_length" = true)
    (k_item_length : PySem.W.keepIn K (.ref f_item_length) = true)
    (l_write_row_2 : K.lookup f_write_row_2 = some ⟨oc_write_row_2, od_write_row_2, .func (PySem.W.fnOf "write_row" "write_row" (defArgs s_write_row_2) (defBody s_write_row_2) (defScope s_write_row_2) .none kV_write_row_2 dc_write_row_2 pm_write_row_2 an_write_row_2 cd_write_row_2 ct_write_row_2), sl_write_row_2⟩)
    (c_write_row_2 : PySem.W.codeIn K cd_write_row_2 "write_row" = true)
    (k_write_row_2 : PySem.W.keepIn K (.ref f_write_row_2) = true)
    (l_greys_end : K.lookup f_greys_end = some ⟨oc_greys_end, od_greys_end, .func (PySem.W.fnOf "greys_end" "greys_end" (defArgs s_greys_end) (defBody s_greys_end) (defScope s_greys_end) .none kV_greys_end dc_greys_end pm_greys_end an_greys_end cd_greys_end ct_greys_end), sl_greys_end⟩)
    (c_greys_end : PySem.W.codeIn K cd_greys_end "greys_end" = true)
    (k_greys_end : PySem.W.keepIn K (.ref f_greys_end) = true)
    (l_Window_init : K.lookup f_Window_init = some ⟨oc_Window_init, od_Window_init, .func (PySem.W.fnOf "__init__" "Window.__init__" (defArgs s_Window_init) (defBody s_Window_init) (defScope s_Window_init) .none kV_Window_init dc_Window_init pm_Window_init an_Window_init cd_Window_init ct_Window_init), sl_Window_init⟩)
    (c_Window_init : PySem.W.codeIn K cd_Window_init "Window.__init__" = true)
    (k_Window_init : PySem.W.keepIn K (.ref f_Window_init) = true)
    (l_Rule_init : K.lookup f_Rule_init = some ⟨oc_Rule_init, od_Rule_init, .func (PySem.W.fnOf "__init__" "Rule.__init__" (defArgs s_Rule_init) (defBody s_Rule_init) (defScope s_Rule_init) .none kV_Rule_init dc_Rule_init pm_Rule_init an_Rule_init cd_Rule_init ct_Rule_init), sl_Rule_init⟩)
    (c_Rule_init : PySem.W.codeIn K cd_Rule_init "Rule.__init__" = true)
    (k_Rule_init : PySem.W.keepIn K (.ref f_Rule_init) = true)
    (l_Rule_is_so : K.lookup f_Rule_is_so = some ⟨oc_Rule_is_so, od_Rule_is_so, .func (PySem.W.fnOf "is_so" "Rule.is_so" (defArgs s_Rule_is_so) (defBody s_Rule_is_so) (defScope s_Rule_is_so) .none kV_Rule_is_so dc_Rule_is_so pm_Rule_is_so an_Rule_is_so cd_Rule_is_so ct_Rule_is_so), sl_Rule_is_so⟩)
    (c_Rule_is_so : PySem.W.codeIn K cd_Rule_is_so "Rule.is_so" = true)
    (k_Rule_is_so : PySem.W.keepIn K (.ref f_Rule_is_so) = true)
    (l_Rule_kind_of : K.lookup f_Rule_kind_of = some ⟨oc_Rule_kind_of, od_Rule_kind_of, .func (PySem.W.fnOf "kind_of" "Rule.kind_of" (defArgs s_Rule_kind_of) (defBody s_Rule_kind_of) (defScope s_Rule_kind_of) .none kV_Rule_kind_of dc_Rule_kind_of pm_Rule_kind_of an_Rule_kind_of cd_Rule_kind_of ct_Rule_kind_of), sl_Rule_kind_of⟩)
    (c_Rule_kind_of : PySem.W.codeIn K cd_Rule_kind_of "Rule.kind_of" = true)
    (k_Rule_kind_of : PySem.W.keepIn K (.ref f_Rule_kind_of) = true)
    (l_Sums_init : K.lookup f_Sums_init = some ⟨oc_Sums_init, od_Sums_init, .func (PySem.W.fnOf "__init__" "Sums.__init__" (defArgs s_Sums_init) (defBody s_Sums_init) (defScope s_Sums_init) .none kV_Sums_init dc_Sums_init pm_Sums_init an_Sums_init cd_Sums_init ct_Sums_init), sl_Sums_init⟩)
    (c_Sums_init : PySem.W.codeIn K cd_Sums_init "Sums.__init__" = true)
    (k_Sums_init : PySem.W.keepIn K (.ref f_Sums_init) = true)
    (l_Sums_window_of : K.lookup f_Sums_window_of = some ⟨oc_Sums_window_of, od_Sums_window_of, .func (PySem.W.fnOf "window_of" "Sums.window_of" (defArgs s_Sums_window_of) (defBody s_Sums_window_of) (defScope s_Sums_window_of) .none kV_Sums_window_of dc_Sums_window_of pm_Sums_window_of an_Sums_window_of cd_Sums_window_of ct_Sums_window_of), sl_Sums_window_of⟩)
    (c_Sums_window_of : PySem.W.codeIn K cd_Sums_window_of "Sums.window_of" = true)
    (k_Sums_window_of : PySem.W.keepIn K (.ref f_Sums_window_of) = true)
    (l_corner_sums : K.lookup f_corner_sums = some ⟨oc_corner_sums, od_corner_sums, .func (PySem.W.fnOf "corner_sums" "corner_sums" (defArgs s_corner_sums) (defBody s_corner_sums) (defScope s_corner_sums) .none kV_corner_sums dc_corner_sums pm_corner_sums an_corner_sums cd_corner_sums ct_corner_sums), sl_corner_sums⟩)
    (c_corner_sums : PySem.W.codeIn K cd_corner_sums "corner_sums" = true)
    (k_corner_sums : PySem.W.keepIn K (.ref f_corner_sums) = true)
    (l_tell_rows : K.lookup f_tell_rows = some ⟨oc_tell_rows, od_tell_rows, .func (PySem.W.fnOf "tell_rows" "tell_rows" (defArgs s_tell_rows) (defBody s_tell_rows) (defScope s_tell_rows) .none kV_tell_rows dc_tell_rows pm_tell_rows an_tell_rows cd_tell_rows ct_tell_rows), sl_tell_rows⟩)
    (c_tell_rows : PySem.W.codeIn K cd_tell_rows "tell_rows" = true)
    (k_tell_rows : PySem.W.keepIn K (.ref f_tell_rows) = true)
    (l_tell_row : K.lookup f_tell_row = some ⟨oc_tell_row, od_tell_row, .func (PySem.W.fnOf "tell_row" "tell_row" (defArgs s_tell_row) (defBody s_tell_row) (defScope s_tell_row) .none kV_tell_row dc_tell_row pm_tell_row an_tell_row cd_tell_row ct_tell_row), sl_tell_row⟩)
    (c_tell_row : PySem.W.codeIn K cd_tell_row "tell_row" = true)
    (k_tell_row : PySem.W.keepIn K (.ref f_tell_row) = true)
    (l_tell : K.lookup f_tell = some ⟨oc_tell, od_tell, .func (PySem.W.fnOf "tell" "tell" (defArgs s_tell) (defBody s_tell) (defScope s_tell) .none kV_tell dc_tell pm_tell an_tell cd_tell ct_tell), sl_tell⟩)
    (c_tell : PySem.W.codeIn K cd_tell "tell" = true)
    (k_tell : PySem.W.keepIn K (.ref f_tell) = true)
    (l_form_refused : K.lookup f_form_refused = some ⟨oc_form_refused, od_form_refused, .func (PySem.W.fnOf "form_refused" "form_refused" (defArgs s_form_refused) (defBody s_form_refused) (defScope s_form_refused) .none kV_form_refused dc_form_refused pm_form_refused an_form_refused cd_form_refused ct_form_refused), sl_form_refused⟩)
    (c_form_refused : PySem.W.codeIn K cd_form_refused "form_refused" = true)
    (k_form_refused : PySem.W.keepIn K (.ref f_form_refused) = true)
    (l_row_answer : K.lookup f_row_answer = some ⟨oc_row_answer, od_row_answer, .func (PySem.W.fnOf "row_answer" "row_answer" (defArgs s_row_answer) (defBody s_row_answer) (defScope s_row_answer) .none kV_row_answer dc_row_answer pm_row_answer an_row_answer cd_row_answer ct_row_answer), sl_row_answer⟩)
    (c_row_answer : PySem.W.codeIn K cd_row_answer "row_answer" = true)
    (k_row_answer : PySem.W.keepIn K (.ref f_row_answer) = true)
    {t_BYTES_BEHIND : _}    (n_BYTES_BEHIND : PySem.W.nsIn K mainGlobals "BYTES_BEHIND" = some (some (.int (7) t_BYTES_BEHIND)))
    {t_DONE : _}    (n_DONE : PySem.W.nsIn K mainGlobals "DONE" = some (some (.int (0) t_DONE)))
    {t_ENDS_EARLY : _}    (n_ENDS_EARLY : PySem.W.nsIn K mainGlobals "ENDS_EARLY" = some (some (.int (5) t_ENDS_EARLY)))
    {t_FIRST_FORM : _}    (n_FIRST_FORM : PySem.W.nsIn K mainGlobals "FIRST_FORM" = some (some (.int (0) t_FIRST_FORM)))
    {t_FIRST_OF_SAME : _}    (n_FIRST_OF_SAME : PySem.W.nsIn K mainGlobals "FIRST_OF_SAME" = some (some (.int (128) t_FIRST_OF_SAME)))
    {t_INK : _}    (n_INK : PySem.W.nsIn K mainGlobals "INK" = some (some (.int (1) t_INK)))
    {t_LEAST_SAME : _}    (n_LEAST_SAME : PySem.W.nsIn K mainGlobals "LEAST_SAME" = some (some (.int (3) t_LEAST_SAME)))
    {t_LONGEST_SIDE : _}    (n_LONGEST_SIDE : PySem.W.nsIn K mainGlobals "LONGEST_SIDE" = some (some (.int (8192) t_LONGEST_SIDE)))
    {t_MAY_NOT_BE : _}    (n_MAY_NOT_BE : PySem.W.nsIn K mainGlobals "MAY_NOT_BE" = some (some (.int (-1) t_MAY_NOT_BE)))
    {t_MOST_GREYS : _}    (n_MOST_GREYS : PySem.W.nsIn K mainGlobals "MOST_GREYS" = some (some (.int (128) t_MOST_GREYS)))
    {t_MOST_IN_RUN : _}    (n_MOST_IN_RUN : PySem.W.nsIn K mainGlobals "MOST_IN_RUN" = some (some (.int (64) t_MOST_IN_RUN)))
    {t_MOST_POINTS : _}    (n_MOST_POINTS : PySem.W.nsIn K mainGlobals "MOST_POINTS" = some (some (.int (16777216) t_MOST_POINTS)))
    {t_MOST_RADIUS : _}    (n_MOST_RADIUS : PySem.W.nsIn K mainGlobals "MOST_RADIUS" = some (some (.int (64) t_MOST_RADIUS)))
    {t_MOST_SAME : _}    (n_MOST_SAME : PySem.W.nsIn K mainGlobals "MOST_SAME" = some (some (.int (130) t_MOST_SAME)))
    {t_NOT_SUCH_A_FORM : _}    (n_NOT_SUCH_A_FORM : PySem.W.nsIn K mainGlobals "NOT_SUCH_A_FORM" = some (some (.int (-5) t_NOT_SUCH_A_FORM)))
    {t_NOT_THE_ONE_FORM : _}    (n_NOT_THE_ONE_FORM : PySem.W.nsIn K mainGlobals "NOT_THE_ONE_FORM" = some (some (.int (6) t_NOT_THE_ONE_FORM)))
    {t_PAPER : _}    (n_PAPER : PySem.W.nsIn K mainGlobals "PAPER" = some (some (.int (0) t_PAPER)))
    {t_ROW_ANEW : _}    (n_ROW_ANEW : PySem.W.nsIn K mainGlobals "ROW_ANEW" = some (some (.int (0) t_ROW_ANEW)))
    {t_ROW_AS_ABOVE_picture : _}    (n_ROW_AS_ABOVE_picture : PySem.W.nsIn K mainGlobals "ROW_AS_ABOVE_picture" = some (some (.int (1) t_ROW_AS_ABOVE_picture)))
    {t_ROW_AS_ABOVE_scan : _}    (n_ROW_AS_ABOVE_scan : PySem.W.nsIn K mainGlobals "ROW_AS_ABOVE_scan" = some (some (.int (255) t_ROW_AS_ABOVE_scan)))
    {t_TOO_MANY : _}    (n_TOO_MANY : PySem.W.nsIn K mainGlobals "TOO_MANY" = some (some (.int (4) t_TOO_MANY)))
    {t_UNCLEAR : _}    (n_UNCLEAR : PySem.W.nsIn K mainGlobals "UNCLEAR" = some (some (.int (2) t_UNCLEAR)))
    {t_WHITE : _}    (n_WHITE : PySem.W.nsIn K mainGlobals "WHITE" = some (some (.int (255) t_WHITE)))
    {t_WRONG_MARK : _}    (n_WRONG_MARK : PySem.W.nsIn K mainGlobals "WRONG_MARK" = some (some (.int (1) t_WRONG_MARK)))
    {t_WRONG_SIZE : _}    (n_WRONG_SIZE : PySem.W.nsIn K mainGlobals "WRONG_SIZE" = some (some (.int (2) t_WRONG_SIZE)))
    {t_WRONG_START : _}    (n_WRONG_START : PySem.W.nsIn K mainGlobals "WRONG_START" = some (some (.int (3) t_WRONG_START)))
    {t0_WEIGHTS t1_WEIGHTS t2_WEIGHTS t3_WEIGHTS : _} {od_WEIGHTS : Option Addr} {sl_WEIGHTS : Array (Option Value)} {z_WEIGHTS : Nat}    (n_WEIGHTS : PySem.W.nsIn K mainGlobals "WEIGHTS" = some (some (.ref a_WEIGHTS)))
    (l_WEIGHTS : K.lookup a_WEIGHTS = some ⟨.type "tuple", od_WEIGHTS, .seq #[.int (1) t0_WEIGHTS, .int (256) t1_WEIGHTS, .int (65536) t2_WEIGHTS, .int (16777216) t3_WEIGHTS] z_WEIGHTS, sl_WEIGHTS⟩)
    {t0_MARK_scan t1_MARK_scan t2_MARK_scan t3_MARK_scan : _} {od_MARK_scan : Option Addr} {sl_MARK_scan : Array (Option Value)} {z_MARK_scan : Nat}    (n_MARK_scan : PySem.W.nsIn K mainGlobals "MARK_scan" = some (some (.ref a_MARK_scan)))
    (l_MARK_scan : K.lookup a_MARK_scan = some ⟨.type "tuple", od_MARK_scan, .seq #[.int (83) t0_MARK_scan, .int (72) t1_MARK_scan, .int (84) t2_MARK_scan, .int (49) t3_MARK_scan] z_MARK_scan, sl_MARK_scan⟩)
    {t0_MARK_picture t1_MARK_picture t2_MARK_picture t3_MARK_picture : _} {od_MARK_picture : Option Addr} {sl_MARK_picture : Array (Option Value)} {z_MARK_picture : Nat}    (n_MARK_picture : PySem.W.nsIn K mainGlobals "MARK_picture" = some (some (.ref a_MARK_picture)))
    (l_MARK_picture : K.lookup a_MARK_picture = some ⟨.type "tuple", od_MARK_picture, .seq #[.int (83) t0_MARK_picture, .int (72) t1_MARK_picture, .int (71) t2_MARK_picture, .int (49) t3_MARK_picture] z_MARK_picture, sl_MARK_picture⟩)
    (n_len : PySem.W.nsIn K mainGlobals "len" = some none)
    (n_range : PySem.W.nsIn K mainGlobals "range" = some none)
    (n_list : PySem.W.nsIn K mainGlobals "list" = some none)
    (n_enumerate : PySem.W.nsIn K mainGlobals "enumerate" = some none)
    (n_max : PySem.W.nsIn K mainGlobals "max" = some none)
    (n_min : PySem.W.nsIn K mainGlobals "min" = some none)
    : ∃ fd : FuncData, (∀ (s : Shared) (us : List Value), us.length = (["r", "dark", "light", "below", "near", "picture"] : List Str).length → BindsTo s fd ⟨us, []⟩ ((["r", "dark", "light", "below", "near", "picture"] : List Str).zip us)) ∧ ∀ base : Heap, K.In base → base.Ns mainGlobals mg → FnOk P w K mg base (CXE P w) 9 fa fd ["r", "dark", "light", "below", "near", "picture"] (spTell K) := by
  have e := hfa.symm.trans (PySem.W.mg_of X G a_tell_)
  cases e
  have N_len := PySem.W.mg_none_of X G n_len
  have N_range := PySem.W.mg_none_of X G n_range
  have N_list := PySem.W.mg_none_of X G n_list
  have N_enumerate := PySem.W.mg_none_of X G n_enumerate
  have N_max := PySem.W.mg_none_of X G n_max
  have N_min := PySem.W.mg_none_of X G n_min
  have K_WRONG_MARK : Cst mg "WRONG_MARK" (1) := ⟨t_WRONG_MARK, PySem.W.mg_of X G n_WRONG_MARK⟩
  have K_WRONG_SIZE : Cst mg "WRONG_SIZE" (2) := ⟨t_WRONG_SIZE, PySem.W.mg_of X G n_WRONG_SIZE⟩
  have K_WRONG_START : Cst mg "WRONG_START" (3) := ⟨t_WRONG_START, PySem.W.mg_of X G n_WRONG_START⟩
  have K_TOO_MANY : Cst mg "TOO_MANY" (4) := ⟨t_TOO_MANY, PySem.W.mg_of X G n_TOO_MANY⟩
  have K_ENDS_EARLY : Cst mg "ENDS_EARLY" (5) := ⟨t_ENDS_EARLY, PySem.W.mg_of X G n_ENDS_EARLY⟩
  have K_NOT_THE_ONE_FORM : Cst mg "NOT_THE_ONE_FORM" (6) := ⟨t_NOT_THE_ONE_FORM, PySem.W.mg_of X G n_NOT_THE_ONE_FORM⟩
  have K_BYTES_BEHIND : Cst mg "BYTES_BEHIND" (7) := ⟨t_BYTES_BEHIND, PySem.W.mg_of X G n_BYTES_BEHIND⟩
  have K_LONGEST_SIDE : Cst mg "LONGEST_SIDE" (8192) := ⟨t_LONGEST_SIDE, PySem.W.mg_of X G n_LONGEST_SIDE⟩
  have K_MOST_POINTS : Cst mg "MOST_POINTS" (16777216) := ⟨t_MOST_POINTS, PySem.W.mg_of X G n_MOST_POINTS⟩
  have K_PAPER : Cst mg "PAPER" (0) := ⟨t_PAPER, PySem.W.mg_of X G n_PAPER⟩
  have K_INK : Cst mg "INK" (1) := ⟨t_INK, PySem.W.mg_of X G n_INK⟩
  have K_UNCLEAR : Cst mg "UNCLEAR" (2) := ⟨t_UNCLEAR, PySem.W.mg_of X G n_UNCLEAR⟩
  have K_ROW_AS_ABOVE_scan : Cst mg "ROW_AS_ABOVE_scan" (255) := ⟨t_ROW_AS_ABOVE_scan, PySem.W.mg_of X G n_ROW_AS_ABOVE_scan⟩
  have K_MOST_IN_RUN : Cst mg "MOST_IN_RUN" (64) := ⟨t_MOST_IN_RUN, PySem.W.mg_of X G n_MOST_IN_RUN⟩
  have K_ROW_ANEW : Cst mg "ROW_ANEW" (0) := ⟨t_ROW_ANEW, PySem.W.mg_of X G n_ROW_ANEW⟩
  have K_ROW_AS_ABOVE_picture : Cst mg "ROW_AS_ABOVE_picture" (1) := ⟨t_ROW_AS_ABOVE_picture, PySem.W.mg_of X G n_ROW_AS_ABOVE_picture⟩
  have K_FIRST_OF_SAME : Cst mg "FIRST_OF_SAME" (128) := ⟨t_FIRST_OF_SAME, PySem.W.mg_of X G n_FIRST_OF_SAME⟩
  have K_LEAST_SAME : Cst mg "LEAST_SAME" (3) := ⟨t_LEAST_SAME, PySem.W.mg_of X G n_LEAST_SAME⟩
  have K_MOST_SAME : Cst mg "MOST_SAME" (130) := ⟨t_MOST_SAME, PySem.W.mg_of X G n_MOST_SAME⟩
  have K_MOST_GREYS : Cst mg "MOST_GREYS" (128) := ⟨t_MOST_GREYS, PySem.W.mg_of X G n_MOST_GREYS⟩
  have K_MOST_RADIUS : Cst mg "MOST_RADIUS" (64) := ⟨t_MOST_RADIUS, PySem.W.mg_of X G n_MOST_RADIUS⟩
  have K_WHITE : Cst mg "WHITE" (255) := ⟨t_WHITE, PySem.W.mg_of X G n_WHITE⟩
  have K_DONE : Cst mg "DONE" (0) := ⟨t_DONE, PySem.W.mg_of X G n_DONE⟩
  have K_MAY_NOT_BE : Cst mg "MAY_NOT_BE" (-1) := ⟨t_MAY_NOT_BE, PySem.W.mg_of X G n_MAY_NOT_BE⟩
  have K_NOT_SUCH_A_FORM : Cst mg "NOT_SUCH_A_FORM" (-5) := ⟨t_NOT_SUCH_A_FORM, PySem.W.mg_of X G n_NOT_SUCH_A_FORM⟩
  have K_FIRST_FORM : Cst mg "FIRST_FORM" (0) := ⟨t_FIRST_FORM, PySem.W.mg_of X G n_FIRST_FORM⟩
  have K_WEIGHTS : CstT K mg "WEIGHTS" a_WEIGHTS [.int (1), .int (256), .int (65536), .int (16777216)] := ⟨PySem.W.mg_of X G n_WEIGHTS, fun H => .inr ⟨_, _, _, l_WEIGHTS, rfl, rfl, (by show 4 ≤ sizeLine; decide), .cons ⟨_, rfl⟩ (.cons ⟨_, rfl⟩ (.cons ⟨_, rfl⟩ (.cons ⟨_, rfl⟩ (.nil))))⟩⟩
  have K_MARK_scan : CstT K mg "MARK_scan" a_MARK_scan [.int (83), .int (72), .int (84), .int (49)] := ⟨PySem.W.mg_of X G n_MARK_scan, fun H => .inr ⟨_, _, _, l_MARK_scan, rfl, rfl, (by show 4 ≤ sizeLine; decide), .cons ⟨_, rfl⟩ (.cons ⟨_, rfl⟩ (.cons ⟨_, rfl⟩ (.cons ⟨_, rfl⟩ (.nil))))⟩⟩
  have K_MARK_picture : CstT K mg "MARK_picture" a_MARK_picture [.int (83), .int (72), .int (71), .int (49)] := ⟨PySem.W.mg_of X G n_MARK_picture, fun H => .inr ⟨_, _, _, l_MARK_picture, rfl, rfl, (by show 4 ≤ sizeLine; decide), .cons ⟨_, rfl⟩ (.cons ⟨_, rfl⟩ (.cons ⟨_, rfl⟩ (.cons ⟨_, rfl⟩ (.nil))))⟩⟩
  have F_FormFault_init := fun_mk (st := s_FormFault_init) l_FormFault_init c_FormFault_init k_FormFault_init
  have B_FormFault_init := F_FormFault_init.binds (ps := ["self", "rule", "place"]) fun _ _ _ _ _ _ us hl => by obtain ⟨a0, a1, a2, rfl⟩ := len3 (show us.length = 3 from hl); rfl
  have F_Reader_init := fun_mk (st := s_Reader_init) l_Reader_init c_Reader_init k_Reader_init
  have B_Reader_init := F_Reader_init.binds (ps := ["self", "data"]) fun _ _ _ _ _ _ us hl => by obtain ⟨a0, a1, rfl⟩ := len2 (show us.length = 2 from hl); rfl
  have D_Reader_init : Dm K C_Reader "__init__" f_Reader_init _ ["self", "data"] := ⟨⟨a_Reader_init_, i_Reader_init, k_Reader_init⟩, B_Reader_init⟩
  have F_Reader_at_end := fun_mk (st := s_Reader_at_end) l_Reader_at_end c_Reader_at_end k_Reader_at_end
  have B_Reader_at_end := F_Reader_at_end.binds (ps := ["self"]) fun _ _ _ _ _ _ us hl => by obtain ⟨a0, rfl⟩ := len1 (show us.length = 1 from hl); rfl
  have D_Reader_at_end : Dm K C_Reader "at_end" f_Reader_at_end _ ["self"] := ⟨⟨a_Reader_at_end_, i_Reader_at_end, k_Reader_at_end⟩, B_Reader_at_end⟩
  have F_Reader_look := fun_mk (st := s_Reader_look) l_Reader_look c_Reader_look k_Reader_look
  have B_Reader_look := F_Reader_look.binds (ps := ["self"]) fun _ _ _ _ _ _ us hl => by obtain ⟨a0, rfl⟩ := len1 (show us.length = 1 from hl); rfl
  have D_Reader_look : Dm K C_Reader "look" f_Reader_look _ ["self"] := ⟨⟨a_Reader_look_, i_Reader_look, k_Reader_look⟩, B_Reader_look⟩
  have F_Reader_take := fun_mk (st := s_Reader_take) l_Reader_take c_Reader_take k_Reader_take
  have B_Reader_take := F_Reader_take.binds (ps := ["self"]) fun _ _ _ _ _ _ us hl => by obtain ⟨a0, rfl⟩ := len1 (show us.length = 1 from hl); rfl
  have D_Reader_take : Dm K C_Reader "take" f_Reader_take _ ["self"] := ⟨⟨a_Reader_take_, i_Reader_take, k_Reader_take⟩, B_Reader_take⟩
  have F_Reader_take_number := fun_mk (st := s_Reader_take_number) l_Reader_take_number c_Reader_take_number k_Reader_take_number
  have B_Reader_take_number := F_Reader_take_number.binds (ps := ["self"]) fun _ _ _ _ _ _ us hl => by obtain ⟨a0, rfl⟩ := len1 (show us.length = 1 from hl); rfl
  have D_Reader_take_number : Dm K C_Reader "take_number" f_Reader_take_number _ ["self"] := ⟨⟨a_Reader_take_number_, i_Reader_take_number, k_Reader_take_number⟩, B_Reader_take_number⟩
  have F_Reader_taken_from := fun_mk (st := s_Reader_taken_from) l_Reader_taken_from c_Reader_taken_from k_Reader_taken_from
  have B_Reader_taken_from := F_Reader_taken_from.binds (ps := ["self", "start"]) fun _ _ _ _ _ _ us hl => by obtain ⟨a0, a1, rfl⟩ := len2 (show us.length = 2 from hl); rfl
  have D_Reader_taken_from : Dm K C_Reader "taken_from" f_Reader_taken_from _ ["self", "start"] := ⟨⟨a_Reader_taken_from_, i_Reader_taken_from, k_Reader_taken_from⟩, B_Reader_taken_from⟩
  have F_read_mark := fun_mk (st := s_read_mark) l_read_mark c_read_mark k_read_mark
  have B_read_mark := F_read_mark.binds (ps := ["reader", "mark"]) fun _ _ _ _ _ _ us hl => by obtain ⟨a0, a1, rfl⟩ := len2 (show us.length = 2 from hl); rfl
  have D_read_mark : Df K mg "read_mark" f_read_mark _ ["reader", "mark"] := ⟨PySem.W.mg_of X G a_read_mark_, k_read_mark, B_read_mark⟩
  have F_is_side := fun_mk (st := s_is_side) l_is_side c_is_side k_is_side
  have B_is_side := F_is_side.binds (ps := ["number"]) fun _ _ _ _ _ _ us hl => by obtain ⟨a0, rfl⟩ := len1 (show us.length = 1 from hl); rfl
  have D_is_side : Df K mg "is_side" f_is_side _ ["number"] := ⟨PySem.W.mg_of X G a_is_side_, k_is_side, B_is_side⟩
  have F_is_size := fun_mk (st := s_is_size) l_is_size c_is_size k_is_size
  have B_is_size := F_is_size.binds (ps := ["width", "height"]) fun _ _ _ _ _ _ us hl => by obtain ⟨a0, a1, rfl⟩ := len2 (show us.length = 2 from hl); rfl
  have D_is_size : Df K mg "is_size" f_is_size _ ["width", "height"] := ⟨PySem.W.mg_of X G a_is_size_, k_is_size, B_is_size⟩
  have F_read_width := fun_mk (st := s_read_width) l_read_width c_read_width k_read_width
  have B_read_width := F_read_width.binds (ps := ["reader"]) fun _ _ _ _ _ _ us hl => by obtain ⟨a0, rfl⟩ := len1 (show us.length = 1 from hl); rfl
  have D_read_width : Df K mg "read_width" f_read_width _ ["reader"] := ⟨PySem.W.mg_of X G a_read_width_, k_read_width, B_read_width⟩
  have F_read_height := fun_mk (st := s_read_height) l_read_height c_read_height k_read_height
  have B_read_height := F_read_height.binds (ps := ["reader", "width"]) fun _ _ _ _ _ _ us hl => by obtain ⟨a0, a1, rfl⟩ := len2 (show us.length = 2 from hl); rfl
  have D_read_height : Df K mg "read_height" f_read_height _ ["reader", "width"] := ⟨PySem.W.mg_of X G a_read_height_, k_read_height, B_read_height⟩
  have F_read_rows := fun_mk (st := s_read_rows) l_read_rows c_read_rows k_read_rows
  have B_read_rows := F_read_rows.binds (ps := ["data", "mark", "read_row", "write_row"]) fun _ _ _ _ _ _ us hl => by obtain ⟨a0, a1, a2, a3, rfl⟩ := len4 (show us.length = 4 from hl); rfl
  have D_read_rows : Df K mg "read_rows" f_read_rows _ ["data", "mark", "read_row", "write_row"] := ⟨PySem.W.mg_of X G a_read_rows_, k_read_rows, B_read_rows⟩
  have F_write_rows := fun_mk (st := s_write_rows) l_write_rows c_write_rows k_write_rows
  have B_write_rows := F_write_rows.binds (ps := ["rows", "mark", "write_row"]) fun _ _ _ _ _ _ us hl => by obtain ⟨a0, a1, a2, rfl⟩ := len3 (show us.length = 3 from hl); rfl
  have D_write_rows : Df K mg "write_rows" f_write_rows _ ["rows", "mark", "write_row"] := ⟨PySem.W.mg_of X G a_write_rows_, k_write_rows, B_write_rows⟩
  have F_number_bytes := fun_mk (st := s_number_bytes) l_number_bytes c_number_bytes k_number_bytes
  have B_number_bytes := F_number_bytes.binds (ps := ["number"]) fun _ _ _ _ _ _ us hl => by obtain ⟨a0, rfl⟩ := len1 (show us.length = 1 from hl); rfl
  have D_number_bytes : Df K mg "number_bytes" f_number_bytes _ ["number"] := ⟨PySem.W.mg_of X G a_number_bytes_, k_number_bytes, B_number_bytes⟩
  have F_count_same := fun_mk (st := s_count_same) l_count_same c_count_same k_count_same
  have B_count_same := F_count_same.binds (ps := ["row", "x", "most"]) fun _ _ _ _ _ _ us hl => by obtain ⟨a0, a1, a2, rfl⟩ := len3 (show us.length = 3 from hl); rfl
  have D_count_same : Df K mg "count_same" f_count_same _ ["row", "x", "most"] := ⟨PySem.W.mg_of X G a_count_same_, k_count_same, B_count_same⟩
  have F_write_scan := fun_mk (st := s_write_scan) l_write_scan c_write_scan k_write_scan
  have B_write_scan := F_write_scan.binds (ps := ["rows"]) fun _ _ _ _ _ _ us hl => by obtain ⟨a0, rfl⟩ := len1 (show us.length = 1 from hl); rfl
  have D_write_scan : Df K mg "write_scan" f_write_scan _ ["rows"] := ⟨PySem.W.mg_of X G a_write_scan_, k_write_scan, B_write_scan⟩
  have F_write_row := fun_mk (st := s_write_row) l_write_row c_write_row k_write_row
  have B_write_row := F_write_row.binds (ps := ["row", "above"]) fun _ _ _ _ _ _ us hl => by obtain ⟨a0, a1, rfl⟩ := len2 (show us.length = 2 from hl); rfl
  have D_write_row_scan : Df K mg "write_row_scan" f_write_row _ ["row", "above"] := ⟨PySem.W.mg_of X G a_write_row_scan_, k_write_row, B_write_row⟩
  have F_read_picture := fun_mk (st := s_read_picture) l_read_picture c_read_picture k_read_picture
  have B_read_picture := F_read_picture.binds (ps := ["data"]) fun _ _ _ _ _ _ us hl => by obtain ⟨a0, rfl⟩ := len1 (show us.length = 1 from hl); rfl
  have D_read_picture : Df K mg "read_picture" f_read_picture _ ["data"] := ⟨PySem.W.mg_of X G a_read_picture_, k_read_picture, B_read_picture⟩
  have F_read_row := fun_mk (st := s_read_row) l_read_row c_read_row k_read_row
  have B_read_row := F_read_row.binds (ps := ["reader", "width", "above"]) fun _ _ _ _ _ _ us hl => by obtain ⟨a0, a1, a2, rfl⟩ := len3 (show us.length = 3 from hl); rfl
  have D_read_row : Df K mg "read_row" f_read_row _ ["reader", "width", "above"] := ⟨PySem.W.mg_of X G a_read_row_, k_read_row, B_read_row⟩
  have F_read_item := fun_mk (st := s_read_item) l_read_item c_read_item k_read_item
  have B_read_item := F_read_item.binds (ps := ["reader", "left"]) fun _ _ _ _ _ _ us hl => by obtain ⟨a0, a1, rfl⟩ := len2 (show us.length = 2 from hl); rfl
  have D_read_item : Df K mg "read_item" f_read_item _ ["reader", "left"] := ⟨PySem.W.mg_of X G a_read_item_, k_read_item, B_read_item⟩
  have F_item_length := fun_mk (st := s_item_length) l_item_length c_item_length k_item_length
  have B_item_length := F_item_length.binds (ps := ["first"]) fun _ _ _ _ _ _ us hl => by obtain ⟨a0, rfl⟩ := len1 (show us.length = 1 from hl); rfl
  have D_item_length : Df K mg "item_length" f_item_length _ ["first"] := ⟨PySem.W.mg_of X G a_item_length_, k_item_length, B_item_length⟩
  have F_write_row_2 := fun_mk (st := s_write_row_2) l_write_row_2 c_write_row_2 k_write_row_2
  have B_write_row_2 := F_write_row_2.binds (ps := ["row", "above"]) fun _ _ _ _ _ _ us hl => by obtain ⟨a0, a1, rfl⟩ := len2 (show us.length = 2 from hl); rfl
  have D_write_row : Df K mg "write_row" f_write_row_2 _ ["row", "above"] := ⟨PySem.W.mg_of X G a_write_row_, k_write_row_2, B_write_row_2⟩
  have D_write_row_picture : Df K mg "write_row_picture" f_write_row_2 _ ["row", "above"] := ⟨PySem.W.mg_of X G a_write_row_picture_, k_write_row_2, B_write_row_2⟩
  have F_greys_end := fun_mk (st := s_greys_end) l_greys_end c_greys_end k_greys_end
  have B_greys_end := F_greys_end.binds (ps := ["row", "x"]) fun _ _ _ _ _ _ us hl => by obtain ⟨a0, a1, rfl⟩ := len2 (show us.length = 2 from hl); rfl
  have D_greys_end : Df K mg "greys_end" f_greys_end _ ["row", "x"] := ⟨PySem.W.mg_of X G a_greys_end_, k_greys_end, B_greys_end⟩
  have F_Window_init := fun_mk (st := s_Window_init) l_Window_init c_Window_init k_Window_init
  have B_Window_init := F_Window_init.binds (ps := ["self", "size", "total"]) fun _ _ _ _ _ _ us hl => by obtain ⟨a0, a1, a2, rfl⟩ := len3 (show us.length = 3 from hl); rfl
  have D_Window_init : Dm K C_Window "__init__" f_Window_init _ ["self", "size", "total"] := ⟨⟨a_Window_init_, i_Window_init, k_Window_init⟩, B_Window_init⟩
  have F_Rule_init := fun_mk (st := s_Rule_init) l_Rule_init c_Rule_init k_Rule_init
  have B_Rule_init := F_Rule_init.binds (ps := ["self", "radius", "dark", "light", "below", "near"]) fun _ _ _ _ _ _ us hl => by obtain ⟨a0, a1, a2, a3, a4, a5, rfl⟩ := len6 (show us.length = 6 from hl); rfl
  have D_Rule_init : Dm K C_Rule "__init__" f_Rule_init _ ["self", "radius", "dark", "light", "below", "near"] := ⟨⟨a_Rule_init_, i_Rule_init, k_Rule_init⟩, B_Rule_init⟩
  have F_Rule_is_so := fun_mk (st := s_Rule_is_so) l_Rule_is_so c_Rule_is_so k_Rule_is_so
  have B_Rule_is_so := F_Rule_is_so.binds (ps := ["self"]) fun _ _ _ _ _ _ us hl => by obtain ⟨a0, rfl⟩ := len1 (show us.length = 1 from hl); rfl
  have D_Rule_is_so : Dm K C_Rule "is_so" f_Rule_is_so _ ["self"] := ⟨⟨a_Rule_is_so_, i_Rule_is_so, k_Rule_is_so⟩, B_Rule_is_so⟩
  have F_Rule_kind_of := fun_mk (st := s_Rule_kind_of) l_Rule_kind_of c_Rule_kind_of k_Rule_kind_of
  have B_Rule_kind_of := F_Rule_kind_of.binds (ps := ["self", "grey", "window"]) fun _ _ _ _ _ _ us hl => by obtain ⟨a0, a1, a2, rfl⟩ := len3 (show us.length = 3 from hl); rfl
  have D_Rule_kind_of : Dm K C_Rule "kind_of" f_Rule_kind_of _ ["self", "grey", "window"] := ⟨⟨a_Rule_kind_of_, i_Rule_kind_of, k_Rule_kind_of⟩, B_Rule_kind_of⟩
  have F_Sums_init := fun_mk (st := s_Sums_init) l_Sums_init c_Sums_init k_Sums_init
  have B_Sums_init := F_Sums_init.binds (ps := ["self", "rows"]) fun _ _ _ _ _ _ us hl => by obtain ⟨a0, a1, rfl⟩ := len2 (show us.length = 2 from hl); rfl
  have D_Sums_init : Dm K C_Sums "__init__" f_Sums_init _ ["self", "rows"] := ⟨⟨a_Sums_init_, i_Sums_init, k_Sums_init⟩, B_Sums_init⟩
  have F_Sums_window_of := fun_mk (st := s_Sums_window_of) l_Sums_window_of c_Sums_window_of k_Sums_window_of
  have B_Sums_window_of := F_Sums_window_of.binds (ps := ["self", "x", "y", "radius"]) fun _ _ _ _ _ _ us hl => by obtain ⟨a0, a1, a2, a3, rfl⟩ := len4 (show us.length = 4 from hl); rfl
  have D_Sums_window_of : Dm K C_Sums "window_of" f_Sums_window_of _ ["self", "x", "y", "radius"] := ⟨⟨a_Sums_window_of_, i_Sums_window_of, k_Sums_window_of⟩, B_Sums_window_of⟩
  have F_corner_sums := fun_mk (st := s_corner_sums) l_corner_sums c_corner_sums k_corner_sums
  have B_corner_sums := F_corner_sums.binds (ps := ["rows"]) fun _ _ _ _ _ _ us hl => by obtain ⟨a0, rfl⟩ := len1 (show us.length = 1 from hl); rfl
  have D_corner_sums : Df K mg "corner_sums" f_corner_sums _ ["rows"] := ⟨PySem.W.mg_of X G a_corner_sums_, k_corner_sums, B_corner_sums⟩
  have F_tell_rows := fun_mk (st := s_tell_rows) l_tell_rows c_tell_rows k_tell_rows
  have B_tell_rows := F_tell_rows.binds (ps := ["rule", "rows"]) fun _ _ _ _ _ _ us hl => by obtain ⟨a0, a1, rfl⟩ := len2 (show us.length = 2 from hl); rfl
  have D_tell_rows : Df K mg "tell_rows" f_tell_rows _ ["rule", "rows"] := ⟨PySem.W.mg_of X G a_tell_rows_, k_tell_rows, B_tell_rows⟩
  have F_tell_row := fun_mk (st := s_tell_row) l_tell_row c_tell_row k_tell_row
  have B_tell_row := F_tell_row.binds (ps := ["rule", "sums", "y", "row"]) fun _ _ _ _ _ _ us hl => by obtain ⟨a0, a1, a2, a3, rfl⟩ := len4 (show us.length = 4 from hl); rfl
  have D_tell_row : Df K mg "tell_row" f_tell_row _ ["rule", "sums", "y", "row"] := ⟨PySem.W.mg_of X G a_tell_row_, k_tell_row, B_tell_row⟩
  have F_tell := fun_mk (st := s_tell) l_tell c_tell k_tell
  have B_tell := F_tell.binds (ps := ["r", "dark", "light", "below", "near", "picture"]) fun _ _ _ _ _ _ us hl => by obtain ⟨a0, a1, a2, a3, a4, a5, rfl⟩ := len6 (show us.length = 6 from hl); rfl
  have D_tell : Df K mg "tell" fa _ ["r", "dark", "light", "below", "near", "picture"] := ⟨PySem.W.mg_of X G a_tell_, k_tell, B_tell⟩
  have F_form_refused := fun_mk (st := s_form_refused) l_form_refused c_form_refused k_form_refused
  have B_form_refused := F_form_refused.binds (ps := ["which", "fault"]) fun _ _ _ _ _ _ us hl => by obtain ⟨a0, a1, rfl⟩ := len2 (show us.length = 2 from hl); rfl
  have D_form_refused : Df K mg "form_refused" f_form_refused _ ["which", "fault"] := ⟨PySem.W.mg_of X G a_form_refused_, k_form_refused, B_form_refused⟩
  have F_row_answer := fun_mk (st := s_row_answer) l_row_answer c_row_answer k_row_answer
  have B_row_answer := F_row_answer.binds (ps := ["numbers"]) fun _ _ _ _ _ _ us hl => by obtain ⟨a0, rfl⟩ := len1 (show us.length = 1 from hl); rfl
  have D_row_answer : Df K mg "row_answer" f_row_answer _ ["numbers"] := ⟨PySem.W.mg_of X G a_row_answer_, k_row_answer, B_row_answer⟩
  refine ⟨PySem.W.fnOf "tell" "tell" (defArgs s_tell) (defBody s_tell) (defScope s_tell) .none kV_tell dc_tell pm_tell an_tell cd_tell ct_tell, fun s us hu => by obtain ⟨a0, a1, a2, a3, a4, a5, rfl⟩ := len6 (show us.length = 6 from hu); exact .of_eq rfl, fun base _ _ => ?_⟩
  have T : Txt K mg C_FormFault f_FormFault_init C_Reader := ⟨⟨x_FormFault, xf_FormFault, kc_FormFault⟩, ⟨no_FormFault_rule, lk_rule⟩, ⟨no_FormFault_place, lk_place⟩, PySem.W.mg_of X G g_FormFault, ⟨pg_Reader, hd_Reader, po_Reader, sa_Reader⟩, no_Reader_data, no_Reader_place, PySem.W.mg_of X G g_Reader, N_len, N_range⟩
  have GI := ok_FI (P := P) (w := w) (base := base) F_FormFault_init T
  have GRI := ok_RI (P := P) (w := w) (base := base) F_Reader_init T
  have GA := ok_At (P := P) (w := w) (base := base) F_Reader_at_end T
  have GL := ok_Look F_Reader_look T K_ENDS_EARLY GI B_FormFault_init GA D_Reader_at_end
  have GT := ok_Take F_Reader_take T GL D_Reader_look
  have GN := ok_Num F_Reader_take_number T K_WEIGHTS GT D_Reader_take
  have GF := ok_From (P := P) (w := w) (base := base) F_Reader_taken_from T
  have GM := ok_Mark F_read_mark T K_WRONG_MARK GI B_FormFault_init GL D_Reader_look GT D_Reader_take
  have GS := ok_Side (P := P) (w := w) (base := base) F_is_side K_LONGEST_SIDE
  have GZ := ok_Sz F_is_size K_MOST_POINTS GS D_is_side
  have GW := ok_Width F_read_width T K_WRONG_SIZE GI B_FormFault_init GN D_Reader_take_number GS D_is_side
  have GH := ok_Height F_read_height T K_WRONG_SIZE GI B_FormFault_init GN D_Reader_take_number GZ D_is_size
  have GC := ok_Count (P := P) (w := w) (base := base) F_count_same N_len
  have GwS := ok_WrS F_write_row N_len K_ROW_AS_ABOVE_scan K_MOST_IN_RUN GC D_count_same
  have GG := ok_Grey F_greys_end N_len K_MOST_GREYS K_LEAST_SAME GC D_count_same
  have Gw := ok_Write F_write_row_2 N_len K_ROW_ANEW K_ROW_AS_ABOVE_picture K_LEAST_SAME K_FIRST_OF_SAME K_MOST_SAME GC D_count_same GG D_greys_end
  have GIL := ok_ILen (P := P) (w := w) (base := base) F_item_length K_LEAST_SAME K_FIRST_OF_SAME
  have GIt := ok_Item F_read_item T K_TOO_MANY K_FIRST_OF_SAME GI B_FormFault_init GT D_Reader_take GIL D_item_length
  have Gr := ok_Row F_read_row T K_ROW_ANEW K_ROW_AS_ABOVE_picture K_WRONG_START GI B_FormFault_init GT D_Reader_take GIt D_read_item
  have GRs := ok_Rows (em := iv) (mk := GREYS) (body := rowBody) (wr := writeRow) rfl rowBody_em F_read_rows T K_NOT_THE_ONE_FORM K_BYTES_BEHIND GI B_FormFault_init ⟨mk_Reader, a_Reader_init_, i_Reader_init, kc_Reader⟩ GRI B_Reader_init GM D_read_mark GW D_read_width GH D_read_height Gr k_read_row B_read_row Gw k_write_row_2 B_write_row_2 GF D_Reader_taken_from GA D_Reader_at_end
  have GP := ok_Pic F_read_picture K_MARK_picture D_read_row.mx D_write_row_picture.mx GRs D_read_rows
  have GNB := ok_NB (P := P) (w := w) (base := base) F_number_bytes K_WEIGHTS
  have GWR := ok_WR (em := tv) (mk := TRITS) (wr := writeLine) rfl (fun a x => by rw [tv_len]; exact writeLine_len a x) F_write_rows N_len N_list GNB D_number_bytes GwS k_write_row B_write_row
  have GWS := ok_spWScan F_write_scan K_MARK_scan D_write_row_scan.mx GWR D_write_rows
  have GRf := ok_Ref (P := P) (w := w) (base := base) F_form_refused T K_NOT_SUCH_A_FORM
  have GAn := ok_Ans (P := P) (w := w) (base := base) F_row_answer N_len K_DONE
  have TW : TxtW K mg C_Window C_Rule C_Sums := ⟨⟨pg_Window, hd_Window, po_Window, sa_Window⟩, no_Window_size, no_Window_total, ⟨pg_Rule, hd_Rule, po_Rule, sa_Rule⟩, no_Rule_radius, no_Rule_dark, no_Rule_light, no_Rule_below, no_Rule_near, ⟨pg_Sums, hd_Sums, po_Sums, sa_Sums⟩, no_Sums_width, no_Sums_height, no_Sums_corners, PySem.W.mg_of X G g_Window, PySem.W.mg_of X G g_Rule, PySem.W.mg_of X G g_Sums⟩
  have GWI := ok_WI (P := P) (w := w) (base := base) F_Window_init TW
  have GUI := ok_UI (P := P) (w := w) (base := base) F_Rule_init TW
  have GSo := ok_So (P := P) (w := w) (base := base) F_Rule_is_so TW K_MOST_RADIUS K_WHITE
  have GKi := ok_Kind (P := P) (w := w) (base := base) F_Rule_kind_of TW K_PAPER K_INK K_UNCLEAR
  have GCn := ok_Corn (P := P) (w := w) (base := base) F_corner_sums N_len N_enumerate
  have GSI := ok_SI F_Sums_init TW N_len GCn D_corner_sums
  have GWn := ok_Win F_Sums_window_of TW N_max N_min ⟨mk_Window, a_Window_init_, i_Window_init, kc_Window⟩ GWI B_Window_init
  have GTr := ok_TRow F_tell_row TW N_enumerate GKi D_Rule_kind_of GWn D_Sums_window_of
  have GTs := ok_TRows F_tell_rows TW N_enumerate ⟨mk_Sums, a_Sums_init_, i_Sums_init, kc_Sums⟩ GSI B_Sums_init GTr D_tell_row
  exact ok_Tell F_tell T TW K_FIRST_FORM K_MAY_NOT_BE ⟨mk_Rule, a_Rule_init_, i_Rule_init, kc_Rule⟩ GUI B_Rule_init GSo D_Rule_is_so GP D_read_picture GRf D_form_refused GTs D_tell_rows GWS D_write_scan GAn D_row_answer
theorem asked_is {r : Int} {dark : Int} {light : Int} {below : Int} {near : Int} {picture : List Int} (hk : ScanNeutral.asked [[[7, r, dark, light, below, near], picture]] = true) : (0 ≤ r) ∧ (0 ≤ dark) ∧ (0 ≤ light) ∧ (0 ≤ below) ∧ (0 ≤ near) ∧ (∀ z ∈ picture, 0 ≤ z ∧ z < 256) ∧ (u32 (ofInts picture) 4 * u32 (ofInts picture) 8 ≤ 400) ∧ PyYqshaa.tell r dark light below near picture = toldOut ⟨r.toNat, dark.toNat, light.toNat, below.toNat, near.toNat⟩ (ofInts picture) := by
  unfold ScanNeutral.asked at hk
  have q : ((((((ScanNeutral.whole r && ScanNeutral.whole dark) && ScanNeutral.whole light) && ScanNeutral.whole below) && ScanNeutral.whole near) && picture.all (fun (z : Int) => ScanNeutral.natural z 8)) && true && (ScanNeutral.fits [[7, r, dark, light, below, near], picture] && true)) = true := hk
  rw [Bool.and_true, Bool.and_true, Bool.and_eq_true] at q
  obtain ⟨q, hfit⟩ := q
  rw [Bool.and_eq_true] at q
  obtain ⟨q, q5⟩ := q
  rw [Bool.and_eq_true] at q
  obtain ⟨q, q4⟩ := q
  rw [Bool.and_eq_true] at q
  obtain ⟨q, q3⟩ := q
  rw [Bool.and_eq_true] at q
  obtain ⟨q, q2⟩ := q
  rw [Bool.and_eq_true] at q
  obtain ⟨q, q1⟩ := q
  have h_r := whole_nat q
  have h_dark := whole_nat q1
  have h_light := whole_nat q2
  have h_below := whole_nat q3
  have h_near := whole_nat q4
  have h_picture := all_nat q5
  have hc : ScanNeutral.callOf [[7, r, dark, light, below, near], picture] = some (ShA.Call.tell ⟨r.toNat, dark.toNat, light.toNat, below.toNat, near.toNat⟩ (ofInts picture)) := by
    show ((ScanNeutral.nat r).bind fun x_r => (ScanNeutral.nat dark).bind fun x_dark => (ScanNeutral.nat light).bind fun x_light => (ScanNeutral.nat below).bind fun x_below => (ScanNeutral.nat near).bind fun x_near => (ScanNeutral.bytes picture).bind fun x_picture => some (ShA.Call.tell ⟨x_r, x_dark, x_light, x_below, x_near⟩ x_picture)) = _
    rw [nat_some h_r, nat_some h_dark, nat_some h_light, nat_some h_below, nat_some h_near, bytes_some h_picture]
    rfl
  refine ⟨h_r, h_dark, h_light, h_below, h_near, h_picture, ?_, ?_⟩
  · unfold ScanNeutral.fits at hfit
    rw [hc] at hfit
    have z := Option.some.inj (eq_of_beq hfit)
    exact of_decide_eq_true (Bool.and_eq_true .. ▸ z).2
  · show ScanNeutral.f [[7, r, dark, light, below, near], picture] = _
    unfold ScanNeutral.f
    rw [hc]
    unfold toldOut
    by_cases q : Sh.Rule.ok ⟨r.toNat, dark.toNat, light.toNat, below.toNat, near.toNat⟩ = false
    · rw [if_pos q]
      show ScanNeutral.told (if Sh.Rule.ok ⟨r.toNat, dark.toNat, light.toNat, below.toNat, near.toNat⟩ = false then _ else _) = _
      rw [if_pos q]
      rfl
    · rw [if_neg q]
      show ScanNeutral.told (if Sh.Rule.ok ⟨r.toNat, dark.toNat, light.toNat, below.toNat, near.toNat⟩ = false then _ else _) = _
      rw [if_neg q]
      exact told_pic _ _
end Pg
noncomputable def PySem.W.Fast.tw553941402292996047 : PySem.Program := PySem.Challenge.pw_inkpaper_s07_tell
theorem PySem.W.Fast.te553941402292996047 : PySem.Challenge.pw_inkpaper_s07_tell = PySem.W.Fast.tw553941402292996047 := rfl
open PySem PySem.W PyProof.Rows
namespace Pg
open Sh Ink L2
noncomputable def promise (K : PySem.W.Frag) : Sp := spTell K
end Pg
set_option maxRecDepth 100000 in
set_option maxHeartbeats 0 in
theorem PySem.Challenge.cw_inkpaper_s07_tell_holds : PySem.Challenge.rw_inkpaper_s07_tell.Holds := by
  w_on; k_headS; (case hw => exact ⟨[.int 0, .int 0, .int 0, .int 0, .int 0, .list []], by decide +kernel, by decide +kernel⟩)
  k_fillS
  refine L2.walk_specX (r := PySem.Challenge.rw_inkpaper_s07_tell) (k := 9) (CX := fun w => L2.CXE PySem.Challenge.rw_inkpaper_s07_tell.prog w) (ps := ["r", "dark", "light", "below", "near", "picture"]) (sp := Pg.promise) (by decide +kernel) rfl rfl ⟨rfl, by decide, by decide⟩ (fun w h Y => PySem.W.kIn_of Y) ?F ?S ?X
  case F =>
    intro w mg fa h Y KX G hmg
    refine' Pg.all_mk KX G hmg ?g_FormFault ?kc_FormFault ?g_Reader ?kc_Reader ?g_Window ?kc_Window ?g_Rule ?kc_Rule ?g_Sums ?kc_Sums ?a_read_mark_ ?a_is_side_ ?a_is_size_ ?a_read_width_ ?a_read_height_ ?a_read_rows_ ?a_write_rows_ ?a_number_bytes_ ?a_count_same_ ?a_write_scan_ ?a_write_row_ ?a_write_row_scan_ ?a_read_picture_ ?a_read_row_ ?a_read_item_ ?a_item_length_ ?a_write_row_picture_ ?a_greys_end_ ?a_corner_sums_ ?a_tell_rows_ ?a_tell_row_ ?a_tell_ ?a_form_refused_ ?a_row_answer_ ?a_Reader_init_ ?i_Reader_init ?a_Reader_at_end_ ?i_Reader_at_end ?a_Reader_look_ ?i_Reader_look ?a_Reader_take_ ?i_Reader_take ?a_Reader_take_number_ ?i_Reader_take_number ?a_Reader_taken_from_ ?i_Reader_taken_from ?a_Window_init_ ?i_Window_init ?a_Rule_init_ ?i_Rule_init ?a_Rule_is_so_ ?i_Rule_is_so ?a_Rule_kind_of_ ?i_Rule_kind_of ?a_Sums_init_ ?i_Sums_init ?a_Sums_window_of_ ?i_Sums_window_of ?xi_FormFault ?x_FormFault ?xf_FormFault ?no_FormFault_rule ?no_FormFault_place ?pg_Reader ?hd_Reader ?po_Reader ?sa_Reader ?mk_Reader ?no_Reader_data ?no_Reader_place ?pg_Window ?hd_Window ?po_Window ?sa_Window ?mk_Window ?no_Window_size ?no_Window_total ?pg_Rule ?hd_Rule ?po_Rule ?sa_Rule ?mk_Rule ?no_Rule_radius ?no_Rule_dark ?no_Rule_light ?no_Rule_below ?no_Rule_near ?pg_Sums ?hd_Sums ?po_Sums ?sa_Sums ?mk_Sums ?no_Sums_width ?no_Sums_height ?no_Sums_corners ?l_FormFault_init ?c_FormFault_init ?k_FormFault_init ?l_Reader_init ?c_Reader_init ?k_Reader_init ?l_Reader_at_end ?c_Reader_at_end ?k_Reader_at_end ?l_Reader_look ?c_Reader_look ?k_Reader_look ?l_Reader_take ?c_Reader_take ?k_Reader_take ?l_Reader_take_number ?c_Reader_take_number ?k_Reader_take_number ?l_Reader_taken_from ?c_Reader_taken_from ?k_Reader_taken_from ?l_read_mark ?c_read_mark ?k_read_mark ?l_is_side ?c_is_side ?k_is_side ?l_is_size ?c_is_size ?k_is_size ?l_read_width ?c_read_width ?k_read_width ?l_read_height ?c_read_height ?k_read_height ?l_read_rows ?c_read_rows ?k_read_rows ?l_write_rows ?c_write_rows ?k_write_rows ?l_number_bytes ?c_number_bytes ?k_number_bytes ?l_count_same ?c_count_same ?k_count_same ?l_write_scan ?c_write_scan ?k_write_scan ?l_write_row ?c_write_row ?k_write_row ?l_read_picture ?c_read_picture ?k_read_picture ?l_read_row ?c_read_row ?k_read_row ?l_read_item ?c_read_item ?k_read_item ?l_item_length ?c_item_length ?k_item_length ?l_write_row_2 ?c_write_row_2 ?k_write_row_2 ?l_greys_end ?c_greys_end ?k_greys_end ?l_Window_init ?c_Window_init ?k_Window_init ?l_Rule_init ?c_Rule_init ?k_Rule_init ?l_Rule_is_so ?c_Rule_is_so ?k_Rule_is_so ?l_Rule_kind_of ?c_Rule_kind_of ?k_Rule_kind_of ?l_Sums_init ?c_Sums_init ?k_Sums_init ?l_Sums_window_of ?c_Sums_window_of ?k_Sums_window_of ?l_corner_sums ?c_corner_sums ?k_corner_sums ?l_tell_rows ?c_tell_rows ?k_tell_rows ?l_tell_row ?c_tell_row ?k_tell_row ?l_tell ?c_tell ?k_tell ?l_form_refused ?c_form_refused ?k_form_refused ?l_row_answer ?c_row_answer ?k_row_answer ?n_BYTES_BEHIND ?n_DONE ?n_ENDS_EARLY ?n_FIRST_FORM ?n_FIRST_OF_SAME ?n_INK ?n_LEAST_SAME ?n_LONGEST_SIDE ?n_MAY_NOT_BE ?n_MOST_GREYS ?n_MOST_IN_RUN ?n_MOST_POINTS ?n_MOST_RADIUS ?n_MOST_SAME ?n_NOT_SUCH_A_FORM ?n_NOT_THE_ONE_FORM ?n_PAPER ?n_ROW_ANEW ?n_ROW_AS_ABOVE_picture ?n_ROW_AS_ABOVE_scan ?n_TOO_MANY ?n_UNCLEAR ?n_WHITE ?n_WRONG_MARK ?n_WRONG_SIZE ?n_WRONG_START ?n_WEIGHTS ?l_WEIGHTS ?n_MARK_scan ?l_MARK_scan ?n_MARK_picture ?l_MARK_picture ?n_len ?n_range ?n_list ?n_enumerate ?n_max ?n_min
    (case g_FormFault => k_is)
    (case kc_FormFault => k_is)
    (case g_Reader => k_is)
    (case kc_Reader => k_is)
    (case g_Window => k_is)
    (case kc_Window => k_is)
    (case g_Rule => k_is)
    (case kc_Rule => k_is)
    (case g_Sums => k_is)
    (case kc_Sums => k_is)
    (case a_read_mark_ => k_is)
    (case a_is_side_ => k_is)
    (case a_is_size_ => k_is)
    (case a_read_width_ => k_is)
    (case a_read_height_ => k_is)
    (case a_read_rows_ => k_is)
    (case a_write_rows_ => k_is)
    (case a_number_bytes_ => k_is)
    (case a_count_same_ => k_is)
    (case a_write_scan_ => k_is)
    (case a_write_row_ => k_is)
    (case a_write_row_scan_ => k_is)
    (case a_read_picture_ => k_is)
    (case a_read_row_ => k_is)
    (case a_read_item_ => k_is)
    (case a_item_length_ => k_is)
    (case a_write_row_picture_ => k_is)
    (case a_greys_end_ => k_is)
    (case a_corner_sums_ => k_is)
    (case a_tell_rows_ => k_is)
    (case a_tell_row_ => k_is)
    (case a_tell_ => k_is)
    (case a_form_refused_ => k_is)
    (case a_row_answer_ => k_is)
    (case a_Reader_init_ => k_is)
    (case i_Reader_init => k_is)
    (case a_Reader_at_end_ => k_is)
    (case i_Reader_at_end => k_is)
    (case a_Reader_look_ => k_is)
    (case i_Reader_look => k_is)
    (case a_Reader_take_ => k_is)
    (case i_Reader_take => k_is)
    (case a_Reader_take_number_ => k_is)
    (case i_Reader_take_number => k_is)
    (case a_Reader_taken_from_ => k_is)
    (case i_Reader_taken_from => k_is)
    (case a_Window_init_ => k_is)
    (case i_Window_init => k_is)
    (case a_Rule_init_ => k_is)
    (case i_Rule_init => k_is)
    (case a_Rule_is_so_ => k_is)
    (case i_Rule_is_so => k_is)
    (case a_Rule_kind_of_ => k_is)
    (case i_Rule_kind_of => k_is)
    (case a_Sums_init_ => k_is)
    (case i_Sums_init => k_is)
    (case a_Sums_window_of_ => k_is)
    (case i_Sums_window_of => k_is)
    (case xi_FormFault => k_is)
    (case x_FormFault => kernel_rfl)
    (case xf_FormFault => k_is)
    (case no_FormFault_rule => kernel_rfl)
    (case no_FormFault_place => kernel_rfl)
    (case pg_Reader => k_is)
    (case hd_Reader => k_is)
    (case po_Reader => k_is)
    (case sa_Reader => k_is)
    (case mk_Reader => k_is)
    (case no_Reader_data => k_is)
    (case no_Reader_place => k_is)
    (case pg_Window => k_is)
    (case hd_Window => k_is)
    (case po_Window => k_is)
    (case sa_Window => k_is)
    (case mk_Window => k_is)
    (case no_Window_size => k_is)
    (case no_Window_total => k_is)
    (case pg_Rule => k_is)
    (case hd_Rule => k_is)
    (case po_Rule => k_is)
    (case sa_Rule => k_is)
    (case mk_Rule => k_is)
    (case no_Rule_radius => k_is)
    (case no_Rule_dark => k_is)
    (case no_Rule_light => k_is)
    (case no_Rule_below => k_is)
    (case no_Rule_near => k_is)
    (case pg_Sums => k_is)
    (case hd_Sums => k_is)
    (case po_Sums => k_is)
    (case sa_Sums => k_is)
    (case mk_Sums => k_is)
    (case no_Sums_width => k_is)
    (case no_Sums_height => k_is)
    (case no_Sums_corners => k_is)
    (case l_FormFault_init => k_is)
    (case c_FormFault_init => k_is)
    (case k_FormFault_init => k_is)
    (case l_Reader_init => k_is)
    (case c_Reader_init => k_is)
    (case k_Reader_init => k_is)
    (case l_Reader_at_end => k_is)
    (case c_Reader_at_end => k_is)
    (case k_Reader_at_end => k_is)
    (case l_Reader_look => k_is)
    (case c_Reader_look => k_is)
    (case k_Reader_look => k_is)
    (case l_Reader_take => k_is)
    (case c_Reader_take => k_is)
    (case k_Reader_take => k_is)
    (case l_Reader_take_number => k_is)
    (case c_Reader_take_number => k_is)
    (case k_Reader_take_number => k_is)
    (case l_Reader_taken_from => k_is)
    (case c_Reader_taken_from => k_is)
    (case k_Reader_taken_from => k_is)
    (case l_read_mark => k_is)
    (case c_read_mark => k_is)
    (case k_read_mark => k_is)
    (case l_is_side => k_is)
    (case c_is_side => k_is)
    (case k_is_side => k_is)
    (case l_is_size => k_is)
    (case c_is_size => k_is)
    (case k_is_size => k_is)
    (case l_read_width => k_is)
    (case c_read_width => k_is)
    (case k_read_width => k_is)
    (case l_read_height => k_is)
    (case c_read_height => k_is)
    (case k_read_height => k_is)
    (case l_read_rows => k_is)
    (case c_read_rows => k_is)
    (case k_read_rows => k_is)
    (case l_write_rows => k_is)
    (case c_write_rows => k_is)
    (case k_write_rows => k_is)
    (case l_number_bytes => k_is)
    (case c_number_bytes => k_is)
    (case k_number_bytes => k_is)
    (case l_count_same => k_is)
    (case c_count_same => k_is)
    (case k_count_same => k_is)
    (case l_write_scan => k_is)
    (case c_write_scan => k_is)
    (case k_write_scan => k_is)
    (case l_write_row => k_is)
    (case c_write_row => k_is)
    (case k_write_row => k_is)
    (case l_read_picture => k_is)
    (case c_read_picture => k_is)
    (case k_read_picture => k_is)
    (case l_read_row => k_is)
    (case c_read_row => k_is)
    (case k_read_row => k_is)
    (case l_read_item => k_is)
    (case c_read_item => k_is)
    (case k_read_item => k_is)
    (case l_item_length => k_is)
    (case c_item_length => k_is)
    (case k_item_length => k_is)
    (case l_write_row_2 => k_is)
    (case c_write_row_2 => k_is)
    (case k_write_row_2 => k_is)
    (case l_greys_end => k_is)
    (case c_greys_end => k_is)
    (case k_greys_end => k_is)
    (case l_Window_init => k_is)
    (case c_Window_init => k_is)
    (case k_Window_init => k_is)
    (case l_Rule_init => k_is)
    (case c_Rule_init => k_is)
    (case k_Rule_init => k_is)
    (case l_Rule_is_so => k_is)
    (case c_Rule_is_so => k_is)
    (case k_Rule_is_so => k_is)
    (case l_Rule_kind_of => k_is)
    (case c_Rule_kind_of => k_is)
    (case k_Rule_kind_of => k_is)
    (case l_Sums_init => k_is)
    (case c_Sums_init => k_is)
    (case k_Sums_init => k_is)
    (case l_Sums_window_of => k_is)
    (case c_Sums_window_of => k_is)
    (case k_Sums_window_of => k_is)
    (case l_corner_sums => k_is)
    (case c_corner_sums => k_is)
    (case k_corner_sums => k_is)
    (case l_tell_rows => k_is)
    (case c_tell_rows => k_is)
    (case k_tell_rows => k_is)
    (case l_tell_row => k_is)
    (case c_tell_row => k_is)
    (case k_tell_row => k_is)
    (case l_tell => k_is)
    (case c_tell => k_is)
    (case k_tell => k_is)
    (case l_form_refused => k_is)
    (case c_form_refused => k_is)
    (case k_form_refused => k_is)
    (case l_row_answer => k_is)
    (case c_row_answer => k_is)
    (case k_row_answer => k_is)
    (case n_BYTES_BEHIND => k_is)
    (case n_DONE => k_is)
    (case n_ENDS_EARLY => k_is)
    (case n_FIRST_FORM => k_is)
    (case n_FIRST_OF_SAME => k_is)
    (case n_INK => k_is)
    (case n_LEAST_SAME => k_is)
    (case n_LONGEST_SIDE => k_is)
    (case n_MAY_NOT_BE => k_is)
    (case n_MOST_GREYS => k_is)
    (case n_MOST_IN_RUN => k_is)
    (case n_MOST_POINTS => k_is)
    (case n_MOST_RADIUS => k_is)
    (case n_MOST_SAME => k_is)
    (case n_NOT_SUCH_A_FORM => k_is)
    (case n_NOT_THE_ONE_FORM => k_is)
    (case n_PAPER => k_is)
    (case n_ROW_ANEW => k_is)
    (case n_ROW_AS_ABOVE_picture => k_is)
    (case n_ROW_AS_ABOVE_scan => k_is)
    (case n_TOO_MANY => k_is)
    (case n_UNCLEAR => k_is)
    (case n_WHITE => k_is)
    (case n_WRONG_MARK => k_is)
    (case n_WRONG_SIZE => k_is)
    (case n_WRONG_START => k_is)
    (case n_WEIGHTS => k_is)
    (case l_WEIGHTS => k_is)
    (case n_MARK_scan => k_is)
    (case l_MARK_scan => k_is)
    (case n_MARK_picture => k_is)
    (case l_MARK_picture => k_is)
    (case n_len => k_is)
    (case n_range => k_is)
    (case n_list => k_is)
    (case n_enumerate => k_is)
    (case n_max => k_is)
    (case n_min => k_is)
  case S =>
    intro K H xs a hO hwi hask hx
    cases hx with
    | cons g1 gs =>
      cases gs with
      | cons g2 gs =>
        cases gs with
        | cons g3 gs =>
          cases gs with
          | cons g4 gs =>
            cases gs with
            | cons g5 gs =>
              cases gs with
              | cons g6 gs =>
                cases gs
                cases g1
                cases g2
                cases g3
                cases g4
                cases g5
                cases g6 with
                | @lst ad6 _ _ hs6 ha6 =>
                  have e6 := L2.ints_dw a.2.2.2.2.2.1 _ ha6
                  subst e6
                  obtain ⟨h_r, h_dark, h_light, h_below, h_near, h_picture, few, out⟩ := Pg.asked_is (r := a.1) (dark := a.2.1) (light := a.2.2.1) (below := a.2.2.2.1) (near := a.2.2.2.2.1) (picture := a.2.2.2.2.2.1) hask
                  refine ⟨⟨a.1.toNat, a.2.1.toNat, a.2.2.1.toNat, a.2.2.2.1.toNat, a.2.2.2.2.1.toNat⟩, ad6, Pg.ofInts a.2.2.2.2.2.1, ?eq, ?dat6, few, fun H' p hp => ?fin⟩
                  case eq =>
                    rw [Pg.toNat_int h_r, Pg.toNat_int h_dark, Pg.toNat_int h_light, Pg.toNat_int h_below, Pg.toNat_int h_near]
                  case dat6 =>
                    rw [Pg.bv_ofInts _ h_picture]
                    exact Pg.Dat.of hO hs6
                  case fin =>
                    have z : Codec.app PySem.Challenge.rw_inkpaper_s07_tell.args PySem.Challenge.rw_inkpaper_s07_tell.f a = PyYqshaa.tell a.1 a.2.1 a.2.2.1 a.2.2.2.1 a.2.2.2.2.1 a.2.2.2.2.2.1 := rfl
                    rw [z, out]
                    exact .lst (L2.SqL.of hp) (L2.dw_ints _)
  case X => exact fun w H s e s' ⟨_, _, _, _, _, _, _, _, h⟩ => h
#print axioms PySem.Challenge.cw_inkpaper_s07_tell_holds
