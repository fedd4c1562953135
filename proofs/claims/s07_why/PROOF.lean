import PyProof.Rows.All
import Wide.All
import OpenK.AllK
import Wide.FinOn
import PyProof.EqAt
import PyProof.EqKinds
import PyProof.TupleCall
import KE.BitLaws
import KE.OsGo
import Open.SpecLaws
import PySem.Challenge.RW_boundagain_s07_why
set_option Elab.async false
set_option linter.all false
set_option maxRecDepth 100000
set_option Elab.async false
set_option linter.all false
set_option maxRecDepth 100000
namespace L2
open PySem PySem.Spec PyProof.Rows
noncomputable abbrev Key := Sum Int Str
noncomputable def keyIs : Key → Value → Bool
  | .inl k, v => Value.isInt k v
  | .inr x, v => Value.isStrOf x v
noncomputable def keyH (w : World) : Key → Int
  | .inl k => hashInt k
  | .inr x => hashStr w x
private theorem keyIs_shape : ∀ {k : Key} {v : Value}, keyIs k v = true → (∃ i t, k = Sum.inl i ∧ v = Value.int i t) ∨ (∃ x t, k = Sum.inr x ∧ v = Value.str x t)
  | .inl i, v, h => by
    obtain ⟨t, e⟩ := Value.isInt_shape (k := i) (v := v) h
    exact .inl ⟨i, t, rfl, e⟩
  | .inr x, v, h => by
    obtain ⟨t, e⟩ := Value.isStrOf_shape (x := x) (v := v) h
    exact .inr ⟨x, t, rfl, e⟩
private theorem keyIs_int (i : Int) (t : Tok) : keyIs (.inl i) (.int i t) = true := by simp [keyIs, Value.isInt]
private theorem keyIs_str (x : Str) (t : Tok) : keyIs (.inr x) (.str x t) = true := by simp [keyIs, Value.isStrOf]
private theorem key_ll (a b : Int) : decide ((Sum.inl a : Key) = Sum.inl b) = (a == b) := by
  by_cases e : a = b
  · subst e; simp
  · have h : ¬ (Sum.inl a : Key) = Sum.inl b := fun q => e (Sum.inl.inj q)
    rw [decide_eq_false h]
    exact (beq_eq_false_iff_ne.mpr e).symm
private theorem key_rr (a b : Str) : decide ((Sum.inr a : Key) = Sum.inr b) = decide (a = b) := by
  by_cases e : a = b
  · subst e; simp
  · have h : ¬ (Sum.inr a : Key) = Sum.inr b := fun q => e (Sum.inr.inj q)
    rw [decide_eq_false h, decide_eq_false e]
private theorem key_lr (a : Int) (b : Str) : decide ((Sum.inl a : Key) = Sum.inr b) = false := decide_eq_false (fun q => nomatch q)
private theorem key_rl (a : Str) (b : Int) : decide ((Sum.inr a : Key) = Sum.inl b) = false := decide_eq_false (fun q => nomatch q)
noncomputable def mixKind (prog : Program) (w : World) : PySem.KeyKind prog w Key where
  is := keyIs
  hash := keyH w
  inj := fun v a b ha hb => by
    rcases keyIs_shape ha with ⟨i, t, rfl, rfl⟩ | ⟨x, t, rfl, rfl⟩
    · rcases keyIs_shape hb with ⟨j, u, rfl, e⟩ | ⟨y, u, rfl, e⟩
      · injection e with e1 _; rw [e1]
      · exact nomatch e
    · rcases keyIs_shape hb with ⟨j, u, rfl, e⟩ | ⟨y, u, rfl, e⟩
      · exact nomatch e
      · injection e with e1 _; rw [e1]
  byValue := fun k v h => by
    rcases keyIs_shape h with ⟨i, t, rfl, rfl⟩ | ⟨x, t, rfl, rfl⟩ <;> rfl
  pyHash := fun hv h => by
    rcases keyIs_shape hv with ⟨i, t, rfl, rfl⟩ | ⟨x, t, rfl, rfl⟩
    · exact wpAny_pyHash_int h
    · exact wpAny_pyHash_str h
  eqBool := fun hu hv h => by
    rcases keyIs_shape hu with ⟨i, t, rfl, rfl⟩ | ⟨x, t, rfl, rfl⟩
    · rcases keyIs_shape hv with ⟨j, u, rfl, rfl⟩ | ⟨y, u, rfl, rfl⟩
      · rw [key_ll] at h; exact wpAny_eqBool_int h
      · rw [key_lr] at h; exact SeqAt.EqAt.int_str i t y u _ _ _ _ h
    · rcases keyIs_shape hv with ⟨j, u, rfl, rfl⟩ | ⟨y, u, rfl, rfl⟩
      · rw [key_rl] at h; exact SeqAt.EqAt.str_int x t j u _ _ _ _ h
      · rw [key_rr] at h; exact wpAny_eqBool_str h
  «strs» := fun k x t v h => by
    rcases keyIs_shape h with ⟨i, u, rfl, e⟩ | ⟨y, u, rfl, e⟩
    · exact nomatch e
    · injection e with e1 _
      subst e1
      cases v <;> rfl
private theorem mixKind_int (prog : Program) (w : World) (i : Int) (t : Tok) : (mixKind prog w).is (.inl i) (.int i t) = true := keyIs_int i t
private theorem mixKind_str (prog : Program) (w : World) (x : Str) (t : Tok) : (mixKind prog w).is (.inr x) (.str x t) = true := keyIs_str x t
end L2
namespace L2
open PySem PySem.Spec PyProof.Rows
inductive V where
  | non | bl (b : Bool) | int (i : Int) | str (x : Str) | byt (b : Array UInt8) | flt (b : UInt64) | ref (a : Addr) | ty (n : String)
  deriving DecidableEq
noncomputable def RelV : V → Value → Prop
  | .non, u => u = Value.none
  | .bl b, u => u = Value.bool b
  | .int i, u => ∃ t, u = Value.int i t
  | .str x, u => ∃ t, u = Value.str x t
  | .byt b, u => ∃ t, u = Value.bytes b t
  | .flt b, u => ∃ t, u = Value.float b t
  | .ref a, u => u = Value.ref a
  | .ty n, u => u = Value.type n
noncomputable abbrev Vals : List V → List Value → Prop := Paired RelV
private theorem Vals.length {xs : List V} {us : List Value} (r : Vals xs us) : xs.length = us.length := Paired.length r
private theorem Vals.get : ∀ {xs : List V} {us : List Value} {i : Nat} {x : V}, Vals xs us → xs[i]? = some x → ∃ u, us[i]? = some u ∧ RelV x u
  | _, _, _, _, .nil, e => by simp at e
  | _, _, 0, _, .cons r _, e => by simp at e; subst e; exact ⟨_, rfl, r⟩
  | _, _, i + 1, x, .cons _ t, e => by
    obtain ⟨u, h1, h2⟩ := Vals.get (i := i) (x := x) t (by simpa using e)
    exact ⟨u, by simpa using h1, h2⟩
private theorem Vals.append : ∀ {xs ys : List V} {us ws : List Value}, Vals xs us → Vals ys ws → Vals (xs ++ ys) (us ++ ws)
  | _, _, _, _, .nil, s => s
  | _, _, _, _, .cons r t, s => .cons r (Vals.append t s)
private theorem Vals.take : ∀ {xs : List V} {us : List Value} (n : Nat), Vals xs us → Vals (xs.take n) (us.take n)
  | _, _, 0, _ => .nil
  | _, _, _ + 1, .nil => .nil
  | _, _, n + 1, .cons r t => .cons r (Vals.take n t)
private theorem Vals.drop : ∀ {xs : List V} {us : List Value} (n : Nat), Vals xs us → Vals (xs.drop n) (us.drop n)
  | _, _, 0, r => r
  | _, _, _ + 1, .nil => .nil
  | _, _, n + 1, .cons _ t => Vals.drop n t
noncomputable def RelO : Option V → Option Value → Prop
  | some v, some u => RelV v u
  | none, none => True
  | _, _ => False
noncomputable def KV {κ : Type} : List (κ × V) → List (κ × Value) → Prop := Paired fun (p : κ × V) (q : κ × Value) => p.1 = q.1 ∧ RelV p.2 q.2
noncomputable def kV : Key → V
  | .inl i => .int i
  | .inr x => .str x
inductive HO where
  /-- a list -/
  | lst (xs : List V)
  /-- a tuple (never changes) -/
  | tup (xs : List V)
  /-- a dict whose keys are ints and texts; one whose keys are tuples of ints and texts (the empty one is both) -/
  | dK (kvs : List (Key × V)) | dT (kvs : List (List Key × V))
  /-- a set of ints: its members, its size -/
  | set (S : Int → Bool) (n : Nat)
  /-- an instance of the class at C, its dict at dx, its attributes -/
  | ins (C dx : Addr) (fs : List (Str × V))
  /-- the dict of the instance at x -/
  | own (x : Addr)
  /-- the dict of an exception -/
  | xd (fs : List (Str × V))
  /-- a bound method, f of x -/
  | met (f x : Addr)
  /-- a range object lo, lo + 1, .. below hi -/
  | rng (lo hi : Int)
  /-- a thing that is known to the object (the script; a dict while a loop walks it): read, never written while it is so -/
  | frz (o : Obj) (u : HO)
  /-- a code object's table -/
  | tbl (ps : Array Value)
  /-- any other thing, by what is true of its one object (a def of one's own: SetO a S n := HO.ext fun h => ..) -/
  | ext (φ : Heap → Prop)
noncomputable abbrev Hp := Addr → Option HO
noncomputable def upd (H : Hp) (a : Addr) (o : HO) : Hp := fun b => if b = a then some o else H b
private theorem upd_same {H : Hp} {a : Addr} {o : HO} : upd H a o a = some o := by unfold upd; rw [if_pos rfl]
private theorem upd_ne {H : Hp} {a b : Addr} {o : HO} (h : b ≠ a) : upd H a o b = H b := by unfold upd; rw [if_neg h]
private theorem ne_of {H : Hp} {a b : Addr} {o u : HO} (h : H a = some o) (h' : H b = some u) (d : o ≠ u) : a ≠ b := by
  intro e; subst e; rw [h] at h'; exact d (Option.some.inj h')
private theorem ne_of_none {H : Hp} {a b : Addr} {o : HO} (h : H a = some o) (h' : H b = none) : a ≠ b := by
  intro e; subst e; rw [h] at h'; cases h'
section
variable (P : Program) (w : World)
noncomputable def ObjOk (H : Hp) (h : Heap) (a : Addr) : HO → Prop
  | .lst xs => xs.length ≤ sizeLine ∧ ∃ (its : List Value) (n : Nat), Vals xs its ∧ h.get? a = some { cls := .type "list", data := .seq its.toArray n }
  | .tup xs => xs.length ≤ sizeLine ∧ ∃ its : List Value, Vals xs its ∧ IsTup h a its.toArray
  | .dK kvs => kvs.length ≤ sizeLine ∧ (a == sysModules) = false ∧ ∃ vs, KV kvs vs ∧ h.DictOf (mixKind P w) a vs
  | .dT kvs => kvs.length ≤ sizeLine ∧ (a == sysModules) = false ∧ ∃ xs : List (List Key × Addr × Value),
      Paired (fun (p : List Key × V) (q : List Key × Addr × Value) => p.1 = q.1 ∧ H q.2.1 = some (.tup (p.1.map kV)) ∧ RelV p.2 q.2.2) kvs xs ∧
      ∃ o es ep, h.get? a = some o ∧ o.ExactDict ∧ o.data = .dict es ep ∧ es.toList = xs.map (entryOfKey (tupleKind (mixKind P w))) ∧ (xs.map (·.1)).Nodup
  | .set S n => h.SetOf (intKind P w) a S n
  | .ins C dx fs => H dx = some (.own a) ∧ fs.length ≤ 1000 ∧ dx ≠ a ∧ h.get? a = some (PySem.W.instObj C dx) ∧
      ∃ mA, h.Ns1 dx mA ∧ (∀ f, RelO (fs.lookup f) (mA f)) ∧ PySem.Within mA (fs.map (·.1))
  | .own _ => ∃ o, h.get? a = some o
  | .xd fs => ∃ mA, h.Ns1 a mA ∧ ∀ f, RelO (fs.lookup f) (mA f)
  | .rng lo hi => ∃ t u v, h.get? a = some { cls := .type "range", data := .fields #[.int lo t, .int hi u, .int 1 v] }
  | .frz o u => h.get? a = some o ∧ ObjOk H h a u
  | .tbl ps => h.get? a = some { cls := .none, data := .fields ps }
  | .met f x => h.get? a = some (PySem.W.methodObj (.ref f) (.ref x))
  | .ext φ => φ h ∧ (∃ o, h.get? a = some o) ∧ ∀ h1 h2 : Heap, φ h1 → (∀ o, h1.get? a = some o → h2.get? a = some o) → φ h2
noncomputable def HOk (H : Hp) (h : Heap) : Prop := ∀ a o, H a = some o → ObjOk P w H h a o
end
section
variable {P : Program} {w : World} {H H' : Hp} {h h' : Heap} {a : Addr} {o : HO}
private theorem ObjOk.lt (x : ObjOk P w H h a o) : a < h.objs.size := by
  cases o with
  | lst xs => obtain ⟨_, _, _, _, e⟩ := x; exact Heap.lt_size e
  | tup xs => obtain ⟨_, _, _, p⟩ := x; exact p.lt
  | dK kvs => obtain ⟨_, _, _, _, o, _, _, e, _⟩ := x; exact Heap.lt_size e
  | dT kvs => obtain ⟨_, _, _, _, o, _, _, e, _⟩ := x; exact Heap.lt_size e
  | set S n => obtain ⟨o, _, _, _, e, _⟩ := x; exact Heap.lt_size e
  | ins C dx fs => obtain ⟨_, _, _, e, _⟩ := x; exact Heap.lt_size e
  | own y => obtain ⟨_, e⟩ := x; exact Heap.lt_size e
  | xd fs => obtain ⟨_, ⟨_, _, _, e, _⟩, _⟩ := x; exact Heap.lt_size e
  | rng lo hi => obtain ⟨_, _, _, e⟩ := x; exact Heap.lt_size e
  | frz ob u => obtain ⟨e, _⟩ := x; exact Heap.lt_size e
  | tbl ps => exact Heap.lt_size (show h.get? a = some _ from x)
  | met f y => exact Heap.lt_size (show h.get? a = some _ from x)
  | ext φ => obtain ⟨_, ⟨_, e⟩, _⟩ := x; exact Heap.lt_size e
private theorem Paired.mapP {α β : Type} {F G : α → β → Prop} : ∀ {l₁ : List α} {l₂ : List β}, Paired F l₁ l₂ → (∀ a b, F a b → G a b) → Paired G l₁ l₂
  | _, _, .nil, _ => .nil
  | _, _, .cons r t, f => .cons (f _ _ r) (Paired.mapP t f)
private theorem ObjOk.stay (x : ObjOk P w H h a o) (k : ∀ b u, (b = a ∨ H b = some (.own a)) → h.get? b = some u → h'.get? b = some u)
    (ho : ∀ b, H b = some (.own a) → H' b = some (.own a)) (ht : ∀ b xs, H b = some (.tup xs) → H' b = some (.tup xs)) : ObjOk P w H' h' a o := by
  induction o with
  | lst xs => obtain ⟨z, its, n, r, e⟩ := x; exact ⟨z, its, n, r, k _ _ (.inl rfl) e⟩
  | tup xs => obtain ⟨z, its, r, ob, e, c⟩ := x; exact ⟨z, its, r, ob, k _ _ (.inl rfl) e, c⟩
  | dK kvs => obtain ⟨z, y, vs, r, ob, es, ep, e, c⟩ := x; exact ⟨z, y, vs, r, ob, es, ep, k _ _ (.inl rfl) e, c⟩
  | dT kvs =>
    obtain ⟨z, y, xs, r, ob, es, ep, e, c⟩ := x
    exact ⟨z, y, xs, Paired.mapP r fun p q z => ⟨z.1, ht _ _ z.2.1, z.2.2⟩, ob, es, ep, k _ _ (.inl rfl) e, c⟩
  | set S n => obtain ⟨ob, es, ep, t, e, c⟩ := x; exact ⟨ob, es, ep, t, k _ _ (.inl rfl) e, c⟩
  | ins C dx fs =>
    obtain ⟨d, z, ne, e, mA, ⟨od, es, ep, e2, c⟩, r⟩ := x
    exact ⟨ho _ d, z, ne, k _ _ (.inl rfl) e, mA, ⟨od, es, ep, k _ _ (.inr d) e2, c⟩, r⟩
  | own y => obtain ⟨ob, e⟩ := x; exact ⟨ob, k _ _ (.inl rfl) e⟩
  | xd fs => obtain ⟨mA, ⟨od, es, ep, e, c⟩, r⟩ := x; exact ⟨mA, ⟨od, es, ep, k _ _ (.inl rfl) e, c⟩, r⟩
  | rng lo hi => obtain ⟨t, u, v, e⟩ := x; exact ⟨t, u, v, k _ _ (.inl rfl) e⟩
  | frz ob u ih => obtain ⟨e, q⟩ := x; exact ⟨k _ _ (.inl rfl) e, ih q⟩
  | tbl ps =>
    have e : h.get? a = some { cls := .none, data := .fields ps } := x
    show h'.get? a = some { cls := .none, data := .fields ps }
    exact k a _ (.inl rfl) e
  | met f y =>
    have e : h.get? a = some (PySem.W.methodObj (.ref f) (.ref y)) := x
    show h'.get? a = some (PySem.W.methodObj (.ref f) (.ref y))
    exact k a _ (.inl rfl) e
  | ext φ => obtain ⟨p, ⟨o, e⟩, st⟩ := x; exact ⟨st _ _ p fun o q => k _ _ (.inl rfl) q, ⟨o, k _ _ (.inl rfl) e⟩, st⟩
private theorem HOk.lt (x : HOk P w H h) (e : H a = some o) : a < h.objs.size := (x a o e).lt
private theorem HOk.fresh (x : HOk P w H h) (e : h.objs.size ≤ a) : H a = none := by
  cases q : H a with
  | none => rfl
  | some u => exact absurd (Nat.lt_of_lt_of_le (x.lt q) e) (Nat.lt_irrefl _)
private theorem HOk.kept (x : HOk P w H h) (k : ∀ b u, h.get? b = some u → h'.get? b = some u) : HOk P w H h' := fun a o e =>
  (x a o e).stay (fun b u _ q => k b u q) (fun _ q => q) fun _ _ q => q
private theorem HOk.laid (x : HOk P w H h) (k : ∀ b u, h.get? b = some u → h'.get? b = some u) (hp : h.objs.size ≤ a) (new : ObjOk P w (upd H a o) h' a o) : HOk P w (upd H a o) h' := fun b u e => by
  have hn := x.fresh hp
  by_cases hb : b = a
  · subst hb; rw [upd_same] at e; cases e; exact new
  · rw [upd_ne hb] at e
    exact (x b u e).stay (fun c v _ q => k c v q) (fun c q => by rw [upd_ne (ne_of_none q hn)]; exact q) fun c xs q => by rw [upd_ne (ne_of_none q hn)]; exact q
end
noncomputable def Rd (H : Hp) (a : Addr) (u : HO) : Prop := H a = some u ∨ ∃ o, H a = some (.frz o u)
private theorem Rd.of {H : Hp} {a : Addr} {u : HO} (h : H a = some u) : Rd H a u := .inl h
private theorem Rd.ok {P : Program} {w : World} {H : Hp} {h : Heap} {a : Addr} {u : HO} (r : Rd H a u) (x : HOk P w H h) : ObjOk P w H h a u := by
  rcases r with r | ⟨o, r⟩
  · exact x a u r
  · obtain ⟨_, q⟩ := x a _ r
    exact q
noncomputable def Mut : Option HO → Prop
  | some (.lst _) => True
  | some (.dK _) => True
  | some (.dT _) => True
  | some (.set _ _) => True
  | some (.ins _ _ _) => True
  | some (.ext _) => True
  | _ => False
section
variable {P : Program} {w : World} {H : Hp} {h h' : Heap} {x e : Addr} {o' : HO}
private theorem HOk.write (ok : HOk P w H h) (mu : Mut (H x)) (he : e = x ∨ H e = some (.own x)) (k : ∀ b u, b ≠ e → h.get? b = some u → h'.get? b = some u) (heo : ∃ u, h'.get? e = some u)
    (new : ObjOk P w (upd H x o') h' x o') : HOk P w (upd H x o') h' := fun b u q => by
  have nown : ∀ c y, H c = some (.own y) → c ≠ x := fun c y r z => by subst z; rw [r] at mu; exact mu
  have ntup : ∀ c xs, H c = some (.tup xs) → c ≠ x := fun c xs r z => by subst z; rw [r] at mu; exact mu
  by_cases hb : b = x
  · subst hb; rw [upd_same] at q; cases q; exact new
  · rw [upd_ne hb] at q
    by_cases hbe : b = e
    · have q' : H b = some (.own x) := by
        rcases he with z | z
        · exact absurd (hbe.trans z) hb
        · rw [hbe]; exact z
      rw [q] at q'; cases q'
      obtain ⟨v, hv⟩ := heo
      exact ⟨v, by rw [hbe]; exact hv⟩
    · refine (ok b u q).stay (fun c v hc r => k c v ?_ r) (fun c r => by rw [upd_ne (nown c b r)]; exact r) fun c xs r => by rw [upd_ne (ntup c xs r)]; exact r
      rcases hc with rfl | hc
      · exact hbe
      · rintro rfl
        rcases he with z | z
        · exact nown c b hc z
        · rw [hc] at z; cases z; exact hb rfl
end
structure Un (fs ex : List Addr) (H H' : Hp) (h h' : Heap) : Prop where
  keep : ∀ b o, h.get? b = some o → H b = none → b ∉ fs → b ∉ ex → h'.get? b = some o
  slot : ∀ b o, h.get? b = some o → H b = none → b ∈ fs → b ∉ ex → ∃ sl, h'.get? b = some { o with slots := sl }
  free : ∀ b o, h.get? b = some o → H b = none → b ∉ ex → H' b = none
  there : ∀ b o, h.get? b = some o → b ∉ ex → ∃ o', h'.get? b = some o'
  tups : ∀ b xs, H b = some (.tup xs) → H' b = some (.tup xs)
  frzs : ∀ b o u, H b = some (.frz o u) → H' b = some (.frz o u)
  tbls : ∀ b ps, H b = some (.tbl ps) → ∃ more, H' b = some (.tbl (ps ++ more))
section
variable {fs fs' ex ex' : List Addr} {H H1 H2 : Hp} {h h1 h2 h' : Heap} {a x e : Addr} {o : HO}
private theorem Un.any (u : Un fs ex H H1 h h1) {b : Addr} {ob : Obj} (q : h.get? b = some ob) (n : H b = none) (hx : b ∉ ex) : ∃ sl, h1.get? b = some { ob with slots := sl } := by
  by_cases hb : b ∈ fs
  · exact u.slot b ob q n hb hx
  · exact ⟨ob.slots, u.keep b ob q n hb hx⟩
private theorem Un.kept (k : ∀ b u, h.get? b = some u → h'.get? b = some u) : Un fs ex H H h h' :=
  ⟨fun b ob q _ _ _ => k b ob q, fun b ob q _ _ _ => ⟨ob.slots, k b ob q⟩, fun _ _ _ n _ => n, fun b ob q _ => ⟨ob, k b ob q⟩, fun _ _ q => q, fun _ _ _ q => q, fun _ ps q => ⟨#[], by rw [q]; simp⟩⟩
private theorem Un.refl : Un fs ex H H h h := Un.kept fun _ _ q => q
private theorem Un.laid (k : ∀ b u, h.get? b = some u → h'.get? b = some u) (hp : h.objs.size ≤ a) (hn : H a = none) : Un fs ex H (upd H a o) h h' where
  keep := fun b u q _ _ _ => k b u q
  slot := fun b u q _ _ _ => ⟨u.slots, k b u q⟩
  free := fun b u q n _ => by rw [upd_ne (Nat.ne_of_lt (Nat.lt_of_lt_of_le (Heap.lt_size q) hp))]; exact n
  there := fun b u q _ => ⟨u, k b u q⟩
  tups := fun b xs q => by rw [upd_ne (ne_of_none q hn)]; exact q
  frzs := fun b u xs q => by rw [upd_ne (ne_of_none q hn)]; exact q
  tbls := fun b ps q => ⟨#[], by rw [upd_ne (ne_of_none q hn), q]; simp⟩
private theorem Un.write (mu : Mut (H x)) (he : e = x ∨ H e = some (.own x)) (k : ∀ b u, b ≠ e → h.get? b = some u → h'.get? b = some u) (heo : ∃ u, h'.get? e = some u) : Un fs ex H (upd H x o) h h' := by
  have hx : ∀ b, H b = none → b ≠ x := fun b n z => by subst z; rw [n] at mu; exact mu
  have hb : ∀ b, H b = none → b ≠ e := fun b n z => by
    subst z
    rcases he with r | r
    · exact hx b n r
    · rw [n] at r; cases r
  have hm : ∀ b u, H b = some u → ¬ Mut (some u) → b ≠ x := fun b u q nm z => by subst z; rw [q] at mu; exact nm mu
  refine ⟨fun b u q n _ _ => k b u (hb b n) q, fun b u q n _ _ => ⟨u.slots, k b u (hb b n) q⟩, fun b u q n _ => by rw [upd_ne (hx b n)]; exact n, fun b u q _ => ?_,
    fun b xs q => by rw [upd_ne (hm b _ q fun z => z)]; exact q, fun b u xs q => by rw [upd_ne (hm b _ q fun z => z)]; exact q, fun b ps q => ⟨#[], by rw [upd_ne (hm b _ q fun z => z), q]; simp⟩⟩
  by_cases hbe : b = e
  · subst hbe; exact heo
  · exact ⟨u, k b u hbe q⟩
end
noncomputable def trk (h : Heap) (H : Hp) : List Addr := (List.range h.objs.size).filter fun a => (H a).isSome
noncomputable def hidT (h : Heap) (H : Hp) : Heap := PySem.W.hideAll h (trk h H)
private theorem hidT_size (h : Heap) (H : Hp) : (hidT h H).objs.size = h.objs.size := PySem.W.hideAll_size _ _
private theorem hidT_get {h : Heap} {H : Hp} {b : Addr} {o : Obj} (e : h.get? b = some o) (n : H b = none) : (hidT h H).get? b = some o :=
  PySem.W.hideAll_get _ e fun hm => by
    have q : (H b).isSome = true := (List.mem_filter.mp hm).2
    rw [n] at q; simp at q
private theorem of_hidT {h : Heap} {H : Hp} {b : Addr} {o : Obj} (e : (hidT h H).get? b = some o) : h.get? b = some o ∧ H b = none := by
  have e' : h.get? b = some o := PySem.W.of_hideAll (trk h H) e
  refine ⟨e', ?_⟩
  cases q : H b with
  | none => rfl
  | some x =>
    have hm : b ∈ trk h H := List.mem_filter.mpr ⟨List.mem_range.mpr (Heap.lt_size e'), by simp [q]⟩
    have z : (hidT h H).get? b = none := PySem.W.hideAll_none (trk h H) hm
    rw [z] at e; cases e
end L2
namespace L2
open PySem PySem.Spec PyProof.Rows
structure Mod (K : PySem.W.Frag) (mg : Str → Option Value) (base : Heap) : Prop where
  kin : K.In base
  glob : base.Ns mainGlobals mg
  blt : ∃ mb, base.Ns builtinsNs mb ∧ ∀ x : Str, x ≠ "__name__" → mb x = bootBuiltins x
  nolimit : base.NoLimit
structure Cx where
  prog : Program
  w : World
  K : PySem.W.Frag
  mg : Str → Option Value
  base : Heap
  A : Around
  N : List Str
  s_0 : Shared
  H_0 : Hp
  env : Env
  outer : List Env
  stack : List Env
  ex : List Addr
  fn : Str → Bool
  calm : Bool
  pn : List (Addr × Obj)
  xe : Value → Shared → Prop
noncomputable def frs (l : List Env) : List Addr := l.filterMap (·.frame)
noncomputable abbrev Cx.fs (X : Cx) : List Addr := frs X.outer
noncomputable def Vis (sc : Scope) (x : Str) : Prop := sc.names.lookup x = some .local ∨ sc.names.lookup x = some .cell ∨ sc.names.lookup x = some .free
noncomputable def Loc (sc : Scope) (x : Str) : Prop := sc.names.lookup x = some .local ∨ sc.names.lookup x = some .cell
noncomputable def Look (env : Env) (h : Heap) (m : Str → Option Value) (x : Str) (u : Value) : Prop :=
  (env.kindOf x = some .local ∧ m x = some u) ∨ ((env.kindOf x = some .cell ∨ env.kindOf x = some .free) ∧ ∃ c, env.cells.lookup x = some c ∧ h.IsCell c (some u))
structure Cx.Ok (X : Cx) : Prop where
  mod : Mod X.K X.mg X.base
  kind : X.env.scope.kind = .function
  glob : X.env.globals = mainGlobals
  blt : X.env.builtins = builtinsNs
  above : X.s_0.heap.objs.size ≤ X.env.locals
  inj : ∀ x y c, X.env.cells.lookup x = some c → X.env.cells.lookup y = some c → x = y
  has : ∀ x, (X.env.kindOf x = some .cell ∨ X.env.kindOf x = some .free) → ∃ c, X.env.cells.lookup x = some c
  cab : ∀ x c, X.fn x = true → X.env.cells.lookup x = some c → X.s_0.heap.objs.size ≤ c
  hd : X.calm = true → X.A.handled = none
  frames : X.A.frames = some X.stack
  stk : X.stack = X.outer ∨ (X.stack = X.env :: X.outer ∧ X.env.frame = some X.env.locals)
  exf : ∀ b ∈ X.ex, b ≠ X.env.locals ∧ ∀ x c, X.env.cells.lookup x = some c → c ≠ b
  bs : ∀ b o, X.base.get? b = some o → X.s_0.heap.get? b = some o ∧ X.H_0 b = none
  bsz : X.base.objs.size ≤ X.s_0.heap.objs.size
  noex : ∀ b o, X.base.get? b = some o → b ∉ X.ex
  exfs : ∀ b ∈ X.ex, b ∉ X.fs
  funs : X.s_0.heap.FunFrames X.base X.outer
  frf : ∀ b ∈ X.fs, X.H_0 b = none
structure Inv (X : Cx) (pins : List (Addr × Obj)) (σ : List (Option V)) (H : Hp) (s : Shared) : Prop where
  ok : X.Ok
  os : s.os = X.s_0.os
  bare : AllBare s.gens
  base : Un X.fs X.ex X.H_0 H X.s_0.heap s.heap
  loc : ∃ m, s.heap.Ns X.env.locals m ∧ ∀ (i : Nat) (x : Str) (v : V), X.N[i]? = some x → σ[i]? = some (some v) → Vis X.env.scope x → ∃ u, RelV v u ∧ Look X.env s.heap m x u
  cell : ∀ x c, X.env.cells.lookup x = some c → ∃ v, s.heap.IsCell c v
  free : H X.env.locals = none
  freeC : ∀ x c, X.env.cells.lookup x = some c → H c = none
  pin : ∀ p ∈ X.pn ++ pins, s.heap.get? p.1 = some p.2 ∧ H p.1 = none ∧ p.1 ≠ X.env.locals ∧ p.1 ∉ X.fs ∧ ∀ v, p.2.data ≠ .cell v
  hok : HOk X.prog X.w H s.heap
  len : σ.length = X.N.length
section
variable {X : Cx} {pins : List (Addr × Obj)} {σ : List (Option V)} {H H' : Hp} {s : Shared} {h' : Heap}
private theorem Cx.Ok.nofr (ok : X.Ok) {b : Addr} {o : Obj} (e : X.base.get? b = some o) : b ∉ X.fs := fun hb => by
  have := (ok.funs.mem hb).1
  rw [e] at this; cases this
private theorem Inv.bs (I : Inv X pins σ H s) : ∀ b o, X.base.get? b = some o → s.heap.get? b = some o ∧ H b = none := fun b o e =>
  ⟨I.base.keep b o (I.ok.bs b o e).1 (I.ok.bs b o e).2 (I.ok.nofr e) (I.ok.noex b o e), I.base.free b o (I.ok.bs b o e).1 (I.ok.bs b o e).2 (I.ok.noex b o e)⟩
private theorem Inv.bk (I : Inv X pins σ H s) : ∀ b o, X.base.get? b = some o → s.heap.get? b = some o := fun b o e => (I.bs b o e).1
private theorem Inv.mod (I : Inv X pins σ H s) : Mod X.K X.mg X.base := I.ok.mod
private theorem Inv.kIn (I : Inv X pins σ H s) : X.K.In s.heap := I.ok.mod.kin.keeps I.bk
private theorem Inv.lt (I : Inv X pins σ H s) : X.env.locals < s.heap.objs.size := let ⟨_, hn, _⟩ := I.loc; hn.lt
private theorem Inv.sz (I : Inv X pins σ H s) : X.s_0.heap.objs.size ≤ s.heap.objs.size := Nat.le_trans I.ok.above (Nat.le_of_lt I.lt)
private theorem Inv.nofs (I : Inv X pins σ H s) {a : Addr} (h : s.heap.objs.size ≤ a) : a ∉ X.fs := fun hb => by
  obtain ⟨_, o, ho, _⟩ := I.ok.funs.mem hb
  exact absurd (Nat.lt_of_lt_of_le (Heap.lt_size ho) (Nat.le_trans I.sz h)) (Nat.lt_irrefl _)
private theorem Inv.cne (I : Inv X pins σ H s) : ∀ x c, X.env.cells.lookup x = some c → c ≠ X.env.locals := fun x c e z => by
  obtain ⟨v, o, ho, hd⟩ := I.cell x c e
  obtain ⟨m, ⟨o', es, ep, ho', hd', _⟩, _⟩ := I.loc
  rw [z, ho'] at ho; cases ho; rw [hd'] at hd; cases hd
private theorem Inv.funs (I : Inv X pins σ H s) : s.heap.FunFrames X.base X.outer := by
  have all : ∀ (l : List Env), (∀ b ∈ frs l, b ∈ X.fs) → X.s_0.heap.FunFrames X.base l → s.heap.FunFrames X.base l := by
    intro l
    induction l with
    | nil => intro _ _; trivial
    | cons env r ih =>
      intro hs hl
      obtain ⟨hk, ⟨L, o, hf, hn, ho, hd⟩, hr⟩ := hl
      have hL : L ∈ X.fs := hs L (by unfold frs; rw [List.filterMap_cons, hf]; exact List.mem_cons_self)
      obtain ⟨sl, e⟩ := I.base.slot L o ho (I.ok.frf L hL) hL fun z => I.ok.exfs L z hL
      exact ⟨hk, ⟨L, _, hf, hn, e, hd⟩, ih (fun b hb => hs b (by unfold frs; rw [List.filterMap_cons, hf]; exact List.mem_cons_of_mem _ hb)) hr⟩
  exact all X.outer (fun _ hb => hb) I.ok.funs
private theorem Inv.stack (I : Inv X pins σ H s) : s.heap.FunFrames X.base X.stack := by
  rcases I.ok.stk with e | ⟨e, hf⟩
  · rw [e]; exact I.funs
  · rw [e]
    obtain ⟨m, hn, _⟩ := I.loc
    refine .cons (by rw [I.ok.kind]; decide) hf hn ?_ I.funs
    exact Heap.get?_none_of_le (Nat.le_trans I.ok.bsz I.ok.above)
private theorem Inv.stkSub (I : Inv X pins σ H s) : ∀ b ∈ frs X.stack, b ∈ X.env.locals :: X.fs := fun b hb => by
  rcases I.ok.stk with e | ⟨e, hf⟩
  · rw [e] at hb; exact List.mem_cons_of_mem _ hb
  · rw [e] at hb
    unfold frs at hb
    rw [List.filterMap_cons, hf] at hb
    exact hb
private theorem Inv.stkFree (I : Inv X pins σ H s) : ∀ b ∈ frs X.stack, H b = none := fun b hb => by
  rcases List.mem_cons.mp (I.stkSub b hb) with e | hb
  · rw [e]; exact I.free
  · obtain ⟨_, o, ho, _⟩ := I.ok.funs.mem hb
    exact I.base.free b o ho (I.ok.frf b hb) fun z => I.ok.exfs b z hb
private theorem Inv.step {g' : Array GenState} {t' : Nat} {d' : Drawn} {ch : List Addr} (I : Inv X pins σ H s)
    (hch : ∀ b ∈ ch, (b ∈ X.ex ∨ X.s_0.heap.objs.size ≤ b) ∧ b ≠ X.env.locals ∧ (∀ x c, X.env.cells.lookup x = some c → c ≠ b) ∧ ∀ p ∈ X.pn ++ pins, p.1 ≠ b)
    (keep : ∀ b o, b ≠ X.env.locals → b ∉ X.fs → b ∉ ch → s.heap.get? b = some o → H b = none → h'.get? b = some o)
    (slot : ∀ b o, b ≠ X.env.locals → b ∈ X.fs → b ∉ ch → s.heap.get? b = some o → H b = none → ∃ sl, h'.get? b = some { o with slots := sl }) (free : ∀ b o, b ∉ ch → s.heap.get? b = some o → H b = none → H' b = none)
    (there : ∀ b o, b ∉ ch → s.heap.get? b = some o → ∃ o', h'.get? b = some o')
    (tups : ∀ b xs, H b = some (.tup xs) → H' b = some (.tup xs)) (frzs : ∀ b o u, H b = some (.frz o u) → H' b = some (.frz o u)) (tbls : ∀ b ps, H b = some (.tbl ps) → ∃ more, H' b = some (.tbl (ps ++ more)))
    (ns : ∀ m, s.heap.Ns X.env.locals m → h'.Ns X.env.locals m) (hok : HOk X.prog X.w H' h') (hg : AllBare g') :
    Inv X pins σ H' { s with heap := h', gens := g', drawn := d', toks := t' } := by
  have neL : ∀ b o, X.s_0.heap.get? b = some o → b ≠ X.env.locals := fun b o e => Nat.ne_of_lt (Nat.lt_of_lt_of_le (Heap.lt_size e) I.ok.above)
  have neC : ∀ b o, X.s_0.heap.get? b = some o → b ∉ X.ex → b ∉ ch := fun b o e hx hb => by
    rcases (hch b hb).1 with z | z
    · exact hx z
    · exact absurd (Nat.lt_of_lt_of_le (Heap.lt_size e) z) (Nat.lt_irrefl _)
  have cellK : ∀ x c, X.env.cells.lookup x = some c → ∀ v, s.heap.IsCell c v → h'.IsCell c v := fun x c e v ⟨o, ho, hd⟩ => by
    have nch : c ∉ ch := fun z => (hch c z).2.2.1 x c e rfl
    by_cases hc : c ∈ X.fs
    · obtain ⟨sl, q⟩ := slot c o (I.cne x c e) hc nch ho (I.freeC x c e)
      exact ⟨_, q, hd⟩
    · exact ⟨o, keep c o (I.cne x c e) hc nch ho (I.freeC x c e), hd⟩
  refine ⟨I.ok, I.os, hg, ⟨fun b o e n hb hx => ?_, fun b o e n hb hx => ?_, fun b o e n hx => ?_, fun b o e hx => ?_, fun b xs e => tups b xs (I.base.tups b xs e), fun b o xs e => frzs b o xs (I.base.frzs b o xs e), fun b ps e => ?_⟩, ?_, fun x c e => ?_, ?_, fun x c e => ?_, fun p hp => ?_, hok, I.len⟩
  · exact keep b o (neL b o e) hb (neC b o e hx) (I.base.keep b o e n hb hx) (I.base.free b o e n hx)
  · obtain ⟨sl, e1⟩ := I.base.slot b o e n hb hx
    obtain ⟨sl', e2⟩ := slot b _ (neL b o e) hb (neC b o e hx) e1 (I.base.free b o e n hx)
    exact ⟨sl', e2⟩
  · obtain ⟨o', e1⟩ := I.base.there b o e hx
    exact free b o' (neC b o e hx) e1 (I.base.free b o e n hx)
  · obtain ⟨o', e1⟩ := I.base.there b o e hx
    exact there b o' (neC b o e hx) e1
  · obtain ⟨m1, e1⟩ := I.base.tbls b ps e
    obtain ⟨m2, e2⟩ := tbls b _ e1
    exact ⟨m1 ++ m2, by rw [e2, Array.append_assoc]⟩
  · obtain ⟨m, hn, hl⟩ := I.loc
    refine ⟨m, ns m hn, fun i x v e1 e2 e3 => ?_⟩
    obtain ⟨u, r, l⟩ := hl i x v e1 e2 e3
    refine ⟨u, r, ?_⟩
    rcases l with l | ⟨k, c, e, z⟩
    · exact .inl l
    · exact .inr ⟨k, c, e, cellK x c e _ z⟩
  · obtain ⟨v, z⟩ := I.cell x c e
    exact ⟨v, cellK x c e v z⟩
  · obtain ⟨m, ⟨o, _, _, ho, _⟩, _⟩ := I.loc
    exact free _ o (fun z => (hch _ z).2.1 rfl) ho I.free
  · obtain ⟨v, o, ho, hd⟩ := I.cell x c e
    exact free c o (fun z => (hch c z).2.2.1 x c e rfl) ho (I.freeC x c e)
  · obtain ⟨e, n, ne, nf, d⟩ := I.pin p hp
    have nch : p.1 ∉ ch := fun z => (hch p.1 z).2.2.2 p hp rfl
    exact ⟨keep p.1 p.2 ne nf nch e n, free p.1 p.2 nch e n, ne, nf, d⟩
private theorem Inv.un {t' : Nat} (I : Inv X pins σ H s) (u : Un X.fs [] H H' s.heap h') (hok : HOk X.prog X.w H' h') : Inv X pins σ H' { s with heap := h', toks := t' } := by
  obtain ⟨m, ⟨o, es, ep, ho, r⟩, _⟩ := id I.loc
  obtain ⟨sl, hL⟩ := u.any ho I.free (by simp)
  exact I.step (g' := s.gens) (d' := s.drawn) (ch := []) (fun _ z => nomatch z) (fun b o _ hb _ e n => u.keep b o e n hb (by simp)) (fun b o _ hb _ e n => u.slot b o e n hb (by simp)) (fun b o _ e n => u.free b o e n (by simp)) (fun b o _ e => u.there b o e (by simp)) u.tups u.frzs u.tbls (fun m' hm => by
    obtain ⟨o', es', ep', ho', r'⟩ := hm
    rw [ho] at ho'; cases ho'
    exact ⟨_, es', ep', hL, r'⟩) hok I.bare
private theorem Inv.call {g' : Array GenState} {t' : Nat} {d' : Drawn} {ch : List Addr} (I : Inv X pins σ H s) (u : Un (frs X.stack) ch H H' s.heap h') (hok : HOk X.prog X.w H' h') (hg : AllBare g')
    (hch : ∀ b ∈ ch, (b ∈ X.ex ∨ X.s_0.heap.objs.size ≤ b) ∧ b ≠ X.env.locals ∧ (∀ x c, X.env.cells.lookup x = some c → c ≠ b) ∧ ∀ p ∈ X.pn ++ pins, p.1 ≠ b) :
    Inv X pins σ H' { s with heap := h', gens := g', drawn := d', toks := t' } := by
  obtain ⟨m, ⟨o, es, ep, ho, r⟩, _⟩ := id I.loc
  obtain ⟨sl, hL⟩ := u.any ho I.free fun z => (hch _ z).2.1 rfl
  exact I.step (ch := ch) hch (fun b o hL hb hc e n => u.keep b o e n (fun z => (List.mem_cons.mp (I.stkSub b z)).elim hL hb) hc) (fun b o _ _ hc e n => u.any e n hc) (fun b o hc e n => u.free b o e n hc) (fun b o hc e => u.there b o e hc) u.tups u.frzs u.tbls (fun m' hm => by
    obtain ⟨o', es', ep', ho', r'⟩ := hm
    rw [ho] at ho'; cases ho'
    exact ⟨_, es', ep', hL, r'⟩) hok hg
private theorem Inv.turned {t' : Nat} {it : Addr} (I : Inv X pins σ H s) (k : ∀ b o, b ≠ it → s.heap.get? b = some o → h'.get? b = some o) (hn : H it = none) (hL : it ≠ X.env.locals)
    (h1 : it ∈ X.ex ∨ X.s_0.heap.objs.size ≤ it) (h2 : ∀ x c, X.env.cells.lookup x = some c → c ≠ it) (h3 : ∀ p ∈ X.pn ++ pins, p.1 ≠ it) : Inv X pins σ H { s with heap := h', toks := t' } := by
  have nit : ∀ b u, H b = some u → b ≠ it := fun b u e z => by rw [z, hn] at e; cases e
  refine I.step (g' := s.gens) (d' := s.drawn) (ch := [it]) (fun b hb => ?_) (fun b o _ _ hc e _ => k b o (fun z => hc (by simp [z])) e) (fun b o _ _ hc e _ => ⟨o.slots, k b o (fun z => hc (by simp [z])) e⟩) (fun _ _ _ _ n => n)
    (fun b o hc e => ⟨o, k b o (fun z => hc (by simp [z])) e⟩) (fun _ _ e => e) (fun _ _ _ e => e) (fun b ps e => ⟨#[], by rw [e]; simp⟩) (fun m hm => ?_) (fun b u e => ?_) I.bare
  · have e : b = it := by simpa using hb
    subst e
    exact ⟨h1, hL, h2, h3⟩
  · obtain ⟨o, es, ep, ho, r⟩ := hm
    exact ⟨o, es, ep, k _ o (Ne.symm hL) ho, r⟩
  · refine (I.hok b u e).stay (fun c v hc q => k c v ?_ q) (fun _ q => q) fun _ _ q => q
    rcases hc with z | z
    · rw [z]; exact nit b u e
    · exact nit c _ z
private theorem Inv.tok (I : Inv X pins σ H s) (t : Nat) : Inv X pins σ H { s with toks := t } := I.un (h' := s.heap) (t' := t) Un.refl I.hok
private theorem Inv.kept {t' : Nat} (I : Inv X pins σ H s) (k : ∀ b u, s.heap.get? b = some u → h'.get? b = some u) : Inv X pins σ H { s with heap := h', toks := t' } := I.un (Un.kept k) (I.hok.kept k)
private theorem Inv.laid {a : Addr} {o : HO} {t' : Nat} (I : Inv X pins σ H s) (k : ∀ b u, s.heap.get? b = some u → h'.get? b = some u) (hp : s.heap.objs.size ≤ a) (new : ObjOk X.prog X.w (upd H a o) h' a o) :
    Inv X pins σ (upd H a o) { s with heap := h', toks := t' } := I.un (Un.laid k hp (I.hok.fresh hp)) (I.hok.laid k hp new)
private theorem Inv.write {x e : Addr} {o : HO} {t' : Nat} (I : Inv X pins σ H s) (mu : Mut (H x)) (he : e = x ∨ H e = some (.own x)) (k : ∀ b u, b ≠ e → s.heap.get? b = some u → h'.get? b = some u) (heo : ∃ u, h'.get? e = some u)
    (new : ObjOk X.prog X.w (upd H x o) h' x o) : Inv X pins σ (upd H x o) { s with heap := h', toks := t' } := I.un (Un.write mu he k heo) (I.hok.write mu he k heo new)
private theorem Inv.weak {σ' : List (Option V)} (I : Inv X pins σ H s) (hl : σ'.length = σ.length) (w : ∀ (i : Nat) v, σ'[i]? = some (some v) → σ[i]? = some (some v)) : Inv X pins σ' H s :=
  ⟨I.ok, I.os, I.bare, I.base, let ⟨m, hn, hl'⟩ := I.loc; ⟨m, hn, fun i x v e1 e2 e3 => hl' i x v e1 (w i v e2) e3⟩, I.cell, I.free, I.freeC, I.pin, I.hok, hl.trans I.len⟩
private theorem Inv.pins_of {pins' : List (Addr × Obj)} (I : Inv X pins σ H s) (h : ∀ p ∈ pins', s.heap.get? p.1 = some p.2 ∧ H p.1 = none ∧ p.1 ≠ X.env.locals ∧ p.1 ∉ X.fs ∧ ∀ v, p.2.data ≠ .cell v) : Inv X pins' σ H s :=
  ⟨I.ok, I.os, I.bare, I.base, I.loc, I.cell, I.free, I.freeC, fun p hp => (List.mem_append.mp hp).elim (fun z => I.pin p (List.mem_append_left _ z)) (h p), I.hok, I.len⟩
private theorem nodup_ix {N : List Str} (hN : N.Nodup) {i j : Nat} {x : Str} (a : N[i]? = some x) (b : N[j]? = some x) : i = j := by
  obtain ⟨h1, e1⟩ := List.getElem?_eq_some_iff.mp a
  obtain ⟨h2, e2⟩ := List.getElem?_eq_some_iff.mp b
  exact (List.getElem_inj hN).mp (e1.trans e2.symm)
private theorem store_ok2 {M : Model} {A : Around} {E : Value → Shared → Prop} {i : Nat} {x : Str} {v : V} {u : Value} {Q : Unit → Shared → Prop} (I : Inv X pins σ H s) (hN : X.N.Nodup) (hi : X.N[i]? = some x) (hx : Loc X.env.scope x) (r : RelV v u)
    (h : ∀ s', Inv X pins (σ.set i (some v)) H s' → (∃ a, Heap.SameBut a s.heap s'.heap ∧ (a = X.env.locals ∨ X.env.cells.lookup x = some a)) → Q () s') (hf : X.fn x = true ∨ X.env.scope.names.lookup x = some .local := by first | exact .inl rfl | exact .inr rfl | assumption) : wpAny M A (storeName X.env x u) Q E s := by
  obtain ⟨m, hn, hl⟩ := id I.loc
  have hcls : (X.env.scope.kind == .class || (X.env.scope.kind == .module && X.env.locals != X.env.globals)) = false := by rw [I.ok.kind]; rfl
  have hiσ : i < σ.length := by rw [I.len]; exact (List.getElem?_eq_some_iff.mp hi).1
  have cne := I.cne
  have tracked : ∀ {a : Addr} {h' : Heap}, (∃ o, s.heap.get? a = some o ∧ H a = none) → Heap.SameBut a s.heap h' → HOk X.prog X.w H h' := fun {a h'} ha hs b ob e => by
    obtain ⟨_, _, hfree⟩ := ha
    refine (I.hok b ob e).stay (fun c w' hc q => (hs.2 c ?_).trans q) (fun _ q => q) fun _ _ q => q
    rintro rfl
    rcases hc with rfl | hc
    · rw [hfree] at e; cases e
    · rw [hfree] at hc; cases hc
  rcases hx with hk | hk
  · refine wpAny_storeName_local hk hn (fun h' hn' hs => ?_) hcls
    obtain ⟨oL, _, _, hoL, _⟩ := id hn
    refine h _ ⟨I.ok, I.os, I.bare, ⟨fun b o e n hb hx => ?_, fun b o e n hb hx => ?_, I.base.free, fun b o e hx => ?_, I.base.tups, I.base.frzs, I.base.tbls⟩, ⟨_, hn', fun j y v' e1 e2 e3 => ?_⟩, fun y c e => ?_, I.free, I.freeC, fun p hp => ?_, tracked ⟨oL, hoL, I.free⟩ hs, by simpa using I.len⟩ ⟨_, hs, .inl rfl⟩
    · exact (hs.2 b (Nat.ne_of_lt (Nat.lt_of_lt_of_le (Heap.lt_size e) I.ok.above))).trans (I.base.keep b o e n hb hx)
    · obtain ⟨sl, e1⟩ := I.base.slot b o e n hb hx
      exact ⟨sl, (hs.2 b (Nat.ne_of_lt (Nat.lt_of_lt_of_le (Heap.lt_size e) I.ok.above))).trans e1⟩
    · obtain ⟨o', e1⟩ := I.base.there b o e hx
      exact ⟨o', (hs.2 b (Nat.ne_of_lt (Nat.lt_of_lt_of_le (Heap.lt_size e) I.ok.above))).trans e1⟩
    · by_cases hj : j = i
      · subst hj
        rw [hi] at e1; cases e1
        rw [List.getElem?_set_self hiσ] at e2
        cases e2
        exact ⟨u, r, .inl ⟨hk, by simp⟩⟩
      · rw [List.getElem?_set_ne (Ne.symm hj)] at e2
        obtain ⟨u', r', q⟩ := hl j y v' e1 e2 e3
        refine ⟨u', r', ?_⟩
        rcases q with ⟨k, e⟩ | ⟨k, c, e, z⟩
        · refine .inl ⟨k, ?_⟩
          have : y ≠ x := fun e => hj (nodup_ix hN e1 (e ▸ hi))
          simp [this, e]
        · exact .inr ⟨k, c, e, z.sameBut hs (cne y c e)⟩
    · obtain ⟨w', z⟩ := I.cell y c e
      exact ⟨w', z.sameBut hs (cne y c e)⟩
    · obtain ⟨e, n, ne, nf, d⟩ := I.pin p hp
      exact ⟨(hs.2 p.1 ne).trans e, n, ne, nf, d⟩
  · have hfn : X.fn x = true := by
      rcases hf with z | z
      · exact z
      · rw [z] at hk; cases hk
    obtain ⟨c, hc⟩ := I.ok.has x (.inl hk)
    obtain ⟨w', z⟩ := I.cell x c hc
    refine wpAny_storeName_cell I.ok.kind hk hc z (fun h' hc' hs => ?_)
    obtain ⟨oc, hoc, hocd⟩ := id z
    refine h { s with heap := h' } ⟨I.ok, I.os, I.bare, ⟨fun b o e n hb hx => ?_, fun b o e n hb hx => ?_, I.base.free, fun b o e hx => ?_, I.base.tups, I.base.frzs, I.base.tbls⟩, ⟨m, hn.sameBut hs (Ne.symm (cne x c hc)), fun j y v' e1 e2 e3 => ?_⟩, fun y c' e => ?_, I.free, I.freeC, fun p hp => ?_, tracked ⟨oc, hoc, I.freeC x c hc⟩ hs, by simpa using I.len⟩ ⟨c, hs, .inr hc⟩
    · exact (hs.2 b (Nat.ne_of_lt (Nat.lt_of_lt_of_le (Heap.lt_size e) (I.ok.cab x c hfn hc)))).trans (I.base.keep b o e n hb hx)
    · obtain ⟨sl, e1⟩ := I.base.slot b o e n hb hx
      exact ⟨sl, (hs.2 b (Nat.ne_of_lt (Nat.lt_of_lt_of_le (Heap.lt_size e) (I.ok.cab x c hfn hc)))).trans e1⟩
    · obtain ⟨o', e1⟩ := I.base.there b o e hx
      exact ⟨o', (hs.2 b (Nat.ne_of_lt (Nat.lt_of_lt_of_le (Heap.lt_size e) (I.ok.cab x c hfn hc)))).trans e1⟩
    · by_cases hj : j = i
      · subst hj
        rw [hi] at e1; cases e1
        rw [List.getElem?_set_self hiσ] at e2
        cases e2
        exact ⟨u, r, .inr ⟨.inl hk, c, hc, hc'⟩⟩
      · rw [List.getElem?_set_ne (Ne.symm hj)] at e2
        obtain ⟨u', r', q⟩ := hl j y v' e1 e2 e3
        refine ⟨u', r', ?_⟩
        rcases q with q | ⟨k, c', e, z'⟩
        · exact .inl q
        · refine .inr ⟨k, c', e, z'.sameBut hs ?_⟩
          rintro rfl
          exact hj (nodup_ix hN e1 (I.ok.inj _ _ _ e hc ▸ hi))
    · by_cases hcc : c' = c
      · subst hcc; exact ⟨_, hc'⟩
      · obtain ⟨w2, z2⟩ := I.cell y c' e
        exact ⟨w2, z2.sameBut hs hcc⟩
    · obtain ⟨e, n, ne, nf, d⟩ := I.pin p hp
      refine ⟨(hs.2 p.1 ?_).trans e, n, ne, nf, d⟩
      intro q
      rw [q, hoc] at e
      have q' : oc = p.2 := Option.some.inj e
      exact d w' (by rw [← q']; exact hocd)
private theorem store_ok {M : Model} {A : Around} {E : Value → Shared → Prop} {i : Nat} {x : Str} {v : V} {u : Value} {Q : Unit → Shared → Prop} (I : Inv X pins σ H s) (hN : X.N.Nodup) (hi : X.N[i]? = some x) (hx : Loc X.env.scope x) (r : RelV v u)
    (h : ∀ s', Inv X pins (σ.set i (some v)) H s' → Q () s') (hf : X.fn x = true ∨ X.env.scope.names.lookup x = some .local := by first | exact .inl rfl | exact .inr rfl | assumption) : wpAny M A (storeName X.env x u) Q E s :=
  store_ok2 I hN hi hx r (fun s' I' _ => h s' I') hf
private theorem Inv.call' {s' : Shared} {ch : List Addr} (I : Inv X pins σ H s) (ho : s'.os = s.os) (u : Un (frs X.stack) ch H H' s.heap s'.heap) (hok : HOk X.prog X.w H' s'.heap) (hg : AllBare s'.gens)
    (hch : ∀ b ∈ ch, (b ∈ X.ex ∨ X.s_0.heap.objs.size ≤ b) ∧ b ≠ X.env.locals ∧ (∀ x c, X.env.cells.lookup x = some c → c ≠ b) ∧ ∀ p ∈ X.pn ++ pins, p.1 ≠ b) : Inv X pins σ H' s' := by
  obtain ⟨h', g', d', t', o'⟩ := s'
  have e : o' = s.os := ho
  subst e
  exact I.call (g' := g') (t' := t') (d' := d') u hok hg hch
end
noncomputable abbrev XK := Value → Option Addr → Hp → Prop
noncomputable abbrev St := List (Option V)
noncomputable abbrev VK := V → Hp → Prop
noncomputable abbrev TE := St → Hp → VK → Prop
noncomputable abbrev TT := St → Hp → (Bool → Hp → Prop) → Prop
noncomputable abbrev TA := St → Hp → (List V → Hp → Prop) → Prop
structure Ends where
  nx : St → Hp → Prop
  rt : VK
  bk : St → Hp → Prop := fun _ _ => False
  ct : St → Hp → Prop := fun _ _ => False
noncomputable abbrev TS := Ends → St → Hp → Prop
noncomputable def EP (X : Cx) (pins : List (Addr × Obj)) (σ : St) (Q : VK) (u : Value) (s' : Shared) : Prop := ∃ v H', Inv X pins σ H' s' ∧ RelV v u ∧ Q v H'
noncomputable def TP (X : Cx) (pins : List (Addr × Obj)) (σ : St) (Q : Bool → Hp → Prop) (b : Bool) (s' : Shared) : Prop := ∃ H', Inv X pins σ H' s' ∧ Q b H'
noncomputable def AP (X : Cx) (pins : List (Addr × Obj)) (σ : St) (Q : List V → Hp → Prop) (us : List Value) (s' : Shared) : Prop := ∃ vs H', Inv X pins σ H' s' ∧ Vals vs us ∧ Q vs H'
noncomputable def SP (X : Cx) (pins : List (Addr × Obj)) (D : Ends) (f : Flow) (s' : Shared) : Prop :=
  match f with
  | .next => ∃ σ' H', Inv X pins σ' H' s' ∧ D.nx σ' H'
  | .brk => ∃ σ' H', Inv X pins σ' H' s' ∧ D.bk σ' H'
  | .cont => ∃ σ' H', Inv X pins σ' H' s' ∧ D.ct σ' H'
  | .ret u => ∃ v σ' H', Inv X pins σ' H' s' ∧ RelV v u ∧ D.rt v H'
noncomputable def PE (X : Cx) (e : Expr) (t : TE) : Prop :=
  ∀ (pins : List (Addr × Obj)) (s : Shared) (σ : St) (H : Hp) (Q : VK), Inv X pins σ H s → t σ H Q → wpAny (model X.prog X.w) X.A (eval e X.env) (EP X pins σ Q) X.xe s
noncomputable def PT (X : Cx) (e : Expr) (t : TT) : Prop :=
  ∀ (pins : List (Addr × Obj)) (s : Shared) (σ : St) (H : Hp) (Q : Bool → Hp → Prop), Inv X pins σ H s → t σ H Q → wpAny (model X.prog X.w) X.A (isTrue e X.env (eval e X.env)) (TP X pins σ Q) X.xe s
noncomputable def PW (X : Cx) (e : Expr) (t : TT) : Prop :=
  ∀ (whole : Sem Value) (pins : List (Addr × Obj)) (s : Shared) (σ : St) (H : Hp) (Q : Bool → Hp → Prop), Inv X pins σ H s → t σ H Q → wpAny (model X.prog X.w) X.A (isTrue e X.env whole) (TP X pins σ Q) X.xe s
private theorem PW.pt {X : Cx} {e : Expr} {t : TT} (h : PW X e t) : PT X e t := h _
noncomputable def PA (X : Cx) (es : List Expr) (t : TA) : Prop :=
  ∀ (pos : Pos) (pins : List (Addr × Obj)) (s : Shared) (σ : St) (H : Hp) (Q : List V → Hp → Prop), Inv X pins σ H s → t σ H Q → wpAny (model X.prog X.w) X.A (spliced (backTo pos (starEach es X.env))) (AP X pins σ Q) X.xe s
noncomputable def PS (X : Cx) (st : Stmt) (t : TS) : Prop :=
  ∀ (pins : List (Addr × Obj)) (s : Shared) (σ : St) (H : Hp) (D : Ends), Inv X pins σ H s → t D σ H → wpAny (model X.prog X.w) X.A (exec st X.env) (SP X pins D) X.xe s
noncomputable def PSs (X : Cx) (st : List Stmt) (t : TS) : Prop :=
  ∀ (pins : List (Addr × Obj)) (s : Shared) (σ : St) (H : Hp) (D : Ends), Inv X pins σ H s → t D σ H → wpAny (model X.prog X.w) X.A (execs st X.env) (SP X pins D) X.xe s
private theorem thn {α : Type} {t : Sem α} {Q Q' : α → Shared → Prop} {M : Model} {A : Around} {E : Value → Shared → Prop} {s : Shared} (h : wpAny M A t Q E s) (hQ : ∀ a s, Q a s → Q' a s) : wpAny M A t Q' E s := wpAny_mono h hQ fun _ _ x => x
end L2
namespace L2
open PySem PySem.Spec PyProof.Rows
section
variable {X : Cx}
noncomputable def tVar (i : Nat) : TE := fun σ H Q => ∃ v, σ[i]? = some (some v) ∧ Q v H
noncomputable def tC (v : V) : TE := fun _ H Q => Q v H
private theorem pe_var {i : Nat} {x : Str} {pos : Pos} (hN : X.N[i]? = some x) (hv : Vis X.env.scope x) (hd : (x == ("__debug__" : Str)) = false := by decide) (hcd : (x == ("__classdict__" : Str)) = false := by decide) : PE X (.Name x pos) (tVar i) := by
  intro pins s σ H Q I h
  obtain ⟨v, e, h⟩ := h
  obtain ⟨m, hn, hl⟩ := I.loc
  obtain ⟨u, r, l⟩ := hl i x v hN e hv
  have fin : EP X pins σ Q u s := ⟨v, H, I, r, h⟩
  rcases l with ⟨hk, hm⟩ | ⟨hk, c, hc, hcell⟩
  · exact wpAny_Name (wpAny_loadName_local I.ok.kind hk hn hm fin) hd
  · rcases hk with hk | hk
    · exact wpAny_Name (wpAny_loadName_cell I.ok.kind hk hc hcell fin) hd
    · exact wpAny_Name (wpAny_loadName_free I.ok.kind hk hc hcell fin hcd) hd
private theorem pe_int {i j pos} : PE X (.Constant (.int i) j pos) (tC (.int i)) := fun _ _ _ H _ I h => wpAny_Constant_int ⟨.int i, H, I.tok _, ⟨_, rfl⟩, h⟩
private theorem pe_bl {b j pos} : PE X (.Constant (.bool b) j pos) (tC (.bl b)) := fun _ _ _ H _ I h => Constant_bool ⟨.bl b, H, I, rfl, h⟩
private theorem pe_non {j pos} : PE X (.Constant .none j pos) (tC .non) := fun _ _ _ H _ I h => Constant_none ⟨.non, H, I, rfl, h⟩
noncomputable def Gl (X : Cx) (x : Str) : Prop := X.env.kindOf x = some .globalImplicit
private theorem ld_glob {E : Value → Shared → Prop} {pins : List (Addr × Obj)} {s : Shared} {σ : St} {H : Hp} {x : Str} {u : Value} {pos : Pos} {Q : Value → Shared → Prop} (I : Inv X pins σ H s) (hg : Gl X x) (hm : X.mg x = some u) (h : Q u s)
    (hd : (x == ("__debug__" : Str)) = false := by decide) : wpAny (model X.prog X.w) X.A (eval (.Name x pos) X.env) Q E s :=
  Calls.Name_function_global I.ok.kind hg (Calls.loadGlobal_global (by rw [I.ok.glob]; exact I.mod.glob.keeps I.bk) hm h) hd
private theorem ld_blt {E : Value → Shared → Prop} {pins : List (Addr × Obj)} {s : Shared} {σ : St} {H : Hp} {x : Str} {u : Value} {pos : Pos} {Q : Value → Shared → Prop} (I : Inv X pins σ H s) (hg : Gl X x) (hm : X.mg x = none) (hv : bootBuiltins x = some u) (h : Q u s)
    (hn : x ≠ "__name__" := by decide) (hd : (x == ("__debug__" : Str)) = false := by decide) : wpAny (model X.prog X.w) X.A (eval (.Name x pos) X.env) Q E s := by
  obtain ⟨mb, h1, h2⟩ := I.mod.blt
  exact Calls.Name_function_global I.ok.kind hg (Calls.loadGlobal_builtin (by rw [I.ok.glob]; exact I.mod.glob.keeps I.bk) hm (by rw [I.ok.blt]; exact h1.keeps I.bk) ((h2 x hn).trans hv) h) hd
private theorem pe_glob {x : Str} {v : V} {u : Value} {pos : Pos} (hg : Gl X x) (hm : X.mg x = some u) (r : RelV v u) (hd : (x == ("__debug__" : Str)) = false := by decide) : PE X (.Name x pos) (tC v) :=
  fun _ _ _ H _ I h => ld_glob I hg hm ⟨v, H, I, r, h⟩ hd
variable {a b : Expr} {ta tb : TE} {pos : Pos}
noncomputable def PC (X : Cx) (op : CmpOp) (a b : Expr) (t : TE) : Prop :=
  ∀ (pins : List (Addr × Obj)) (s : Shared) (σ : St) (H : Hp) (Q : VK), Inv X pins σ H s → t σ H Q →
    wpAny (model X.prog X.w) X.A (eval a X.env) (fun v s₁ => wpAny (model X.prog X.w) X.A (eval b X.env) (fun u s₂ => wpAny (model X.prog X.w) X.A (compareOp op v u) (EP X pins σ Q) X.xe s₂) X.xe s₁) X.xe s
private theorem nobehind (b : Expr) {op : CmpOp} (h : op ≠ .In) (h2 : op ≠ .NotIn) : behindInMarks op b = false := by
  have e1 : (op == CmpOp.In) = false := by cases op <;> first | rfl | exact absurd rfl h
  have e2 : (op == CmpOp.NotIn) = false := by cases op <;> first | rfl | exact absurd rfl h2
  cases b <;> simp [behindInMarks, e1, e2]
noncomputable def tIsN (ta : TE) : TE := fun σ H Q => ta σ H fun x H1 => Q (.bl (decide (x = .non))) H1
private theorem RelV.none_iff {x : V} {v : Value} (r : RelV x v) : (v == Value.none) = decide (x = .non) := by
  cases x with
  | non => cases r; rfl
  | bl _ => cases r; rfl
  | int _ => obtain ⟨t, rfl⟩ := r; rfl
  | str _ => obtain ⟨t, rfl⟩ := r; rfl
  | byt _ => obtain ⟨t, rfl⟩ := r; rfl
  | flt _ => obtain ⟨t, rfl⟩ := r; rfl
  | ref _ => cases r; rfl
  | ty _ => cases r; rfl
private theorem pc_isN {j pos'} (ha : PE X a ta) : PC X .Is a (.Constant .none j pos') (tIsN ta) := by
  intro pins s σ H Q I h
  refine thn (ha pins s σ H _ I h) fun v s1 ⟨x, H1, I1, r1, q1⟩ => ?_
  exact Constant_none (is_none_gen ⟨.bl _, H1, I1, by rw [r1.none_iff]; rfl, q1⟩)
noncomputable def tB (t : TE) : TT := fun σ H Q => t σ H fun x H1 => ∃ c, x = .bl c ∧ Q c H1
private theorem pt_cmp {op : CmpOp} {t : TE} (h : PC X op a b t) (h1 : behindInMarks op b = false := by first | exact nobehind _ (by decide) (by decide) | rfl) : PT X (.Compare a [op] [b] pos) (tB t) := by
  intro pins s σ H Q I hw
  refine wpAny_isTrue_Compare1 (thn (h pins s σ H _ I hw) fun v s1 h1 => thn h1 fun u s2 h2 => thn h2 fun c s3 ⟨x, H1, I1, r1, q1⟩ => ?_) h1
  obtain ⟨d, rfl, q⟩ := q1
  cases r1
  exact wpAny_truthy_bool ⟨H1, I1, q⟩
variable {tA tB' : TT} {rest : List Expr}
noncomputable def tAnd (t u : TT) : TT := fun σ H Q => t σ H fun c H1 => if c = true then u σ H1 Q else Q false H1
noncomputable def tOr (t u : TT) : TT := fun σ H Q => t σ H fun c H1 => if c = true then Q true H1 else u σ H1 Q
noncomputable def tNot (t : TT) : TT := fun σ H Q => t σ H fun c H1 => Q (!c) H1
private theorem pw_and1 (ha : PT X a tA) : PW X (.BoolOp .And [a] pos) tA := by
  intro wh pins s σ H Q I h
  refine isTrue_and (thn (ha pins s σ H Q I h) fun c s1 e => ?_)
  cases c with
  | true => exact isTrue_and_nil e
  | false => exact e
private theorem pw_or1 (ha : PT X a tA) : PW X (.BoolOp .Or [a] pos) tA := by
  intro wh pins s σ H Q I h
  refine isTrue_or (thn (ha pins s σ H Q I h) fun c s1 e => ?_)
  cases c with
  | false => exact isTrue_or_nil e
  | true => exact e
private theorem pw_and (ha : PT X a tA) (hb : PW X (.BoolOp .And (b :: rest) pos) tB') : PW X (.BoolOp .And (a :: b :: rest) pos) (tAnd tA tB') := by
  intro wh pins s σ H Q I h
  refine isTrue_and (thn (ha pins s σ H _ I h) fun c s1 ⟨H1, I1, q1⟩ => ?_)
  cases c with
  | true => exact hb wh pins s1 σ H1 Q I1 q1
  | false => exact ⟨H1, I1, q1⟩
private theorem pw_or (ha : PT X a tA) (hb : PW X (.BoolOp .Or (b :: rest) pos) tB') : PW X (.BoolOp .Or (a :: b :: rest) pos) (tOr tA tB') := by
  intro wh pins s σ H Q I h
  refine isTrue_or (thn (ha pins s σ H _ I h) fun c s1 ⟨H1, I1, q1⟩ => ?_)
  cases c with
  | true => exact ⟨H1, I1, q1⟩
  | false => exact hb wh pins s1 σ H1 Q I1 q1
private theorem pt_not (ha : PT X a tA) : PT X (.UnaryOp .Not a pos) (tNot tA) := by
  intro pins s σ H Q I h
  exact isTrue_not (ha pins s σ H (fun c H1 => Q (!c) H1) I h)
noncomputable def tAndV (ta tb : TE) : TE := fun σ H Q => ta σ H fun x H1 => ∃ c, x = .bl c ∧ if c = true then tb σ H1 Q else Q (.bl false) H1
noncomputable def tOrV (ta tb : TE) : TE := fun σ H Q => ta σ H fun x H1 => ∃ c, x = .bl c ∧ if c = true then Q (.bl true) H1 else tb σ H1 Q
noncomputable def tNotV (ta : TE) : TE := fun σ H Q => ta σ H fun x H1 => ∃ c, x = .bl c ∧ Q (.bl (!c)) H1
private theorem pe_one {op} {t : TE} (h : PE X a t) : PE X (.BoolOp op [a] pos) t := fun pins s σ H Q I hw => BoolOp_one (h pins s σ H Q I hw)
private theorem pe_and (ha : PE X a ta) (hb : PE X (.BoolOp .And (b :: rest) pos) tb) : PE X (.BoolOp .And (a :: b :: rest) pos) (tAndV ta tb) := by
  intro pins s σ H Q I h
  refine BoolOp_and (thn (ha pins s σ H _ I h) fun v s1 ⟨x, H1, I1, r1, q1⟩ => ?_)
  obtain ⟨c, rfl, q1⟩ := q1
  cases r1
  refine wpAny_truthy_bool ?_
  cases c with
  | true => exact hb pins s1 σ H1 Q I1 q1
  | false => exact ⟨.bl false, H1, I1, rfl, q1⟩
private theorem pe_not (ha : PE X a ta) : PE X (.UnaryOp .Not a pos) (tNotV ta) := by
  intro pins s σ H Q I h
  refine UnaryOp_ (thn (ha pins s σ H _ I h) fun v s1 ⟨x, H1, I1, r1, q1⟩ => ?_)
  obtain ⟨c, rfl, q1⟩ := q1
  cases r1
  exact not_of (wpAny_truthy_bool ⟨.bl (!c), H1, I1, rfl, q1⟩)
noncomputable def tIf (t : TT) (ta tb : TE) : TE := fun σ H Q => t σ H fun c H1 => if c = true then ta σ H1 Q else tb σ H1 Q
private theorem pe_ifExp {c : Expr} (hc : PT X c tA) (ha : PE X a ta) (hb : PE X b tb) : PE X (.IfExp c a b pos) (tIf tA ta tb) := by
  intro pins s σ H Q I h
  refine wpAny_IfExp (thn (hc pins s σ H _ I h) fun d s1 ⟨H1, I1, q1⟩ => ?_)
  cases d with
  | true => exact ha pins s1 σ H1 Q I1 q1
  | false => exact hb pins s1 σ H1 Q I1 q1
end
end L2
namespace L2
open PySem PySem.Spec PyProof.Rows
noncomputable def SqL (K : PySem.W.Frag) (H : Hp) (a : Addr) (xs : List V) : Prop :=
  Rd H a (.lst xs) ∨
    ∃ (o : Obj) (its : Array Value) (n : Nat), K.lookup a = some o ∧ o.cls = .type "list" ∧ o.dict = none ∧ o.data = .seq its n ∧ its.size ≤ sizeLine ∧ Vals xs its.toList
noncomputable def SqT (K : PySem.W.Frag) (H : Hp) (a : Addr) (xs : List V) : Prop :=
  Rd H a (.tup xs) ∨
    ∃ (o : Obj) (its : Array Value) (n : Nat), K.lookup a = some o ∧ o.cls = .type "tuple" ∧ o.data = .seq its n ∧ its.size ≤ sizeLine ∧ Vals xs its.toList
noncomputable def absV : Value → Option V
  | .none => some .non
  | .bool b => some (.bl b)
  | .int i _ => some (.int i)
  | .str x _ => some (.str x)
  | .bytes b _ => some (.byt b)
  | .float b _ => some (.flt b)
  | .ref a => some (.ref a)
  | .type n => some (.ty n)
  | _ => none
private theorem RelV.abs {x : V} {u : Value} (r : RelV x u) : absV u = some x := by
  cases x with
  | non => cases r; rfl
  | bl _ => cases r; rfl
  | int _ => obtain ⟨t, rfl⟩ := r; rfl
  | str _ => obtain ⟨t, rfl⟩ := r; rfl
  | byt _ => obtain ⟨t, rfl⟩ := r; rfl
  | flt _ => obtain ⟨t, rfl⟩ := r; rfl
  | ref _ => cases r; rfl
  | ty _ => cases r; rfl
private theorem RelV.inj {x y : V} {u : Value} (r : RelV x u) (q : RelV y u) : x = y := Option.some.inj (r.abs.symm.trans q.abs)
private theorem Vals.inj : ∀ {xs ys : List V} {us : List Value}, Vals xs us → Vals ys us → xs = ys
  | _, _, _, .nil, .nil => rfl
  | _, _, _, .cons r t, .cons r' t' => by rw [r.inj r', Vals.inj t t']
section
variable {X : Cx} {pins : List (Addr × Obj)} {σ : St} {H : Hp} {s : Shared} {a : Addr} {xs ys : List V}
private theorem SqL.of {K : PySem.W.Frag} (h : H a = some (.lst xs)) : SqL K H a xs := .inl (.inl h)
private theorem SqT.of {K : PySem.W.Frag} (h : H a = some (.tup xs)) : SqT K H a xs := .inl (.inl h)
private theorem Inv.list (I : Inv X pins σ H s) (h : SqL X.K H a xs) : ∃ its : List Value, Vals xs its ∧ PlainL s.heap a its.toArray ∧ xs.length ≤ sizeLine := by
  rcases h with h | ⟨o, its, n, hk, hc, hd, hs, hz, r⟩
  · obtain ⟨z, its, n, r, e⟩ := h.ok I.hok
    exact ⟨its, r, ⟨_, n, e, rfl, rfl, rfl⟩, z⟩
  · refine ⟨its.toList, r, ⟨o, n, I.kIn a o hk, hc, hd, by simpa using hs⟩, ?_⟩
    have e := r.length
    simp only [Array.length_toList] at e
    omega
private theorem Inv.tuple (I : Inv X pins σ H s) (h : SqT X.K H a xs) : ∃ its : List Value, Vals xs its ∧ IsTup s.heap a its.toArray ∧ xs.length ≤ sizeLine := by
  rcases h with h | ⟨o, its, n, hk, hc, hs, hz, r⟩
  · obtain ⟨z, its, r, p⟩ := h.ok I.hok
    exact ⟨its, r, p, z⟩
  · refine ⟨its.toList, r, ⟨o, I.kIn a o hk, hc, n, by simpa using hs⟩, ?_⟩
    have e := r.length
    simp only [Array.length_toList] at e
    omega
private theorem Inv.list_inj (I : Inv X pins σ H s) (h : SqL X.K H a xs) (h' : SqL X.K H a ys) : xs = ys := by
  obtain ⟨its, r, ⟨o, n, e, _, _, d⟩, _⟩ := I.list h
  obtain ⟨its', r', ⟨o', n', e', _, _, d'⟩, _⟩ := I.list h'
  rw [e] at e'; cases e'
  rw [d] at d'
  injection d' with d1 _
  have : its = its' := by simpa using congrArg Array.toList d1
  subst this
  exact r.inj r'
private theorem Inv.tuple_inj (I : Inv X pins σ H s) (h : SqT X.K H a xs) (h' : SqT X.K H a ys) : xs = ys := by
  obtain ⟨its, r, ⟨o, e, _, n, d⟩, _⟩ := I.tuple h
  obtain ⟨its', r', ⟨o', e', _, n', d'⟩, _⟩ := I.tuple h'
  rw [e] at e'; cases e'
  rw [d] at d'
  injection d' with d1 _
  have : its = its' := by simpa using congrArg Array.toList d1
  subst this
  exact r.inj r'
end
noncomputable abbrev Cx.wish (X : Cx) (E : Value → Shared → Prop) : Cx := { X with xe := E }
noncomputable abbrev Cx.nox (X : Cx) : Cx := X.wish fun _ _ => False
private theorem Cx.Ok.wish {X : Cx} (ok : X.Ok) (E : Value → Shared → Prop) : (X.wish E).Ok :=
  ⟨ok.mod, ok.kind, ok.glob, ok.blt, ok.above, ok.inj, ok.has, ok.cab, ok.hd, ok.frames, ok.stk, ok.exf, ok.bs, ok.bsz, ok.noex, ok.exfs, ok.funs, ok.frf⟩
private theorem Cx.Ok.unwish {X : Cx} {E : Value → Shared → Prop} (ok : (X.wish E).Ok) : X.Ok :=
  ⟨ok.mod, ok.kind, ok.glob, ok.blt, ok.above, ok.inj, ok.has, ok.cab, ok.hd, ok.frames, ok.stk, ok.exf, ok.bs, ok.bsz, ok.noex, ok.exfs, ok.funs, ok.frf⟩
section
variable {X : Cx} {pins : List (Addr × Obj)} {σ : St} {H : Hp} {s : Shared} {E : Value → Shared → Prop}
private theorem Inv.wish (I : Inv X pins σ H s) (E : Value → Shared → Prop) : Inv (X.wish E) pins σ H s := ⟨I.ok.wish E, I.os, I.bare, I.base, I.loc, I.cell, I.free, I.freeC, I.pin, I.hok, I.len⟩
private theorem Inv.unwish (I : Inv (X.wish E) pins σ H s) : Inv X pins σ H s := ⟨I.ok.unwish, I.os, I.bare, I.base, I.loc, I.cell, I.free, I.freeC, I.pin, I.hok, I.len⟩
private theorem SP.unwish {D : Ends} {f : Flow} {s' : Shared} (h : SP (X.wish E) pins D f s') : SP X pins D f s' := by
  cases f with
  | next => obtain ⟨σ', H', I, q⟩ := h; exact ⟨σ', H', I.unwish, q⟩
  | brk => obtain ⟨σ', H', I, q⟩ := h; exact ⟨σ', H', I.unwish, q⟩
  | cont => obtain ⟨σ', H', I, q⟩ := h; exact ⟨σ', H', I.unwish, q⟩
  | ret u => obtain ⟨v, σ', H', I, r, q⟩ := h; exact ⟨v, σ', H', I.unwish, r, q⟩
private theorem PSs.nox {st : List Stmt} {t : TS} (h : PSs X.nox st t) : PSs X st t := fun pins s σ H D I hw =>
  wpAny_mono (h pins s σ H D (I.wish _) hw) (fun _ _ q => q.unwish) fun _ _ z => False.elim z
end
section
variable {X : Cx} {st : Stmt} {rest : List Stmt} {t u : TS} {e : Expr} {te : TE} {pos : Pos}
noncomputable def tNext : TS := fun D σ H => D.nx σ H
noncomputable def tSeq (t u : TS) : TS := fun D σ H => t { D with nx := u D } σ H
private theorem pss_nil : PSs X [] tNext := fun _ _ σ H _ I h => wpAny_execs_nil ⟨σ, H, I, h⟩
private theorem pss_cons (h1 : PS X st t) (h2 : PSs X rest u) : PSs X (st :: rest) (tSeq t u) := by
  intro pins s σ H D I h
  refine wpAny_execs_cons (thn (h1 pins s σ H { D with nx := u D } I h) fun f s1 q => ?_)
  cases f with
  | next =>
    obtain ⟨σ', H', I', q⟩ := q
    exact h2 pins s1 σ' H' D I' q
  | ret v => exact q
  | brk => exact q
  | cont => exact q
private theorem pss_one (h1 : PS X st t) : PSs X [st] t := by
  intro pins s σ H D I h
  refine wpAny_execs_cons (thn (h1 pins s σ H D I h) fun f s1 q => ?_)
  cases f with
  | next => exact wpAny_execs_nil q
  | ret v => exact q
  | brk => exact q
  | cont => exact q
private theorem Inv.quiet {pins : List (Addr × Obj)} {σ : St} {H : Hp} {s : Shared} (I : Inv X pins σ H s) : interactive X.env = false := by simp [interactive, I.ok.kind]
noncomputable def tDrop (te : TE) : TS := fun D σ H => te σ H fun _ H1 => D.nx σ H1
private theorem ps_expr (he : PE X e te) (hs : swapsWith e none pos.line X.env = pure false := by rfl) : PS X (.Expr e pos) (tDrop te) := by
  intro pins s σ H D I h
  exact wpAny_Expr_any (thn (he pins s σ H _ I h) fun v s1 ⟨x, H1, I1, r1, q1⟩ => ⟨σ, H1, I1, q1⟩) I.quiet hs
noncomputable def tRet (te : TE) : TS := fun D σ H => te σ H D.rt
private theorem ps_ret (he : PE X e te) : PS X (.Return (some e) pos) (tRet te) := by
  intro pins s σ H D I h
  exact wpAny_Return_some (thn (he pins s σ H _ I h) fun v s1 ⟨x, H1, I1, r1, q1⟩ => ⟨x, σ, H1, I1, r1, q1⟩)
noncomputable def tIfS (c : TT) (t u : TS) : TS := fun D σ H => c σ H fun b H1 => if b = true then t D σ H1 else u D σ H1
private theorem ps_if {c : Expr} {a b : List Stmt} {tc : TT} (hc : PT X c tc) (ha : PSs X a t) (hb : PSs X b u) : PS X (.If c a b pos) (tIfS tc t u) := by
  intro pins s σ H D I h
  refine wpAny_If (thn (hc pins s σ H _ I h) fun d s1 ⟨H1, I1, q1⟩ => ?_)
  cases d with
  | true => exact ha pins s1 σ H1 D I1 q1
  | false => exact hb pins s1 σ H1 D I1 q1
end
noncomputable abbrev TG := V → St → Hp → (St → Hp → Prop) → Prop
noncomputable abbrev TGs := List V → St → Hp → (St → Hp → Prop) → Prop
noncomputable def PG (X : Cx) (target : Expr) (t : TG) : Prop :=
  ∀ (pins : List (Addr × Obj)) (s : Shared) (σ : St) (H : Hp) (v : V) (u : Value) (Q : St → Hp → Prop), Inv X pins σ H s → RelV v u → t v σ H Q →
    wpAny (model X.prog X.w) X.A (assign target X.env u) (fun _ s' => ∃ σ' H', Inv X pins σ' H' s' ∧ Q σ' H') X.xe s
noncomputable def PGs (X : Cx) (ts : List Expr) (t : TGs) : Prop :=
  ∀ (pins : List (Addr × Obj)) (s : Shared) (σ : St) (H : Hp) (vs : List V) (us : List Value) (Q : St → Hp → Prop), Inv X pins σ H s → Vals vs us → t vs σ H Q →
    wpAny (model X.prog X.w) X.A (assignInOrder ((assignEach ts X.env).map (·.2)) us) (fun _ s' => ∃ σ' H', Inv X pins σ' H' s' ∧ Q σ' H') X.xe s
section
variable {X : Cx} {pos : Pos}
noncomputable def gName (i : Nat) : TG := fun v σ H Q => Q (σ.set i (some v)) H
private theorem pg_name {i : Nat} {x : Str} (hN : X.N.Nodup) (hi : X.N[i]? = some x) (hx : Loc X.env.scope x) (hf : X.fn x = true ∨ X.env.scope.names.lookup x = some .local := by first | exact .inl rfl | exact .inr rfl | assumption) : PG X (.Name x pos) (gName i) := by
  intro pins s σ H v u Q I r h
  exact wpAny_assign_Name (store_ok I hN hi hx r (fun s' I' => ⟨_, H, I', h⟩) hf)
noncomputable def gNil : TGs := fun vs σ H Q => vs = [] ∧ Q σ H
noncomputable def gCons (t : TG) (u : TGs) : TGs := fun vs σ H Q => ∃ v r, vs = v :: r ∧ t v σ H fun σ' H' => u r σ' H' Q
private theorem pgs_nil : PGs X [] gNil := by
  intro pins s σ H vs us Q I r h
  obtain ⟨e, h⟩ := h
  subst e
  cases r
  exact assignInOrder_nil ⟨σ, H, I, h⟩
private theorem pgs_cons {e : Expr} {es : List Expr} {t : TG} {u : TGs} (h1 : PG X e t) (h2 : PGs X es u)
    (hs : (assignEach (e :: es) X.env).map (·.2) = assign e X.env :: (assignEach es X.env).map (·.2) := by rfl) : PGs X (e :: es) (gCons t u) := by
  intro pins s σ H vs us Q I r h
  obtain ⟨v, vr, e1, h⟩ := h
  subst e1
  cases r with
  | cons r rr =>
    rw [hs]
    refine assignInOrder_cons (thn (h1 pins s σ H _ _ _ I r h) fun _ s1 ⟨σ1, H1, I1, q1⟩ => ?_)
    exact h2 pins s1 σ1 H1 _ _ Q I1 rr q1
noncomputable def gTup (K : PySem.W.Frag) (n : Nat) (t : TGs) : TG := fun v σ H Q => ∃ a xs, v = .ref a ∧ SqT K H a xs ∧ xs.length = n ∧ t xs σ H Q
private theorem pg_tup {es : List Expr} {k : Nat} {t : TGs} {n : Nat} (hc : X.calm = true) (h : PGs X es t)
    (hn : (assignEach es X.env).length = n := by rfl) (hst : (assignEach es X.env).findIdx? (·.1) = none := by rfl) : PG X (.Tuple es k pos) (gTup X.K n t) := by
  intro pins s σ H v u Q I r hw
  obtain ⟨a, xs, e1, hq, hl, hw⟩ := hw
  subst e1
  cases r
  obtain ⟨its, rv, ht, hz⟩ := I.tuple hq
  refine assign_Tuple_tuple (I.ok.hd hc) ht (by simp [hn, ← hl, rv.length]) hst fun h' hx => ?_
  have I1 : Inv X pins σ H { s with heap := h' } := I.kept (t' := s.toks) fun b o e => hx b o (Nat.ne_of_lt (Heap.lt_size e)) e
  exact h pins _ σ H xs _ Q I1 (by simpa using rv) hw
noncomputable def tAsg (te : TE) (g : TG) : TS := fun D σ H => te σ H fun x H1 => g x σ H1 D.nx
private theorem ps_set {i : Nat} {x : Str} {e : Expr} {te : TE} {pos' : Pos} (hN : X.N.Nodup) (hi : X.N[i]? = some x) (hx : Loc X.env.scope x) (he : PE X e te) (hs : swapsWith e (some (.Name x pos')) pos.line X.env = pure false := by rfl) (hf : X.fn x = true ∨ X.env.scope.names.lookup x = some .local := by first | exact .inl rfl | exact .inr rfl | assumption) :
    PS X (.Assign [.Name x pos'] e pos) (tAsg te (gName i)) := by
  intro pins s σ H D I h
  refine wpAny_Assign_Name (thn (he pins s σ H _ I h) fun v s1 ⟨y, H1, I1, r1, q1⟩ => ?_) hs
  exact store_ok I1 hN hi hx r1 (fun s2 I2 => ⟨_, H1, I2, q1⟩) hf
end
section
variable {X : Cx} {pos : Pos}
noncomputable def tWhile (c : TT) (tb : TS) : TS := fun D σ H => ∃ W : Nat → St → Hp → Prop, (∃ m, W m σ H) ∧ ∀ m σ H, W m σ H →
  c σ H fun b H1 => if b = true then ∃ N : St → Hp → Prop, (∀ σ' H', N σ' H' → ∃ m', m' < m ∧ W m' σ' H') ∧ tb { D with nx := N, ct := N, bk := D.nx } σ H1 else D.nx σ H1
private theorem ps_while {c : Expr} {body : List Stmt} {tc : TT} {tb : TS} (hp : PassesOwn (model X.prog X.w) X.A X.env X.xe) (hc : PT X c tc) (hb : PSs X body tb) : PS X (.While c body [] pos) (tWhile tc tb) := by
  intro pins s σ H D I h
  obtain ⟨W, ⟨m0, w0⟩, turn⟩ := h
  refine wpAny_While (codeAny_whileLoop (fun n s' => ∃ σ' H', Inv X pins σ' H' s' ∧ W n σ' H') ?_ m0 ⟨σ, H, I, w0⟩)
  rintro n s1 ⟨σ1, H1, I1, w1⟩
  refine wpAny_passesOwn hp (thn (hc pins s1 σ1 H1 _ I1 (turn n σ1 H1 w1)) fun b s2 ⟨H2, I2, q2⟩ => ?_)
  cases b with
  | true =>
    obtain ⟨N, hN, q2⟩ := q2
    rw [if_pos rfl]
    refine wpAny_passesOwn hp (thn (hb pins s2 σ1 H2 _ I2 q2) fun f s3 q3 => ?_)
    cases f with
    | next =>
      obtain ⟨σ3, H3, I3, n3⟩ := q3
      obtain ⟨m', hm, w3⟩ := hN σ3 H3 n3
      exact ⟨m', hm, σ3, H3, I3, w3⟩
    | cont =>
      obtain ⟨σ3, H3, I3, n3⟩ := q3
      obtain ⟨m', hm, w3⟩ := hN σ3 H3 n3
      exact ⟨m', hm, σ3, H3, I3, w3⟩
    | brk => exact q3
    | ret v => exact q3
  | false =>
    rw [if_neg Bool.false_ne_true]
    exact wpAny_execs_nil ⟨σ1, H2, I2, q2⟩
end
structure It where
  go : Nat → Hp → Prop
  yld : Nat → Hp → V → Hp → Prop
  stop : Nat → Hp → Prop
noncomputable def FpOk (X : Cx) (pins : List (Addr × Obj)) (H : Hp) (b : Addr) : Prop :=
  H b = none ∧ b ≠ X.env.locals ∧ b ∉ X.fs ∧ (b ∈ X.ex ∨ X.s_0.heap.objs.size ≤ b) ∧ (∀ x c, X.env.cells.lookup x = some c → c ≠ b) ∧ ∀ p ∈ X.pn ++ pins, p.1 ≠ b
private theorem Inv.fpOk {X : Cx} {pins : List (Addr × Obj)} {σ : St} {H H' : Hp} {s : Shared} {b : Addr} (I : Inv X pins σ H s) (hb : s.heap.objs.size ≤ b) (hn : H' b = none) : FpOk X pins H' b := by
  refine ⟨hn, Nat.ne_of_gt (Nat.lt_of_lt_of_le I.lt hb), I.nofs hb, .inr (Nat.le_trans I.sz hb), fun x c e z => ?_, fun p hp z => ?_⟩
  · obtain ⟨v, q⟩ := I.cell x c e
    exact absurd (Nat.lt_of_lt_of_le q.lt (by rw [z]; exact hb)) (Nat.lt_irrefl _)
  · exact absurd (Nat.lt_of_lt_of_le (Heap.lt_size (I.pin p hp).1) (by rw [z]; exact hb)) (Nat.lt_irrefl _)
structure Turn (P : Program) (w : World) (K : PySem.W.Frag) (tg : Expr) (J : It) (fp : List Addr) (it : Addr) (tn : Nat → Heap → Prop) : Prop where
  mem : it ∈ fp
  obj : ∀ i h, tn i h → ∀ b ∈ fp, ∃ o, h.get? b = some o ∧ ∀ v, o.data ≠ .cell v
  keep : ∀ i h h', tn i h → (∀ b ∈ fp, ∀ o, h.get? b = some o → h'.get? b = some o) → tn i h'
  item : ∀ (X : Cx), X.prog = P → X.w = w → X.K = K → X.calm = true → ∀ (i : Nat) (pins : List (Addr × Obj)) (s : Shared) (σ : St) (H : Hp) (E : Value → Shared → Prop), Inv X pins σ H s → (∀ b ∈ fp, FpOk X pins H b) → tn i s.heap → J.go i H →
    wpAny (model P w) X.A (pyNext (.ref it)) (fun r s1 => ∃ u, r = some u ∧
      wpAny (model P w) X.A (letOwnedTupleGo tg (.ref it) u) (fun _ s2 => ∃ x H', Inv X pins σ H' s2 ∧ RelV x u ∧ J.yld i H x H' ∧ tn (i + 1) s2.heap ∧ ∀ b ∈ fp, H' b = none) E s1) E s
  done : ∀ (X : Cx), X.prog = P → X.w = w → X.K = K → X.calm = true → ∀ (i : Nat) (pins : List (Addr × Obj)) (s : Shared) (σ : St) (H : Hp) (E : Value → Shared → Prop), Inv X pins σ H s → (∀ b ∈ fp, FpOk X pins H b) → tn i s.heap → J.stop i H →
    wpAny (model P w) X.A (pyNext (.ref it)) (fun r s1 => r = none ∧ Inv X pins σ H s1) E s
  self : ∀ (A : Around) (i : Nat) (s : Shared) (Q : Value → Shared → Prop) (E : Value → Shared → Prop), tn i s.heap → Q (.ref it) s → wpAny (model P w) A (pyIter (.ref it)) Q E s
noncomputable abbrev TI := St → Hp → (It → Hp → Prop) → Prop
noncomputable def PIE (X : Cx) (pins : List (Addr × Obj)) (σ : St) (tg : Expr) (R : It → Hp → Prop) (itv : Value) (s2 : Shared) : Prop :=
  ∃ (it : Addr) (fp : List Addr) (tn : Nat → Heap → Prop) (J : It) (H' : Hp), itv = .ref it ∧ Inv X pins σ H' s2 ∧ Turn X.prog X.w X.K tg J fp it tn ∧ tn 0 s2.heap ∧ (∀ b ∈ fp, FpOk X pins H' b) ∧ R J H'
noncomputable def PI (X : Cx) (tg iter : Expr) (wi : TI) : Prop :=
  ∀ (pins : List (Addr × Obj)) (s : Shared) (σ : St) (H : Hp) (R : It → Hp → Prop), Inv X pins σ H s → wi σ H R →
    wpAny (model X.prog X.w) X.A (eval iter X.env) (fun v s1 => wpAny (model X.prog X.w) X.A (pyIter v) (PIE X pins σ tg R) X.xe s1) X.xe s
private theorem go_of {M : Model} {A : Around} {E : Value → Shared → Prop} {s : Shared} {tg : Expr} {it : Addr} {u : Value} {o : Obj} {n : String} {vs : Array Value} {Q : Unit → Shared → Prop} (ho : s.heap.get? it = some o) (hc : o.cls = .type n) (hd : o.data = .fields vs)
    (hn : ["enumerate", "zip", "dict_itemiterator", "dict_reverseitemiterator", "odict_iterator", "itertools.zip_longest", "itertools.pairwise"].contains n = false) (hQ : Q () s) : wpAny M A (letOwnedTupleGo tg (.ref it) u) Q E s := by
  unfold letOwnedTupleGo
  cases tg <;> first
    | exact wpAny_pure hQ
    | (cases u <;> first
        | exact wpAny_pure hQ
        | (refine wpAny_bind (wpAny_load ho ?_)
           rw [hc, hd]
           show wpAny M A (if (["enumerate", "zip", "dict_itemiterator", "dict_reverseitemiterator", "odict_iterator", "itertools.zip_longest", "itertools.pairwise"].contains n && vs[0]? == some (rawInt _)) = true then _ else _) Q E s
           rw [if_neg (by intro h; rw [hn, Bool.false_and] at h; cases h)]
           exact wpAny_pure hQ))
noncomputable def Itl (K : PySem.W.Frag) (a : Addr) : It :=
  ⟨fun i H => ∃ xs x, SqL K H a xs ∧ xs[i]? = some x, fun i H x H' => H' = H ∧ ∀ xs, SqL K H a xs → xs[i]? = some x, fun i H => ∃ xs, SqL K H a xs ∧ xs.length ≤ i⟩
noncomputable def Itt (K : PySem.W.Frag) (a : Addr) : It :=
  ⟨fun i H => ∃ xs x, SqT K H a xs ∧ xs[i]? = some x, fun i H x H' => H' = H ∧ ∀ xs, SqT K H a xs → xs[i]? = some x, fun i H => ∃ xs, SqT K H a xs ∧ xs.length ≤ i⟩
noncomputable def Itr (lo : Int) (n : Nat) : It := ⟨fun i _ => i < n, fun i H x H' => H' = H ∧ x = .int (lo + i), fun i _ => n ≤ i⟩
private theorem turn_list {P : Program} {w : World} {K : PySem.W.Frag} {tg : Expr} (a it : Addr) : Turn P w K tg (Itl K a) [it] it (fun i h => h.IsListIter it a i) where
  mem := by simp
  obj := fun i h st b hb => by
    have e : b = it := by simpa using hb
    subst e
    obtain ⟨o, e, c, d⟩ := st
    exact ⟨o, e, fun v z => by rw [d] at z; cases z⟩
  keep := fun i h h' st k => st.at fun o e => k it (by simp) o e
  item := by
    intro X hP hw hK hc i pins s σ H E I hf st hg
    subst hP hw hK
    obtain ⟨xs, x, hq, hx⟩ := hg
    obtain ⟨its, rv, p, hz⟩ := I.list hq
    obtain ⟨u, hu, ru⟩ := rv.get hx
    obtain ⟨f0, f1, f2, f3, f4, f5⟩ := hf it (by simp)
    refine wpAny_pyNext_list_item st p.isList (x := u) (by simpa using hu) fun h' st' sb => ?_
    have I1 : Inv X pins σ H { s with heap := h' } := I.turned (t' := s.toks) (fun b o hb e => (sb.2 b hb).trans e) f0 f1 f3 f4 f5
    obtain ⟨o, e, c, d⟩ := id st'
    exact ⟨u, rfl, go_of (s := { s with heap := h' }) e c d (by decide) ⟨x, H, I1, ru, ⟨rfl, fun ys hy => by rw [I.list_inj hy hq]; exact hx⟩, st', fun b hb => (hf b hb).1⟩⟩
  done := by
    intro X hP hw hK hc i pins s σ H E I hf st hg
    subst hP hw hK
    obtain ⟨xs, hq, hx⟩ := hg
    obtain ⟨its, rv, p, hz⟩ := I.list hq
    obtain ⟨f0, f1, f2, f3, f4, f5⟩ := hf it (by simp)
    have hl := rv.length
    exact wpAny_pyNext_list_end (I.ok.hd hc) st p.isList (by simp; omega) fun h' eb => ⟨rfl, I.turned (t' := s.toks) (fun b o hb e => eb b o hb e) f0 f1 f3 f4 f5⟩
  self := fun _ _ _ _ _ st h => wpAny_pyIter_listiter st h
private theorem turn_tuple {P : Program} {w : World} {K : PySem.W.Frag} {tg : Expr} (a it : Addr) : Turn P w K tg (Itt K a) [it] it (fun i h => h.IsTupleIter it a i) where
  mem := by simp
  obj := fun i h st b hb => by
    have e : b = it := by simpa using hb
    subst e
    obtain ⟨o, e, c, d⟩ := st
    exact ⟨o, e, fun v z => by rw [d] at z; cases z⟩
  keep := fun i h h' st k => st.at fun o e => k it (by simp) o e
  item := by
    intro X hP hw hK hc i pins s σ H E I hf st hg
    subst hP hw hK
    obtain ⟨xs, x, hq, hx⟩ := hg
    obtain ⟨its, rv, p, hz⟩ := I.tuple hq
    obtain ⟨u, hu, ru⟩ := rv.get hx
    obtain ⟨f0, f1, f2, f3, f4, f5⟩ := hf it (by simp)
    refine wpAny_pyNext_tuple_item st (show s.heap.IsTuple a its.toArray from p) (x := u) (by simpa using hu) fun h' st' sb => ?_
    have I1 : Inv X pins σ H { s with heap := h' } := I.turned (t' := s.toks) (fun b o hb e => (sb.2 b hb).trans e) f0 f1 f3 f4 f5
    obtain ⟨o, e, c, d⟩ := id st'
    exact ⟨u, rfl, go_of (s := { s with heap := h' }) e c d (by decide) ⟨x, H, I1, ru, ⟨rfl, fun ys hy => by rw [I.tuple_inj hy hq]; exact hx⟩, st', fun b hb => (hf b hb).1⟩⟩
  done := by
    intro X hP hw hK hc i pins s σ H E I hf st hg
    subst hP hw hK
    obtain ⟨xs, hq, hx⟩ := hg
    obtain ⟨its, rv, p, hz⟩ := I.tuple hq
    obtain ⟨f0, f1, f2, f3, f4, f5⟩ := hf it (by simp)
    have hl := rv.length
    exact wpAny_pyNext_tuple_end (I.ok.hd hc) st (show s.heap.IsTuple a its.toArray from p) (by simp; omega) fun h' eb => ⟨rfl, I.turned (t' := s.toks) (fun b o hb e => eb b o hb e) f0 f1 f3 f4 f5⟩
  self := fun _ _ _ _ _ st h => wpAny_pyIter_tupleiter st h
private theorem turn_range {P : Program} {w : World} {K : PySem.W.Frag} {tg : Expr} (it : Addr) (lo : Int) (n : Nat) : Turn P w K tg (Itr lo n) [it] it (fun i h => IsRangeIter h it (lo + (i : Nat) * 1) ((n : Int) - (i : Nat)) 1) where
  mem := by simp
  obj := fun i h st b hb => by
    have e : b = it := by simpa using hb
    subst e
    exact ⟨_, st, fun v z => by
      have z' : Data.fields _ = Data.cell v := z
      cases z'⟩
  keep := fun i h h' st k => k it (by simp) _ st
  item := by
    intro X hP hw hK hc i pins s σ H E I hf st hg
    subst hP hw hK
    obtain ⟨f0, f1, f2, f3, f4, f5⟩ := hf it (by simp)
    have W := Walks.range (prog := X.prog) (w := X.w) (I.ok.hd hc) it lo 1 n
    refine W.item i s _ _ hg st fun v h' tk hv st' kk => ?_
    obtain ⟨t, rfl⟩ := hv
    have I1 : Inv X pins σ H { s with heap := h', toks := tk } := I.turned (fun b o hb e => kk b o (by simpa using hb) e) f0 f1 f3 f4 f5
    refine ⟨_, rfl, go_of (s := { s with heap := h', toks := tk }) (n := "range_iterator") st' rfl rfl (by decide) ⟨.int (lo + i), H, I1, ⟨t, ?_⟩, ⟨rfl, rfl⟩, st', fun b hb => (hf b hb).1⟩⟩
    rw [Int.mul_one]
  done := by
    intro X hP hw hK hc i pins s σ H E I hf st hg
    subst hP hw hK
    obtain ⟨f0, f1, f2, f3, f4, f5⟩ := hf it (by simp)
    exact wpAny_pyNext_range_end (I.ok.hd hc) st (by have : n ≤ i := hg; omega) fun h' eb => ⟨rfl, I.turned (t' := s.toks) (fun b o hb e => eb b o hb e) f0 f1 f3 f4 f5⟩
  self := fun _ _ _ _ _ st h => wpAny_pyIter_rangeiter st h
end L2
namespace L2
open PySem PySem.Spec PyProof.Rows
section
variable {X : Cx} {tg : Expr}
noncomputable def iList (K : PySem.W.Frag) (tl : TE) : TI := fun σ H R => tl σ H fun x H1 => ∃ a, x = .ref a ∧ (∃ xs, SqL K H1 a xs) ∧ R (Itl K a) H1
noncomputable def iTup (K : PySem.W.Frag) (tl : TE) : TI := fun σ H R => tl σ H fun x H1 => ∃ a, x = .ref a ∧ (∃ xs, SqT K H1 a xs) ∧ R (Itt K a) H1
private theorem pi_list {l : Expr} {tl : TE} (hl : PE X l tl) : PI X tg l (iList X.K tl) := by
  intro pins s σ H R I h
  refine thn (hl pins s σ H _ I h) fun v s1 ⟨x, H1, I1, r1, q1⟩ => ?_
  obtain ⟨a, e, ⟨xs, hq⟩, q⟩ := q1
  subst e
  cases r1
  obtain ⟨its, rv, p, hz⟩ := I1.list hq
  refine wpAny_pyIter_list p.isList ?_
  refine ⟨s1.heap.objs.size, [s1.heap.objs.size], _, _, H1, rfl, I1.kept (t' := s1.toks) fun b o e => Heap.get?_push_of_some _ e, turn_list a _, ⟨_, Heap.get?_push_size _ rfl, rfl, rfl⟩, fun b hb => ?_, q⟩
  have e : b = s1.heap.objs.size := by simpa using hb
  subst e
  exact I1.fpOk (Nat.le_refl _) (I1.hok.fresh (Nat.le_refl _))
private theorem pi_tup {l : Expr} {tl : TE} (hl : PE X l tl) : PI X tg l (iTup X.K tl) := by
  intro pins s σ H R I h
  refine thn (hl pins s σ H _ I h) fun v s1 ⟨x, H1, I1, r1, q1⟩ => ?_
  obtain ⟨a, e, ⟨xs, hq⟩, q⟩ := q1
  subst e
  cases r1
  obtain ⟨its, rv, p, hz⟩ := I1.tuple hq
  refine wpAny_pyIter_tuple (show s1.heap.IsTuple a its.toArray from p) ?_
  refine ⟨s1.heap.objs.size, [s1.heap.objs.size], _, _, H1, rfl, I1.kept (t' := s1.toks) fun b o e => Heap.get?_push_of_some _ e, turn_tuple a _, ⟨_, Heap.get?_push_size _ rfl, rfl, rfl⟩, fun b hb => ?_, q⟩
  have e : b = s1.heap.objs.size := by simpa using hb
  subst e
  exact I1.fpOk (Nat.le_refl _) (I1.hok.fresh (Nat.le_refl _))
private theorem range_it {pins : List (Addr × Obj)} {σ : St} {H : Hp} {s : Shared} {R : It → Hp → Prop} {E : Value → Shared → Prop} {lo hi : Int} {t u v : Tok} {tk : Nat} (I : Inv X pins σ H s) (h1 : -(2 ^ 62) ≤ lo) (h2 : lo < 2 ^ 62) (h3 : -(2 ^ 62) ≤ hi) (h4 : hi < 2 ^ 62)
    (q : R (Itr lo (hi - lo).toNat) H) : wpAny (model X.prog X.w) X.A (pyIter (.ref s.heap.objs.size)) (PIE X pins σ tg R) E { s with heap := s.heap.push { cls := .type "range", data := .fields #[.int lo t, .int hi u, .int 1 v] }, toks := tk } := by
  refine wpAny_pyIter_range (IsRange.new ..) (small_one h1 h2 h3 h4) ?_
  have I1 : Inv X pins σ H { s with heap := s.heap.push { cls := .type "range", data := .fields #[.int lo t, .int hi u, .int 1 v] }, toks := tk } := I.kept fun b o e => Heap.get?_push_of_some _ e
  refine ⟨(s.heap.push { cls := .type "range", data := .fields #[.int lo t, .int hi u, .int 1 v] }).objs.size, [(s.heap.push { cls := .type "range", data := .fields #[.int lo t, .int hi u, .int 1 v] }).objs.size], _, _, H, rfl,
    I1.kept (t' := tk) fun b o e => Heap.get?_push_of_some _ e, turn_range _ lo (hi - lo).toNat, ?_, fun b hb => ?_, q⟩
  · have e1 : lo + ((0 : Nat) : Int) * 1 = lo := by simp
    have e2 : (((hi - lo).toNat : Nat) : Int) - ((0 : Nat) : Int) = Builtin.Range.rangeSize lo hi 1 := by rw [rangeSize_one]; split <;> omega
    show IsRangeIter _ _ (lo + ((0 : Nat) : Int) * 1) ((((hi - lo).toNat : Nat) : Int) - ((0 : Nat) : Int)) 1
    rw [e1, e2]
    exact Heap.get?_push_size _ rfl
  · have e : b = (s.heap.push { cls := .type "range", data := .fields #[.int lo t, .int hi u, .int 1 v] }).objs.size := by simpa using hb
    subst e
    exact I1.fpOk (Nat.le_refl _) (I1.hok.fresh (Nat.le_refl _))
noncomputable def iRng1 (ta : TA) : TI := fun σ H R => ta σ H fun vs H1 => ∃ j : Int, vs = [.int j] ∧ -(2 ^ 62) ≤ j ∧ j < 2 ^ 62 ∧ R (Itr 0 j.toNat) H1
noncomputable def iRng2 (ta : TA) : TI := fun σ H R => ta σ H fun vs H1 => ∃ i j : Int, vs = [.int i, .int j] ∧ (-(2 ^ 62) ≤ i ∧ i < 2 ^ 62 ∧ -(2 ^ 62) ≤ j ∧ j < 2 ^ 62) ∧ R (Itr i (j - i).toNat) H1
private theorem pi_range1 {a : Expr} {ta : TA} {p pos : Pos} (hg : Gl X "range") (hm : X.mg "range" = none) (ha : PA X [a] ta) (hs : starEach [a] X.env = [(false, eval a X.env)] := by rfl) : PI X tg (.Call (.Name "range" p) [a] [] pos) (iRng1 ta) := by
  intro pins s σ H R I h
  refine Call_ (ld_blt I hg hm boot_range (PyProof.Rows.callWith_type1 (thn (ha pos pins s σ H _ I h) fun us s1 ⟨vs, H1, I1, r1, q1⟩ => ?_) hs rfl))
  obtain ⟨j, e, q1, q2, q⟩ := q1
  subst e
  cases r1 with
  | cons r rr =>
    cases rr
    obtain ⟨t, rfl⟩ := r
    exact call_range_1 (range_it I1 (by omega) (by omega) q1 q2 (by simpa using q))
private theorem pi_range2 {a b : Expr} {ta : TA} {p pos : Pos} (hg : Gl X "range") (hm : X.mg "range" = none) (ha : PA X [a, b] ta) (hs : starEach [a, b] X.env = [(false, eval a X.env), (false, eval b X.env)] := by rfl) (hs2 : starEach [b] X.env = [(false, eval b X.env)] := by rfl) :
    PI X tg (.Call (.Name "range" p) [a, b] [] pos) (iRng2 ta) := by
  intro pins s σ H R I h
  refine Call_ (ld_blt I hg hm boot_range (PyProof.Rows.callWith_type1 (thn (ha pos pins s σ H _ I h) fun us s1 ⟨vs, H1, I1, r1, q1⟩ => ?_) (by rw [hs, hs2]) (by rw [hs2]; rfl)))
  obtain ⟨i, j, e, ⟨q1, q2, q3, q4⟩, q⟩ := q1
  subst e
  cases r1 with
  | cons r rr =>
    cases rr with
    | cons r' rr =>
      cases rr
      obtain ⟨t, rfl⟩ := r
      obtain ⟨t', rfl⟩ := r'
      exact call_range_2 (range_it I1 q1 q2 q3 q4 q)
noncomputable def tFor (wi : TI) (g : TG) (tb : TS) : TS := fun D σ H => wi σ H fun J H1 => ∃ W : Nat → Nat → St → Hp → Prop, (∃ m, W 0 m σ H1) ∧ ∀ i m σ H, W i m σ H →
  (J.stop i H ∧ D.nx σ H) ∨ (J.go i H ∧ ∃ N : St → Hp → Prop, (∀ σ' H', N σ' H' → ∃ m', m' < m ∧ W (i + 1) m' σ' H') ∧ ∀ x H', J.yld i H x H' → g x σ H' fun σ2 H2 => tb { D with nx := N, ct := N, bk := D.nx } σ2 H2)
noncomputable def pinsAt (fp : List Addr) (h : Heap) : List (Addr × Obj) := fp.filterMap fun b => (h.get? b).map fun o => (b, o)
private theorem mem_pinsAt {fp : List Addr} {h : Heap} {b : Addr} {o : Obj} (hb : b ∈ fp) (e : h.get? b = some o) : (b, o) ∈ pinsAt fp h := List.mem_filterMap.mpr ⟨b, hb, by rw [e]; rfl⟩
private theorem of_pinsAt {fp : List Addr} {h : Heap} {p : Addr × Obj} (hp : p ∈ pinsAt fp h) : p.1 ∈ fp ∧ h.get? p.1 = some p.2 := by
  obtain ⟨b, hb, e⟩ := List.mem_filterMap.mp hp
  cases q : h.get? b with
  | none => rw [q] at e; cases e
  | some o =>
    rw [q] at e
    have e' : (b, o) = p := Option.some.inj e
    subst e'
    exact ⟨hb, q⟩
private theorem Inv.pinned {pins : List (Addr × Obj)} {σ : St} {H : Hp} {s : Shared} {fp : List Addr} (I : Inv X pins σ H s) (hf : ∀ b ∈ fp, FpOk X pins H b) (ho : ∀ b ∈ fp, ∃ o, s.heap.get? b = some o ∧ ∀ v, o.data ≠ .cell v) : Inv X (pins ++ pinsAt fp s.heap) σ H s :=
  I.pins_of fun p hp => (List.mem_append.mp hp).elim (fun z => I.pin p (List.mem_append_right _ z)) fun z => by
    obtain ⟨hb, e⟩ := of_pinsAt z
    obtain ⟨f0, f1, f2, _⟩ := hf p.1 hb
    obtain ⟨o, e', d⟩ := ho p.1 hb
    rw [e] at e'; cases e'
    exact ⟨e, f0, f1, f2, d⟩
private theorem Inv.unpinned {pins pl : List (Addr × Obj)} {σ : St} {H : Hp} {s : Shared} (I : Inv X (pins ++ pl) σ H s) : Inv X pins σ H s := I.pins_of fun p hp => I.pin p (List.mem_append_right _ (List.mem_append_left _ hp))
private theorem ps_for {iter : Expr} {body : List Stmt} {wi : TI} {g : TG} {tb : TS} {pos : Pos} (hp : PassesOwn (model X.prog X.w) X.A X.env X.xe) (hc : X.calm = true) (hi : PI X tg iter wi) (hg : PG X tg g) (hb : PSs X body tb)
    (hs : ∀ x, foldedSetIterable iter X.env x = pure x := by intro _; rfl) : PS X (.For tg iter body [] pos) (tFor wi g tb) := by
  intro pins s σ H D I h
  refine wpAny_For (thn (hi pins s σ H _ I h) fun v s1 h1 => thn h1 fun itv s2 h2 => ?_) hs
  obtain ⟨it, fp, tn, J, H2, e, I2, T, st2, f2, W, ⟨m0, w0⟩, turn⟩ := h2
  subst e
  -- what stays true of the iterator's objects through the loop
  have stat : ∀ {H' : Hp}, (∀ b ∈ fp, H' b = none) → ∀ b ∈ fp, FpOk X pins H' b := fun hn b hb => ⟨hn b hb, (f2 b hb).2⟩
  refine codeAny_forLoop_any (fun n s' => ∃ i σ' H', Inv X pins σ' H' s' ∧ tn i s'.heap ∧ (∀ b ∈ fp, H' b = none) ∧ W i n σ' H') ?_ m0 ⟨0, σ, H2, I2, st2, fun b hb => (f2 b hb).1, w0⟩
  rintro n s3 ⟨i, σ3, H3, I3, st3, fr3, w3⟩
  rcases turn i n σ3 H3 w3 with ⟨stop, qn⟩ | ⟨go, N, hN, step⟩
  · refine wpAny_passesOwn hp (thn (T.done X rfl rfl rfl hc i pins s3 σ3 H3 X.xe I3 (stat fr3) st3 stop) fun r s4 ⟨hr, I4⟩ => ?_)
    subst hr
    exact wpAny_execs_nil ⟨σ3, H3, I4, qn⟩
  · refine wpAny_passesOwn hp (thn (T.item X rfl rfl rfl hc i pins s3 σ3 H3 X.xe I3 (stat fr3) st3 go) fun r s4 ⟨u, hr, h4⟩ => ?_)
    subst hr
    refine wpAny_passesOwn hp (thn h4 fun _ s5 ⟨x, H5, I5, r5, y5, st5, fr5⟩ => ?_)
    have I5' := I5.pinned (stat fr5) (T.obj _ _ st5)
    refine wpAny_passesOwn hp (thn (hg _ s5 σ3 H5 x u _ I5' r5 (step x H5 y5)) fun _ s6 ⟨σ6, H6, I6, q6⟩ => ?_)
    refine wpAny_passesOwn hp (thn (hb _ s6 σ6 H6 _ I6 q6) fun f s7 q7 => ?_)
    have again : ∀ {σ7 : St} {H7 : Hp}, Inv X (pins ++ pinsAt fp s5.heap) σ7 H7 s7 → N σ7 H7 → ∃ m, m < n ∧ ∃ i σ' H', Inv X pins σ' H' s7 ∧ tn i s7.heap ∧ (∀ b ∈ fp, H' b = none) ∧ W i m σ' H' := fun {σ7 H7} I7 n7 => by
      obtain ⟨m', hm, w7⟩ := hN σ7 H7 n7
      refine ⟨m', hm, i + 1, σ7, H7, I7.unpinned, T.keep _ _ _ st5 fun b hb o e => (I7.pin (b, o) (List.mem_append_right _ (List.mem_append_right _ (mem_pinsAt hb e)))).1, fun b hb => ?_, w7⟩
      obtain ⟨o, e, d⟩ := T.obj _ _ st5 b hb
      exact (I7.pin (b, o) (List.mem_append_right _ (List.mem_append_right _ (mem_pinsAt hb e)))).2.1
    cases f with
    | next => obtain ⟨σ7, H7, I7, n7⟩ := q7; exact again I7 n7
    | cont => obtain ⟨σ7, H7, I7, n7⟩ := q7; exact again I7 n7
    | brk => obtain ⟨σ7, H7, I7, q7⟩ := q7; exact ⟨σ7, H7, I7.unpinned, q7⟩
    | ret v => obtain ⟨x7, σ7, H7, I7, r7, q7⟩ := q7; exact ⟨x7, σ7, H7, I7.unpinned, r7, q7⟩
end
private theorem for_list {K : PySem.W.Frag} {a : Addr} {xs : List V} {g : TG} {tb : TS} {D : Ends} {σ : St} {H : Hp} (Pv : Nat → St → Hp → Prop) (h0 : Pv 0 σ H) (hl : ∀ i σ H, i ≤ xs.length → Pv i σ H → SqL K H a xs)
    (hs : ∀ i x σ H, xs[i]? = some x → Pv i σ H → g x σ H fun σ2 H2 => tb { D with nx := Pv (i + 1), ct := Pv (i + 1), bk := D.nx } σ2 H2) (hd : ∀ σ H, Pv xs.length σ H → D.nx σ H) :
    ∃ W : Nat → Nat → St → Hp → Prop, (∃ m, W 0 m σ H) ∧ ∀ i m σ H, W i m σ H →
      ((Itl K a).stop i H ∧ D.nx σ H) ∨ ((Itl K a).go i H ∧ ∃ N : St → Hp → Prop, (∀ σ' H', N σ' H' → ∃ m', m' < m ∧ W (i + 1) m' σ' H') ∧ ∀ x H', (Itl K a).yld i H x H' → g x σ H' fun σ2 H2 => tb { D with nx := N, ct := N, bk := D.nx } σ2 H2) := by
  refine ⟨fun i m σ H => m = xs.length - i ∧ i ≤ xs.length ∧ Pv i σ H, ⟨xs.length, by simp, Nat.zero_le _, h0⟩, ?_⟩
  rintro i m σ H ⟨rfl, hi, p⟩
  have q := hl i σ H hi p
  by_cases hlt : i < xs.length
  · refine .inr ⟨⟨xs, xs[i], q, by simp [hlt]⟩, Pv (i + 1), fun σ' H' p' => ⟨xs.length - (i + 1), by omega, rfl, hlt, p'⟩, fun x H' y => ?_⟩
    obtain ⟨e, y⟩ := y
    subst e
    exact hs i x σ _ (y xs q) p
  · have e : i = xs.length := by omega
    subst e
    exact .inl ⟨⟨xs, q, Nat.le_refl _⟩, hd σ H p⟩
private theorem for_range {lo : Int} {n : Nat} {g : TG} {tb : TS} {D : Ends} {σ : St} {H : Hp} (Pv : Nat → St → Hp → Prop) (h0 : Pv 0 σ H)
    (hs : ∀ i σ H, i < n → Pv i σ H → g (.int (lo + i)) σ H fun σ2 H2 => tb { D with nx := Pv (i + 1), ct := Pv (i + 1), bk := D.nx } σ2 H2) (hd : ∀ σ H, Pv n σ H → D.nx σ H) :
    ∃ W : Nat → Nat → St → Hp → Prop, (∃ m, W 0 m σ H) ∧ ∀ i m σ H, W i m σ H →
      ((Itr lo n).stop i H ∧ D.nx σ H) ∨ ((Itr lo n).go i H ∧ ∃ N : St → Hp → Prop, (∀ σ' H', N σ' H' → ∃ m', m' < m ∧ W (i + 1) m' σ' H') ∧ ∀ x H', (Itr lo n).yld i H x H' → g x σ H' fun σ2 H2 => tb { D with nx := N, ct := N, bk := D.nx } σ2 H2) := by
  refine ⟨fun i m σ H => m = n - i ∧ i ≤ n ∧ Pv i σ H, ⟨n, by simp, Nat.zero_le _, h0⟩, ?_⟩
  rintro i m σ H ⟨rfl, hi, p⟩
  by_cases hlt : i < n
  · refine .inr ⟨hlt, Pv (i + 1), fun σ' H' p' => ⟨n - (i + 1), by omega, rfl, hlt, p'⟩, fun x H' y => ?_⟩
    obtain ⟨e, y⟩ := y
    subst e y
    exact hs i σ _ hlt p
  · have e : i = n := by omega
    subst e
    exact .inl ⟨Nat.le_refl _, hd σ H p⟩
end L2
namespace L2
open PySem PySem.Spec PyProof.Rows
noncomputable abbrev R2 := V → V → Hp → VK → Prop
noncomputable def OpR (X : Cx) (f : Value → Value → Sem Value) (r : R2) : Prop :=
  ∀ (pins : List (Addr × Obj)) (s : Shared) (σ : St) (H : Hp) (x y : V) (v u : Value) (Q : VK), Inv X pins σ H s → RelV x v → RelV y u → r x y H Q →
    wpAny (model X.prog X.w) X.A (f v u) (EP X pins σ Q) X.xe s
noncomputable def UnR (X : Cx) (f : Value → Sem Value) (r : V → Hp → VK → Prop) : Prop :=
  ∀ (pins : List (Addr × Obj)) (s : Shared) (σ : St) (H : Hp) (x : V) (v : Value) (Q : VK), Inv X pins σ H s → RelV x v → r x H Q →
    wpAny (model X.prog X.w) X.A (f v) (EP X pins σ Q) X.xe s
noncomputable def CallR (X : Cx) (f : Value) (r : List V → Hp → VK → Prop) : Prop :=
  ∀ (pins : List (Addr × Obj)) (s : Shared) (σ : St) (H : Hp) (xs : List V) (us : List Value) (Q : VK), Inv X pins σ H s → Vals xs us → r xs H Q →
    wpAny (model X.prog X.w) X.A (call f us) (EP X pins σ Q) X.xe s
noncomputable def TruR (X : Cx) (r : V → Hp → (Bool → Hp → Prop) → Prop) : Prop :=
  ∀ (pins : List (Addr × Obj)) (s : Shared) (σ : St) (H : Hp) (x : V) (v : Value) (Q : Bool → Hp → Prop), Inv X pins σ H s → RelV x v → r x H Q →
    wpAny (model X.prog X.w) X.A (truthy v) (TP X pins σ Q) X.xe s
noncomputable def tOp (r : R2) (ta tb : TE) : TE := fun σ H Q => ta σ H fun x H1 => tb σ H1 fun y H2 => r x y H2 Q
noncomputable def tUn (r : V → Hp → VK → Prop) (ta : TE) : TE := fun σ H Q => ta σ H fun x H1 => r x H1 Q
noncomputable def rI (C : Int → Int → Prop) (g : Int → Int → V) : R2 := fun x y H Q => ∃ i j, x = .int i ∧ y = .int j ∧ C i j ∧ Q (g i j) H
noncomputable def rI0 (g : Int → Int → V) : R2 := fun x y H Q => ∃ i j, x = .int i ∧ y = .int j ∧ Q (g i j) H
noncomputable def rU (g : Int → V) : V → Hp → VK → Prop := fun x H Q => ∃ i, x = .int i ∧ Q (g i) H
section
variable {X : Cx} {a b c : Expr} {ta tb tc : TE} {pos : Pos}
private theorem binT (ha : PE X a ta) (hb : PE X b tb) {pins : List (Addr × Obj)} {s : Shared} {σ : St} {H : Hp} {R : V → V → Hp → Prop} (I : Inv X pins σ H s)
    (h : ta σ H fun x H1 => tb σ H1 fun y H2 => R x y H2) {Q : Value → Shared → Prop} {f : Value → Value → Sem Value}
    (hf : ∀ v u s2 x y H2, Inv X pins σ H2 s2 → RelV x v → RelV y u → R x y H2 → wpAny (model X.prog X.w) X.A (f v u) Q X.xe s2) :
    wpAny (model X.prog X.w) X.A (eval a X.env) (fun v s₁ => wpAny (model X.prog X.w) X.A (eval b X.env) (fun u s₂ => wpAny (model X.prog X.w) X.A (f v u) Q X.xe s₂) X.xe s₁) X.xe s := by
  refine thn (ha pins s σ H _ I h) fun v s1 ⟨x, H1, I1, r1, q1⟩ => ?_
  refine thn (hb pins s1 σ H1 _ I1 q1) fun u s2 ⟨y, H2, I2, r2, q2⟩ => ?_
  exact hf v u s2 x y H2 I2 r1 r2 q2
private theorem pe_op {op : Operator} {r : R2} (ho : OpR X (binaryOp op) r) (ha : PE X a ta) (hb : PE X b tb) : PE X (.BinOp a op b pos) (tOp r ta tb) := by
  intro pins s σ H Q I h
  exact wpAny_BinOp (binT ha hb I h fun v u s2 x y H2 I2 rx ry q => ho pins s2 σ H2 x y v u Q I2 rx ry q)
private theorem pe_un {op : UnaryOp} {r : V → Hp → VK → Prop} (ho : UnR X (unaryOp op) r) (ha : PE X a ta) : PE X (.UnaryOp op a pos) (tUn r ta) := by
  intro pins s σ H Q I h
  exact UnaryOp_ (thn (ha pins s σ H _ I h) fun v s1 ⟨x, H1, I1, r1, q1⟩ => ho pins s1 σ H1 x v Q I1 r1 q1)
private theorem opI {f : Value → Value → Sem Value} {C : Int → Int → Prop} {g : Int → Int → Int}
    (rule : ∀ (i j : Int) (t u : Tok) (s : Shared) (Q : Value → Shared → Prop) (E : Value → Shared → Prop), C i j → Q (.int (g i j) s.toks) { s with toks := s.toks + 1 } → wpAny (model X.prog X.w) X.A (f (.int i t) (.int j u)) Q E s) :
    OpR X f (rI C fun i j => .int (g i j)) := by
  intro pins s σ H x y v u Q I rx ry h
  obtain ⟨i, j, rfl, rfl, hc, q⟩ := h
  obtain ⟨t, rfl⟩ := rx
  obtain ⟨t', rfl⟩ := ry
  exact rule i j t t' s _ _ hc ⟨.int (g i j), H, I.tok _, ⟨_, rfl⟩, q⟩
private theorem opI0 {f : Value → Value → Sem Value} {g : Int → Int → Int}
    (rule : ∀ (i j : Int) (t u : Tok) (s : Shared) (Q : Value → Shared → Prop) (E : Value → Shared → Prop), Q (.int (g i j) s.toks) { s with toks := s.toks + 1 } → wpAny (model X.prog X.w) X.A (f (.int i t) (.int j u)) Q E s) :
    OpR X f (rI0 fun i j => .int (g i j)) := by
  intro pins s σ H x y v u Q I rx ry h
  obtain ⟨i, j, rfl, rfl, q⟩ := h
  obtain ⟨t, rfl⟩ := rx
  obtain ⟨t', rfl⟩ := ry
  exact rule i j t t' s _ _ ⟨.int (g i j), H, I.tok _, ⟨_, rfl⟩, q⟩
private theorem opB0 {f : Value → Value → Sem Value} {g : Int → Int → Bool}
    (rule : ∀ (i j : Int) (t u : Tok) (s : Shared) (Q : Value → Shared → Prop) (E : Value → Shared → Prop), Q (.bool (g i j)) s → wpAny (model X.prog X.w) X.A (f (.int i t) (.int j u)) Q E s) :
    OpR X f (rI0 fun i j => .bl (g i j)) := by
  intro pins s σ H x y v u Q I rx ry h
  obtain ⟨i, j, rfl, rfl, q⟩ := h
  obtain ⟨t, rfl⟩ := rx
  obtain ⟨t', rfl⟩ := ry
  exact rule i j t t' s _ _ ⟨.bl (g i j), H, I, rfl, q⟩
noncomputable def CDiv (i j : Int) : Prop := 0 < j ∧ j < 1073741824
noncomputable def CMul (i j : Int) : Prop := (-(2 ^ 64) < i ∧ i < 2 ^ 64) ∨ (-(2 ^ 64) < j ∧ j < 2 ^ 64)
private theorem CMul.ok {i j : Int} (h : CMul i j) : IntMulOk i j := by
  rcases h with ⟨h1, h2⟩ | ⟨h1, h2⟩
  · exact .of_left (intBits_le_64 h1 h2)
  · exact .of_right (intBits_le_64 h1 h2)
private theorem op_add : OpR X (binaryOp .Add) (rI0 fun i j => .int (i + j)) := opI0 fun _ _ _ _ _ _ _ q => add_int q
private theorem op_sub : OpR X (binaryOp .Sub) (rI0 fun i j => .int (i - j)) := opI0 fun _ _ _ _ _ _ _ q => sub_int q
private theorem op_mul : OpR X (binaryOp .Mult) (rI CMul fun i j => .int (i * j)) := opI fun _ _ _ _ _ _ _ hc q => mul_int q hc.ok
private theorem op_fdiv : OpR X (binaryOp .FloorDiv) (rI CDiv fun i j => .int (i / j)) := opI fun i j _ _ _ _ _ hc q => by
  have h1 : (0 : Int) < j := hc.1
  have h2 : j < 1073741824 := hc.2
  exact floordiv_int (by omega) (by rw [Int.fdiv_eq_ediv_of_nonneg i (by omega)]; exact q) (.inl (PyProof.noPylong_small (by omega)))
private theorem op_mod : OpR X (binaryOp .Mod) (rI (fun _ j => 0 < j) fun i j => .int (i % j)) := opI fun i j _ _ _ _ _ hc q => by
  have h1 : (0 : Int) < j := hc
  exact mod_int' (by omega) (by rw [Int.fmod_eq_emod_of_nonneg i (by omega)]; exact q)
private theorem unI {f : Value → Sem Value} {g : Int → Int}
    (rule : ∀ (i : Int) (t : Tok) (s : Shared) (Q : Value → Shared → Prop) (E : Value → Shared → Prop), Q (.int (g i) s.toks) { s with toks := s.toks + 1 } → wpAny (model X.prog X.w) X.A (f (.int i t)) Q E s) :
    UnR X f (rU fun i => .int (g i)) := by
  intro pins s σ H x v Q I rx h
  obtain ⟨i, rfl, q⟩ := h
  obtain ⟨t, rfl⟩ := rx
  exact rule i t s _ _ ⟨.int (g i), H, I.tok _, ⟨_, rfl⟩, q⟩
private theorem un_neg : UnR X (unaryOp .USub) (rU fun i => .int (-i)) := unI fun _ _ _ _ _ q => neg_int q
end
noncomputable def scal : V → V → Bool
  | .non, .non => true | .non, .int _ => true | .int _, .non => true | .non, .bl _ => true | .bl _, .non => true | .non, .str _ => true | .str _, .non => true
  | .int _, .int _ => true | .bl _, .bl _ => true | .str _, .str _ => true | .byt _, .byt _ => true
  | .int _, .str _ => true | .str _, .int _ => true | .bl _, .str _ => true | .str _, .bl _ => true
  | _, _ => false
noncomputable def rEq : R2 := fun x y H Q => scal x y = true ∧ Q (.bl (decide (x = y))) H
noncomputable def rNe : R2 := fun x y H Q => scal x y = true ∧ Q (.bl (!decide (x = y))) H
private theorem dec_int {i j : Int} : decide (V.int i = V.int j) = (i == j) := by
  rw [Bool.eq_iff_iff]
  simp
private theorem dec_bl {i j : Bool} : decide (V.bl i = V.bl j) = (i == j) := by
  rw [Bool.eq_iff_iff]
  simp
private theorem dec_str {i j : Str} : decide (V.str i = V.str j) = (i == j) := by
  rw [Bool.eq_iff_iff]
  simp
private theorem dec_byt {i j : Array UInt8} : decide (V.byt i = V.byt j) = (i.toList == j.toList) := by
  rw [Bool.eq_iff_iff]
  cases i
  cases j
  simp
section
variable {X : Cx} {a b c : Expr} {ta tb tc : TE} {pos : Pos}
private theorem fin_bl {pins : List (Addr × Obj)} {σ : St} {H : Hp} {s : Shared} {Q : VK} {k k' : Bool} (I : Inv X pins σ H s) (q : Q (.bl k) H) (e : k = k') : EP X pins σ Q (.bool k') s := by
  subst e
  exact ⟨.bl k, H, I, rfl, q⟩
private theorem op_eq : OpR X (compareOp .Eq) rEq := by
  intro pins s σ H x y v u Q I rx ry h
  obtain ⟨hs, q⟩ := h
  cases x with
  | non =>
    cases rx
    cases y with
    | non => cases ry; exact PySem.EqNone.eq_none_none (fin_bl I q (by simp))
    | bl j => cases ry; exact PySem.EqNone.eq_none_bool (fin_bl I q (by simp))
    | int j => obtain ⟨t', rfl⟩ := ry; exact PySem.EqNone.eq_none_int (fin_bl I q (by simp))
    | str j => obtain ⟨t', rfl⟩ := ry; exact PySem.EqNone.eq_none_str (fin_bl I q (by simp))
    | _ => exact absurd (show false = true from hs) Bool.false_ne_true
  | bl i =>
    cases rx
    cases y with
    | non => cases ry; exact PySem.EqNone.eq_bool_none (fin_bl I q (by simp))
    | bl j => cases ry; exact eq_bool (fin_bl I q dec_bl)
    | str j => obtain ⟨t', rfl⟩ := ry; exact PySem.EqMixed.eq_bool_str (fin_bl I q (by simp))
    | _ => exact absurd (show false = true from hs) Bool.false_ne_true
  | int i =>
    obtain ⟨t, rfl⟩ := rx
    cases y with
    | non => cases ry; exact PySem.EqNone.eq_int_none (fin_bl I q (by simp))
    | int j => obtain ⟨t', rfl⟩ := ry; exact eq_int (fin_bl I q dec_int)
    | str j => obtain ⟨t', rfl⟩ := ry; exact PySem.EqMixed.eq_int_str (fin_bl I q (by simp))
    | _ => exact absurd (show false = true from hs) Bool.false_ne_true
  | str i =>
    obtain ⟨t, rfl⟩ := rx
    cases y with
    | non => cases ry; exact PySem.EqNone.eq_str_none (fin_bl I q (by simp))
    | bl j => cases ry; exact PySem.EqMixed.eq_str_bool (fin_bl I q (by simp))
    | int j => obtain ⟨t', rfl⟩ := ry; exact PySem.EqMixed.eq_str_int (fin_bl I q (by simp))
    | str j => obtain ⟨t', rfl⟩ := ry; exact eq_str (fin_bl I q dec_str)
    | _ => exact absurd (show false = true from hs) Bool.false_ne_true
  | byt i =>
    obtain ⟨t, rfl⟩ := rx
    cases y with
    | byt j => obtain ⟨t', rfl⟩ := ry; exact PySem.W.eq_bytes (fin_bl I q dec_byt)
    | _ => exact absurd (show false = true from hs) Bool.false_ne_true
  | _ => cases y <;> exact absurd (show false = true from hs) Bool.false_ne_true
private theorem op_ne : OpR X (compareOp .NotEq) rNe := by
  intro pins s σ H x y v u Q I rx ry h
  obtain ⟨hs, q⟩ := h
  cases x with
  | non =>
    cases rx
    cases y with
    | non => cases ry; exact PySem.EqNone.ne_none_none (fin_bl I q (by simp))
    | bl j => cases ry; exact PySem.EqNone.ne_none_bool (fin_bl I q (by simp))
    | int j => obtain ⟨t', rfl⟩ := ry; exact PySem.EqNone.ne_none_int (fin_bl I q (by simp))
    | str j => obtain ⟨t', rfl⟩ := ry; exact PySem.EqNone.ne_none_str (fin_bl I q (by simp))
    | _ => exact absurd (show false = true from hs) Bool.false_ne_true
  | bl i =>
    cases rx
    cases y with
    | non => cases ry; exact PySem.EqNone.ne_bool_none (fin_bl I q (by simp))
    | bl j => cases ry; exact ne_bool (fin_bl I q (congrArg not dec_bl))
    | str j => obtain ⟨t', rfl⟩ := ry; exact PySem.EqMixed.ne_bool_str (fin_bl I q (by simp))
    | _ => exact absurd (show false = true from hs) Bool.false_ne_true
  | int i =>
    obtain ⟨t, rfl⟩ := rx
    cases y with
    | non => cases ry; exact PySem.EqNone.ne_int_none (fin_bl I q (by simp))
    | int j => obtain ⟨t', rfl⟩ := ry; exact ne_int (fin_bl I q (congrArg not dec_int))
    | str j => obtain ⟨t', rfl⟩ := ry; exact PySem.EqMixed.ne_int_str (fin_bl I q (by simp))
    | _ => exact absurd (show false = true from hs) Bool.false_ne_true
  | str i =>
    obtain ⟨t, rfl⟩ := rx
    cases y with
    | non => cases ry; exact PySem.EqNone.ne_str_none (fin_bl I q (by simp))
    | bl j => cases ry; exact PySem.EqMixed.ne_str_bool (fin_bl I q (by simp))
    | int j => obtain ⟨t', rfl⟩ := ry; exact PySem.EqMixed.ne_str_int (fin_bl I q (by simp))
    | str j => obtain ⟨t', rfl⟩ := ry; exact ne_str (fin_bl I q (congrArg not dec_str))
    | _ => exact absurd (show false = true from hs) Bool.false_ne_true
  | byt i =>
    obtain ⟨t, rfl⟩ := rx
    cases y with
    | byt j => obtain ⟨t', rfl⟩ := ry; exact PySem.W.ne_bytes (fin_bl I q (congrArg not dec_byt))
    | _ => exact absurd (show false = true from hs) Bool.false_ne_true
  | _ => cases y <;> exact absurd (show false = true from hs) Bool.false_ne_true
private theorem op_lt : OpR X (compareOp .Lt) (rI0 fun i j => .bl (decide (i < j))) := opB0 fun _ _ _ _ _ _ _ q => lt_int q
private theorem op_le : OpR X (compareOp .LtE) (rI0 fun i j => .bl (decide (i ≤ j))) := opB0 fun _ _ _ _ _ _ _ q => le_int q
private theorem op_gt : OpR X (compareOp .Gt) (rI0 fun i j => .bl (decide (j < i))) := opB0 fun _ _ _ _ _ _ _ q => gt_int q
private theorem nomark (b : Expr) {op : CmpOp} (h : op ≠ .In := by decide) (h2 : op ≠ .NotIn := by decide) : behindInMarks op b = false := by
  have e1 : (op == CmpOp.In) = false := by cases op <;> first | rfl | exact absurd rfl h
  have e2 : (op == CmpOp.NotIn) = false := by cases op <;> first | rfl | exact absurd rfl h2
  cases b <;> simp [behindInMarks, e1, e2]
private theorem pe_cmpR {op : CmpOp} {r : R2} (ho : OpR X (compareOp op) r) (ha : PE X a ta) (hb : PE X b tb) (hm : behindInMarks op b = false) : PE X (.Compare a [op] [b] pos) (tOp r ta tb) := by
  intro pins s σ H Q I h
  exact wpAny_Compare1 (binT ha hb I h fun v u s2 x y H2 I2 rx ry q => ho pins s2 σ H2 x y v u Q I2 rx ry q) hm
noncomputable def tTest (t : TE) : TT := fun σ H Q => t σ H fun x H' => ∃ k, x = .bl k ∧ Q k H'
private theorem pt_cmpR {op : CmpOp} {r : R2} (ho : OpR X (compareOp op) r) (ha : PE X a ta) (hb : PE X b tb) (hm : behindInMarks op b = false) : PT X (.Compare a [op] [b] pos) (tTest (tOp r ta tb)) := by
  intro pins s σ H Q I h
  refine wpAny_isTrue_Compare1 (thn (ha pins s σ H _ I h) fun v s1 ⟨x, H1, I1, r1, q1⟩ => thn (hb pins s1 σ H1 _ I1 q1) fun u s2 ⟨y, H2, I2, r2, q2⟩ =>
    thn (ho pins s2 σ H2 x y v u _ I2 r1 r2 q2) fun c s3 ⟨z, H3, I3, r3, k, e, q3⟩ => ?_) hm
  subst e
  cases r3
  exact wpAny_truthy_bool ⟨H3, I3, q3⟩
noncomputable def TruV (K : PySem.W.Frag) (x : V) (H : Hp) (k : Bool) : Prop :=
  match x with
  | .non => k = false
  | .bl b => k = b
  | .int i => k = (i != 0)
  | .str y => y.length ≤ sizeLine ∧ k = ((y.length : Int) != 0)
  | .byt y => y.size ≤ sizeLine ∧ k = ((y.size : Int) != 0)
  | .ref p => (∃ xs, SqL K H p xs ∧ k = !xs.isEmpty) ∨ (∃ xs, SqT K H p xs ∧ k = !xs.isEmpty) ∨ ∃ kvs, H p = some (.dK kvs) ∧ k = !kvs.isEmpty
  | _ => False
private theorem isEmpty_kv {κ : Type} {kvs : List (κ × V)} {vs : List (κ × Value)} (r : KV kvs vs) : (!vs.isEmpty) = !kvs.isEmpty := by
  cases r <;> rfl
private theorem isEmpty_of {xs : List V} {its : List Value} (r : Vals xs its) : (!its.toArray.isEmpty) = !xs.isEmpty := by
  cases r <;> simp
private theorem line63 : (sizeLine : Nat) < 2 ^ 63 := by rw [sizeLine_eq]; decide
private theorem tru_ok : TruR X (fun x H Q => ∃ k, TruV X.K x H k ∧ Q k H) := by
  intro pins s σ H x v Q I rx h
  obtain ⟨k, e, q⟩ := h
  have hl := line63
  have hs : sizeLine = 16777216 := sizeLine_eq
  cases x with
  | non =>
    cases rx
    have e' : k = false := e
    subst e'
    exact truthy_none ⟨H, I, q⟩
  | bl b =>
    cases rx
    have e' : k = b := e
    subst e'
    exact wpAny_truthy_bool ⟨H, I, q⟩
  | int i =>
    obtain ⟨t, rfl⟩ := rx
    have e' : k = (i != 0) := e
    subst e'
    exact PySem.P.truthy_int ⟨H, I, q⟩
  | str y =>
    obtain ⟨t, rfl⟩ := rx
    obtain ⟨hy, e'⟩ : y.length ≤ sizeLine ∧ k = ((y.length : Int) != 0) := e
    subst e'
    exact PySem.P.truthy_str (by omega) ⟨H, I.tok _, q⟩
  | byt y =>
    obtain ⟨t, rfl⟩ := rx
    obtain ⟨hy, e'⟩ : y.size ≤ sizeLine ∧ k = ((y.size : Int) != 0) := e
    subst e'
    exact PySem.W.truthy_bytes (by omega) ⟨H, I.tok _, q⟩
  | ref p =>
    cases rx
    have e' : (∃ xs, SqL X.K H p xs ∧ k = !xs.isEmpty) ∨ (∃ xs, SqT X.K H p xs ∧ k = !xs.isEmpty) ∨ ∃ kvs, H p = some (.dK kvs) ∧ k = !kvs.isEmpty := e
    rcases e' with ⟨xs, hx, e'⟩ | ⟨xs, hx, e'⟩ | ⟨kvs, hx, e'⟩
    · subst e'
      obtain ⟨its, r, pl, hz⟩ := I.list hx
      have hlen := r.length
      exact wpAny_truthy_list pl.isList (by simp only [List.size_toArray]; omega) ⟨H, I.tok _, by rw [isEmpty_of r]; exact q⟩
    · subst e'
      obtain ⟨its, r, pl, hz⟩ := I.tuple hx
      have hlen := r.length
      exact truthy_tuple pl (by simp only [List.size_toArray]; omega) ⟨H, I.tok _, by rw [isEmpty_of r]; exact q⟩
    · subst e'
      obtain ⟨hz, hS, vs, r, m⟩ : kvs.length ≤ sizeLine ∧ (p == sysModules) = false ∧ ∃ vs, KV kvs vs ∧ s.heap.DictOf (mixKind X.prog X.w) p vs := I.hok p _ hx
      have hlen : kvs.length = vs.length := Paired.length r
      exact wpAny_truthy_dict hS m (by omega) ⟨H, I.tok _, by rw [isEmpty_kv r]; exact q⟩
  | _ => exact (show False from e).elim
private theorem pt_truth (ha : PE X a ta) (he : ∀ whole, isTrue a X.env whole = (do let v ← whole; standAt a.pos; holding [v] (truthy v))) :
    PT X a (fun σ H Q => ta σ H fun x H' => ∃ k, TruV X.K x H' k ∧ Q k H') := by
  intro pins s σ H Q I h
  exact isTrue_plain (thn (ha pins s σ H _ I h) fun v s1 ⟨x, H1, I1, r1, q1⟩ => tru_ok pins s1 σ H1 x v Q I1 r1 q1) (he _)
private theorem vals1 {x : V} {us : List Value} (r : Vals [x] us) : ∃ u, us = [u] ∧ RelV x u := by
  cases r with
  | cons r1 r2 => cases r2; exact ⟨_, rfl, r1⟩
private theorem vals2 {x y : V} {us : List Value} (r : Vals [x, y] us) : ∃ u w', us = [u, w'] ∧ RelV x u ∧ RelV y w' := by
  cases r with
  | cons r1 r2 =>
    cases r2 with
    | cons r3 r4 => cases r4; exact ⟨_, _, rfl, r1, r3⟩
private theorem call_min2 (hc : X.calm = true) : CallR X (.builtin "min") (fun xs H Q => ∃ i j, xs = [.int i, .int j] ∧ Q (.int (if j < i then j else i)) H) := by
  intro pins s σ H xs us Q I r h
  obtain ⟨i, j, rfl, q⟩ := h
  obtain ⟨u, w', rfl, ⟨t, rfl⟩, ⟨t', rfl⟩⟩ := vals2 r
  refine min_two_ints (I.ok.hd hc) fun h' tk k => ⟨_, H, I.kept k, ?_, q⟩
  by_cases hj : j < i
  · rw [if_pos hj, if_pos hj]; exact ⟨_, rfl⟩
  · rw [if_neg hj, if_neg hj]; exact ⟨_, rfl⟩
end
end L2
namespace L2
open PySem PySem.Spec PyProof.Rows
private theorem RelO.some_of {v : V} {o : Option Value} (r : RelO (some v) o) : ∃ u, o = some u ∧ RelV v u := by
  cases o with
  | none => exact (show False from r).elim
  | some u => exact ⟨u, rfl, r⟩
section
variable {X : Cx} {pins : List (Addr × Obj)} {σ : St} {H : Hp} {s : Shared} {a C dx : Addr} {fs : List (Str × V)} {f : Str} {v : V} {A : Around} {E : Value → Shared → Prop}
end
end L2
namespace L2
open PySem PySem.Spec PyProof.Rows
structure Room (k : Nat) (A : Around) : Prop where
  hd : A.handled = none
  dp : A.depth + 3 * k + 5 < recursionLimit
  un : A.units + 16 * k + 200 < cLine
private theorem Room.mono {j k : Nat} {A : Around} (r : Room k A) (h : j ≤ k) : Room j A := ⟨r.hd, by have := r.dp; omega, by have := r.un; omega⟩
private theorem Room.deeper {k : Nat} {A : Around} (r : Room (k + 1) A) (env : Env) : Room k (A.deeper env) :=
  ⟨r.hd, by have := r.dp; show A.depth + 1 + 3 * k + 5 < _; omega, by have := r.un; show A.units + 3 + 16 * k + 200 < _; omega⟩
private theorem Room.depth {k : Nat} {A : Around} (r : Room k A) : A.depth < recursionLimit := by have := r.dp; omega
private theorem Room.units {k : Nat} {A : Around} (r : Room k A) : A.units + 64 < cLine := by have := r.un; omega
noncomputable def tNil : TA := fun _ H Q => Q [] H
noncomputable def tCons (ta : TE) (tr : TA) : TA := fun σ H Q => ta σ H fun x H1 => tr σ H1 fun xs H2 => Q (x :: xs) H2
section
variable {X : Cx} {e : Expr} {es : List Expr} {te : TE} {t : TA} {pos : Pos}
private theorem pa_nil : PA X [] tNil := fun _ _ _ _ H Q I h => Calls.spliced_nil ⟨[], H, I, .nil, h⟩
private theorem pa_cons (ha : PE X e te) (hr : PA X es t) (hs : starEach (e :: es) X.env = (false, eval e X.env) :: starEach es X.env := by rfl) : PA X (e :: es) (tCons te t) := by
  intro pos pins s σ H Q I h
  rw [hs]
  show wpAny _ _ (spliced ((false, eval e X.env) :: backTo pos (starEach es X.env))) _ _ s
  refine Calls.spliced_cons (thn (ha pins s σ H _ I h) fun u s1 ⟨x, H1, I1, r1, q1⟩ => ?_)
  exact thn (hr pos pins s1 σ H1 _ I1 q1) fun us s2 ⟨xs, H2, I2, r2, q2⟩ => ⟨x :: xs, H2, I2, .cons r1 r2, q2⟩
noncomputable def tTup (t : TA) : TE := fun σ H Q => t σ H fun xs H1 => xs.length ≤ sizeLine ∧ ∀ p, H1 p = none → Q (.ref p) (upd H1 p (.tup xs))
noncomputable def tLst (t : TA) : TE := fun σ H Q => t σ H fun xs H1 => xs.length ≤ sizeLine ∧ ∀ p, H1 p = none → Q (.ref p) (upd H1 p (.lst xs))
private theorem pe_tup {x1} (h : PA X es t) : PE X (.Tuple es x1 pos) (tTup t) := by
  intro pins s σ H Q I hq
  refine wpAny_Tuple_spliced (thn (h pos pins s σ H _ I hq) fun us s1 ⟨xs, H1, I1, r, z, q⟩ => ⟨by rw [← r.length]; exact z, ?_⟩)
  have hf : H1 s1.heap.objs.size = none := I1.hok.fresh (Nat.le_refl _)
  refine ⟨.ref s1.heap.objs.size, upd H1 s1.heap.objs.size (.tup xs), I1.laid (t' := s1.toks) (fun b u e => Heap.get?_push_of_some _ e) (Nat.le_refl _) ?_, rfl, q _ hf⟩
  exact ⟨z, us, r, ⟨_, Heap.get?_push_size _ rfl, rfl, _, rfl⟩⟩
private theorem pe_lst (h : PA X es t) : PE X (.List es pos) (tLst t) := by
  intro pins s σ H Q I hq
  refine wpAny_List_spliced (thn (h pos pins s σ H _ I hq) fun us s1 ⟨xs, H1, I1, r, z, q⟩ => ⟨by rw [← r.length]; exact z, ?_⟩)
  have hf : H1 s1.heap.objs.size = none := I1.hok.fresh (Nat.le_refl _)
  refine ⟨.ref s1.heap.objs.size, upd H1 s1.heap.objs.size (.lst xs), I1.laid (t' := s1.toks) (fun b u e => Heap.get?_push_of_some _ e) (Nat.le_refl _) ?_, rfl, q _ hf⟩
  exact ⟨z, us, 0, r, Heap.get?_push_size _ rfl⟩
end
noncomputable abbrev Sp := List V → Hp → VK → XK → Prop
noncomputable abbrev CXT := List Env → Hp → Shared → XK → Value → Shared → Prop
structure Env0 (P : Program) (w : World) (K : PySem.W.Frag) (mg : Str → Option Value) (base : Heap) (A : Around) (outer : List Env) (s : Shared) (H : Hp) : Prop where
  frames : A.frames = some outer
  mod : Mod K mg base
  bs : ∀ b o, base.get? b = some o → s.heap.get? b = some o ∧ H b = none
  bsz : base.objs.size ≤ s.heap.objs.size
  funs : s.heap.FunFrames base outer
  frf : ∀ b ∈ frs outer, H b = none
  hok : HOk P w H s.heap
  bare : AllBare s.gens
noncomputable def CE (outer : List Env) (P : Program) (w : World) (H : Hp) (s : Shared) (Q : VK) (u : Value) (s' : Shared) : Prop :=
  ∃ v H', s'.os = s.os ∧ AllBare s'.gens ∧ Un (frs outer) [] H H' s.heap s'.heap ∧ HOk P w H' s'.heap ∧ RelV v u ∧ Q v H'
noncomputable def CR (CX : CXT) (outer : List Env) (P : Program) (w : World) (H : Hp) (s : Shared) (Q : VK) (E : XK) (r : Result) (s' : Shared) : Prop :=
  match r with
  | .ok (.ret u) => CE outer P w H s Q u s'
  | .ok _ => False
  | .error e => CX outer H s E e s'
structure FnOk (P : Program) (w : World) (K : PySem.W.Frag) (mg : Str → Option Value) (base : Heap) (CX : CXT) (k : Nat) (f : Addr) (fd : FuncData) (ps : List Str) (sp : Sp) : Prop where
  len : ∀ vs H Q E, sp vs H Q E → vs.length = ps.length
  run : ∀ (A : Around) (outer : List Env) (s : Shared) (H : Hp) (args : Args) (us : List Value) (vs : List V) (Q : VK) (E : XK), Room k A → Env0 P w K mg base A outer s H → BindsTo s fd args (ps.zip us) → Vals vs us → sp vs H Q E →
    codeAny (model P w) A (.call (.ref f) args) (CR CX outer P w H s Q E) s
section
variable {X : Cx} {pins : List (Addr × Obj)} {σ : St} {H : Hp} {s s' : Shared}
private theorem Inv.env0 (I : Inv X pins σ H s) : Env0 X.prog X.w X.K X.mg X.base X.A X.stack s H :=
  ⟨I.ok.frames, I.ok.mod, I.bs, Nat.le_trans I.ok.bsz I.sz, I.stack, I.stkFree, I.hok, I.bare⟩
private theorem Inv.after {Q : VK} {u : Value} (I : Inv X pins σ H s) (h : CE X.stack X.prog X.w H s Q u s') : EP X pins σ Q u s' := by
  obtain ⟨v, H', os, bare, un, hok, r, q⟩ := h
  obtain ⟨hh, g, d, t, os'⟩ := s'
  obtain rfl : os' = s.os := os
  exact ⟨v, H', I.call (h' := hh) (g' := g) (d' := d) (t' := t) (ch := []) un hok bare (fun b z => absurd z (by simp)), r, q⟩
end
noncomputable def tCall (sp : Sp) (dvs : List V) (E : XK) (t : TA) : TE := fun σ H Q => t σ H fun vs H1 => sp (vs ++ dvs) H1 Q E
noncomputable def Binds (K : PySem.W.Frag) (fd : FuncData) (ps : List Str) (ds : List Value) : Prop :=
  ∀ (s : Shared) (us : List Value), K.In s.heap → (us ++ ds).length = ps.length → BindsTo s fd ⟨us, []⟩ (ps.zip (us ++ ds))
private theorem Binds.all {K : PySem.W.Frag} {fd : FuncData} {ps : List Str} (h : ∀ us : List Value, us.length = ps.length → bindArgs fd ⟨us, []⟩ = pure (ps.zip us)) : Binds K fd ps [] := fun s us _ hl => by
  rw [List.append_nil] at hl ⊢
  exact .of_eq (h us hl)
noncomputable def Passes (CX : CXT) (X : Cx) (E : XK) : Prop := ∀ (pins : List (Addr × Obj)) (σ : St) (H : Hp) (s : Shared) (e : Value) (s' : Shared), Inv X pins σ H s → CX X.stack H s E e s' → X.xe e s'
section
variable {X : Cx} {CX : CXT} {k : Nat} {f C : Addr} {fd : FuncData} {ps : List Str} {sp : Sp} {dvs : List V} {ds : List Value} {E : XK} {x m : Str} {p pos apos : Pos} {e o : Expr} {es : List Expr} {ta : TE} {t : TA}
private theorem run_fn {pins : List (Addr × Obj)} {σ : St} {H : Hp} {s : Shared} {Q : VK} {us : List Value} {vs : List V} (F : FnOk X.prog X.w X.K X.mg X.base CX k f fd ps sp) (hr : Room k X.A) (hb : Binds X.K fd ps ds) (hd : Vals dvs ds) (hx : Passes CX X E)
    (I : Inv X pins σ H s) (r : Vals vs us) (h : sp (vs ++ dvs) H Q E) : wpAny (model X.prog X.w) X.A (call (.ref f) us) (EP X pins σ Q) X.xe s := by
  have r2 : Vals (vs ++ dvs) (us ++ ds) := r.append hd
  have hl : (us ++ ds).length = ps.length := by rw [← r2.length]; exact F.len _ _ _ _ h
  refine wpAny_call (codeAny_mono (F.run X.A X.stack s H ⟨us, []⟩ (us ++ ds) (vs ++ dvs) Q E hr I.env0 (hb s us I.kIn hl) r2 h) fun r s' hq => ?_)
  cases r with
  | error e => exact hx pins σ H s e s' I hq
  | ok fl =>
    cases fl with
    | ret u => exact I.after hq
    | next => exact False.elim hq
    | brk => exact False.elim hq
    | cont => exact False.elim hq
private theorem pe_call (F : FnOk X.prog X.w X.K X.mg X.base CX k f fd ps sp) (hr : Room k X.A) (hg : Gl X x) (hm : X.mg x = some (.ref f)) (hk : PySem.W.keepIn X.K (.ref f) = true) (hb : Binds X.K fd ps ds) (hd : Vals dvs ds) (hx : Passes CX X E)
    (ha : PA X (e :: es) t) (hdb : (x == ("__debug__" : Str)) = false := by decide) (he : starEach (e :: es) X.env = (false, eval e X.env) :: starEach es X.env := by rfl) (hpl : (backTo pos (starEach es X.env)).any (·.1) = false := by rfl) :
    PE X (.Call (.Name x p) (e :: es) [] pos) (tCall sp dvs E t) := by
  intro pins s σ H Q I h
  refine wpAny_Call_Name_kw (ld_glob I hg hm ?_ hdb)
  refine PySem.W.callWith_K (h₀ := X.base) I.ok.mod.kin hk (thn (ha pos pins s σ H _ I h) fun us s1 ⟨vs, H1, I1, r, q⟩ => ⟨I1.kIn, ?_⟩) he hpl
  exact run_fn F hr hb hd hx I1 r q
end
structure FnScope (N P : List Str) (sc : Scope) : Prop where
  kind : sc.kind = .function
  co : sc.isCoroutine = false
  gen : sc.isGenerator = false
  nd : N.Nodup
  pre : N.take P.length = P
  par : ∀ x ∈ P, sc.names.lookup x = some .local ∨ sc.names.lookup x = some .cell
  nofree : ∀ y ∈ sc.names, y.2 ≠ .free
private theorem bindL_out {kindOf : Str → Option NameKind} {x : Str} : ∀ {binds : List (Str × Value)} {m : Str → Option Value}, (∀ v, (x, v) ∉ binds) → bindL kindOf binds m x = m x
  | [], _, _ => rfl
  | (n, v) :: r, m, h => by
    unfold bindL
    rw [bindL_out fun w hw => h w (List.mem_cons_of_mem _ hw)]
    split
    · have : x ≠ n := by rintro rfl; exact h v List.mem_cons_self
      simp [this]
    · rfl
private theorem bindC_out {kindOf : Str → Option NameKind} {x : Str} : ∀ {binds : List (Str × Value)} {m : Str → Option Value}, (∀ v, (x, v) ∉ binds) → bindC kindOf binds m x = m x
  | [], _, _ => rfl
  | (n, v) :: r, m, h => by
    unfold bindC
    rw [bindC_out fun w hw => h w (List.mem_cons_of_mem _ hw)]
    split
    · rfl
    · have : x ≠ n := by rintro rfl; exact h v List.mem_cons_self
      simp [this]
private theorem bindL_get {kindOf : Str → Option NameKind} {x : Str} {v : Value} : ∀ {P : List Str} {vs : List Value} {i : Nat} {m : Str → Option Value}, P.Nodup → P[i]? = some x → vs[i]? = some v → kindOf x = some .local →
    bindL kindOf (P.zip vs) m x = some v
  | [], _, _, _, _, h, _, _ => by simp at h
  | _ :: _, [], _, _, _, _, h, _ => by simp at h
  | p :: P, w :: vs, 0, m, nd, h1, h2, hk => by
    simp at h1 h2; subst h1; subst h2
    show bindL kindOf ((p, w) :: P.zip vs) m p = _
    unfold bindL
    rw [bindL_out fun v hv => (List.nodup_cons.mp nd).1 (List.of_mem_zip hv).1, if_pos hk]
    simp
  | p :: P, w :: vs, i + 1, m, nd, h1, h2, hk => by
    show bindL kindOf ((p, w) :: P.zip vs) m x = _
    unfold bindL
    exact bindL_get (i := i) (List.nodup_cons.mp nd).2 (by simpa using h1) (by simpa using h2) hk
private theorem bindC_get {kindOf : Str → Option NameKind} {x : Str} {v : Value} : ∀ {P : List Str} {vs : List Value} {i : Nat} {m : Str → Option Value}, P.Nodup → P[i]? = some x → vs[i]? = some v → kindOf x ≠ some .local →
    bindC kindOf (P.zip vs) m x = some v
  | [], _, _, _, _, h, _, _ => by simp at h
  | _ :: _, [], _, _, _, _, h, _ => by simp at h
  | p :: P, w :: vs, 0, m, nd, h1, h2, hk => by
    simp at h1 h2; subst h1; subst h2
    show bindC kindOf ((p, w) :: P.zip vs) m p = _
    unfold bindC
    rw [bindC_out fun v hv => (List.nodup_cons.mp nd).1 (List.of_mem_zip hv).1, if_neg hk]
    simp
  | p :: P, w :: vs, i + 1, m, nd, h1, h2, hk => by
    show bindC kindOf ((p, w) :: P.zip vs) m x = _
    unfold bindC
    exact bindC_get (i := i) (List.nodup_cons.mp nd).2 (by simpa using h1) (by simpa using h2) hk
noncomputable def start (N : List Str) (vs : List V) : St := vs.map some ++ List.replicate (N.length - vs.length) none
noncomputable def cxOf (CX : CXT) (P : Program) (w : World) (K : PySem.W.Frag) (mg : Str → Option Value) (base : Heap) (N : List Str) (qual : Str) (scope : Scope) (f : Addr) (cd : Value) (A : Around) (outer : List Env) (s : Shared) (H : Hp) (E : XK) : Cx where
  prog := P
  w := w
  K := K
  mg := mg
  base := base
  A := A.deeper (envOfC qual scope s.heap.objs.size f cd)
  N := N
  s_0 := s
  H_0 := H
  env := envOfC qual scope s.heap.objs.size f cd
  outer := outer
  stack := envOfC qual scope s.heap.objs.size f cd :: outer
  ex := []
  calm := true
  fn := fun _ => true
  pn := []
  xe := fun e s' => wpAny (model P w) (A.deeper (envOfC qual scope s.heap.objs.size f cd)) (leaving (envOfC qual scope s.heap.objs.size f cd) e) (fun _ s'' => CX outer H s E e s'') (fun e' s'' => CX outer H s E e' s'') s'
private theorem cell_has {sc : Scope} {n : Nat} {x : Str} (h : sc.names.lookup x = some .cell) : ∃ c, (cellsFrom n sc.names []).lookup x = some c := by
  have q := PySem.W.cellsFrom_some sc.names n [] (.inl h)
  exact Option.isSome_iff_exists.mp q
private theorem inv_start {CX : CXT} {P : Program} {w : World} {K : PySem.W.Frag} {mg : Str → Option Value} {base : Heap} {N ps : List Str} {qual : Str} {scope : Scope} {f : Addr} {cd : Value} {A : Around} {outer : List Env} {s s1 : Shared} {H : Hp} {E : XK} {us : List Value} {vs : List V}
    (S : FnScope N ps scope) (hd : A.handled = none) (e0 : Env0 P w K mg base A outer s H) (hl : vs.length = ps.length) (r : Vals vs us)
    (x : InCallC s s.heap.objs.size (bindL (envOfC qual scope s.heap.objs.size f cd).kindOf (ps.zip us) fun _ => none) (cellsFrom (s.heap.objs.size + 1) scope.names []) (bindC (envOfC qual scope s.heap.objs.size f cd).kindOf (ps.zip us) fun _ => none) s1) :
    Inv (cxOf CX P w K mg base N qual scope f cd A outer s H E) [] (start N vs) H s1 := by
  have hpl : ps.length ≤ N.length := by have := congrArg List.length S.pre; rw [List.length_take] at this; omega
  obtain ⟨h1, tk, rfl, hk⟩ := x.done
  have noA : ∀ b : Addr, b ∉ (cxOf CX P w K mg base N qual scope f cd A outer s H E).ex := fun b z => absurd (show b ∈ ([] : List Addr) from z) (by simp)
  refine ⟨⟨e0.mod, S.kind, rfl, rfl, Nat.le_refl _, fun y z c h1 h2 => ?_, fun y hy => ?_, fun y c _ h => ?_, fun _ => hd, Around.frames_deeper e0.frames, .inr ⟨rfl, rfl⟩, fun b z => absurd z (noA b), e0.bs, e0.bsz, fun b _ _ => noA b, fun b z => absurd z (noA b), e0.funs, e0.frf⟩,
    rfl, e0.bare, Un.kept hk, ⟨_, x.toInCall.ns, fun i y v h1 h2 h3 => ?_⟩, fun y c h => ⟨_, x.cell y c h⟩, e0.hok.fresh (Nat.le_refl _), fun y c h => ?_, fun p hp => absurd (show p ∈ ([] : List (Addr × Obj)) from hp) (by simp), e0.hok.kept hk, ?_⟩
  · exact name_of_addr x.apart (PySem.mem_of_lookup h1) (PySem.mem_of_lookup h2)
  · have hy : scope.names.lookup y = some .cell ∨ scope.names.lookup y = some .free := hy
    rcases hy with hy | hy
    · exact cell_has hy
    · exact absurd rfl (S.nofree _ (PySem.mem_of_lookup hy))
  · exact Nat.le_of_lt (x.above y c (PySem.mem_of_lookup h))
  · have hi : i < vs.length := by
      unfold start at h2
      by_cases hi : i < vs.length
      · exact hi
      · rw [List.getElem?_append_right (by simpa using hi)] at h2
        rw [List.getElem?_replicate] at h2
        split at h2 <;> cases h2
    have ha : vs[i]? = some v := by
      unfold start at h2
      rw [List.getElem?_append_left (by simpa using hi), List.getElem?_map] at h2
      cases e : vs[i]? with
      | none => rw [e] at h2; cases h2
      | some a => rw [e] at h2; cases h2; rfl
    obtain ⟨u, hu, rv⟩ := r.get ha
    have hp : ps[i]? = some y := by
      rw [← S.pre, List.getElem?_take_of_lt (by omega)]; exact h1
    have ndP : ps.Nodup := by rw [← S.pre]; exact S.nd.sublist (List.take_sublist _ _)
    refine ⟨u, rv, ?_⟩
    rcases S.par y (List.mem_of_getElem? hp) with k | k
    · exact .inl ⟨k, bindL_get ndP hp hu k⟩
    · obtain ⟨c, e⟩ := cell_has (n := s.heap.objs.size + 1) k
      refine .inr ⟨.inl k, c, e, ?_⟩
      have q := x.cell y c e
      rw [bindC_get ndP hp hu (by show scope.names.lookup y ≠ _; rw [k]; decide)] at q
      exact q
  · exact e0.hok.fresh (Nat.le_of_lt (x.above y c (PySem.mem_of_lookup h)))
  · unfold start
    show _ = N.length
    rw [List.length_append, List.length_map, List.length_replicate]
    omega
private theorem fn_of {CX : CXT} {P : Program} {w : World} {K : PySem.W.Frag} {mg : Str → Option Value} {base : Heap} {k : Nat} {f : Addr} {name qual : Str} {params : Arguments} {body : List Stmt} {scope : Scope} {dV kV doc pm cdv ct oc : Value} {an od : Option Addr}
    {osl : Array (Option Value)} {N ps : List Str} {sp : Sp} (lk : K.lookup f = some ⟨oc, od, .func (PySem.W.fnOf name qual params body scope dV kV doc pm an cdv ct), osl⟩) (hcd : PySem.W.codeIn K cdv qual = true) (S : FnScope N ps scope)
    (len : ∀ vs H Q E, sp vs H Q E → vs.length = ps.length)
    (hbody : ∀ (A : Around) (outer : List Env) (s : Shared) (H : Hp) (vs : List V) (Q : VK) (E : XK), Room k (A.deeper (envOfC qual scope s.heap.objs.size f cdv)) → sp vs H Q E →
      ∃ t, PSs (cxOf CX P w K mg base N qual scope f cdv A outer s H E) body t ∧ t { nx := fun _ H' => Q .non H', rt := Q } (start N vs) H) :
    FnOk P w K mg base CX (k + 1) f (PySem.W.fnOf name qual params body scope dV kV doc pm an cdv ct) ps sp := by
  refine ⟨len, fun A outer s H args us vs Q E hr e0 hb r hsp => ?_⟩
  have hl := len _ _ _ _ hsp
  have KX : K.In s.heap := e0.mod.kin.keeps fun b o e => (e0.bs b o e).1
  have lim : s.heap.NoLimit := e0.mod.nolimit.keeps fun b o e => (e0.bs b o e).1
  have hkind : ∀ y ∈ ps.zip us, scope.names.lookup y.1 = some .local ∨ (scope.names.lookup y.1 = some .cell ∧ ((cellsFrom (s.heap.objs.size + 1) scope.names []).lookup y.1).isSome = true) := fun ⟨n, v⟩ hy => by
    rcases S.par n (List.of_mem_zip hy).1 with q | q
    · exact .inl q
    · exact .inr ⟨q, PySem.W.cellsFrom_some _ _ _ (.inl q)⟩
  refine codeAny_call_function hr.depth (KX _ _ lk) rfl S.co S.gen rfl (PySem.W.codeRec_of KX hcd) (hb _ _ _ _ ?_)
  refine wpAny_newFunctionEnv_cells S.kind hkind fun env he s1 x => ?_
  subst he
  refine ⟨lim.keeps x.toInCall.keep, codeAny_func ?_⟩
  obtain ⟨t, ht, hq⟩ := hbody A outer s H vs Q E (hr.deeper _) hsp
  have I : Inv (cxOf CX P w K mg base N qual scope f cdv A outer s H E) [] (start N vs) H s1 := inv_start S hr.hd e0 hl r x
  refine wpAny_mono (ht [] s1 (start N vs) H _ I hq) (fun fl s' hs => ?_) fun e s' hs => hs
  have fin : ∀ {σ' : St} {H' : Hp} {v : V} {u : Value}, Inv (cxOf CX P w K mg base N qual scope f cdv A outer s H E) [] σ' H' s' → RelV v u → Q v H' → CE outer P w H s Q u s' :=
    fun {σ' H' v u} J rv q => ⟨v, H', J.os, J.bare, J.base, J.hok, rv, q⟩
  cases fl with
  | ret u =>
    obtain ⟨v, σ', H', J, rv, q⟩ := hs
    exact fin J rv q
  | next =>
    obtain ⟨σ', H', J, q⟩ := hs
    exact fin (v := V.non) (u := Value.none) J rfl q
  | brk =>
    obtain ⟨_, _, _, q⟩ := hs
    exact False.elim q
  | cont =>
    obtain ⟨_, _, _, q⟩ := hs
    exact False.elim q
end L2
namespace L2
open PySem PySem.Spec PyProof.Rows
section
variable {X : Cx} {x : Str} {p pos : Pos} {e : Expr} {es : List Expr} {t : TA} {id T : String} {r : List V → Hp → VK → Prop}
noncomputable def tCB (r : List V → Hp → VK → Prop) (t : TA) : TE := fun σ H Q => t σ H fun vs H1 => r vs H1 Q
private theorem pe_callB (hc : CallR X (.builtin id) r) (hg : Gl X x) (hm : X.mg x = none) (hv : bootBuiltins x = some (.builtin id)) (ha : PA X (e :: es) t) (hn : x ≠ "__name__" := by decide) (hdb : (x == ("__debug__" : Str)) = false := by decide)
    (he : starEach (e :: es) X.env = (false, eval e X.env) :: starEach es X.env := by rfl) (hpl : (backTo pos (starEach es X.env)).any (·.1) = false := by rfl) : PE X (.Call (.Name x p) (e :: es) [] pos) (tCB r t) := by
  intro pins s σ H Q I h
  refine wpAny_Call_Name_kw (ld_blt I hg hm hv ?_ hn hdb)
  exact PyProof.Rows.callWith_builtin1 (thn (ha pos pins s σ H _ I h) fun us s1 ⟨vs, H1, I1, r1, q1⟩ => hc pins s1 σ H1 vs us Q I1 r1 q1) he hpl
private theorem pe_callTy (hc : CallR X (.type T) r) (hg : Gl X x) (hm : X.mg x = none) (hv : bootBuiltins x = some (.type T)) (ha : PA X (e :: es) t) (hn : x ≠ "__name__" := by decide) (hdb : (x == ("__debug__" : Str)) = false := by decide)
    (he : starEach (e :: es) X.env = (false, eval e X.env) :: starEach es X.env := by rfl) (hpl : (backTo pos (starEach es X.env)).any (·.1) = false := by rfl) : PE X (.Call (.Name x p) (e :: es) [] pos) (tCB r t) := by
  intro pins s σ H Q I h
  refine wpAny_Call_Name_kw (ld_blt I hg hm hv ?_ hn hdb)
  exact PyProof.Rows.callWith_type1 (thn (ha pos pins s σ H _ I h) fun us s1 ⟨vs, H1, I1, r1, q1⟩ => hc pins s1 σ H1 vs us Q I1 r1 q1) he hpl
end
end L2
namespace HT
open PySem PyProof.Rows
section
variable {prog : Program} {w : World} {A : Around} {E : Value → Shared → Prop} {s : Shared}
noncomputable def sIx (n d : Nat) : Option Int → Nat
  | none => d
  | some v => if v < 0 then (v + (n : Int)).toNat else min v.toNat n
private theorem sIx_none (n d : Nat) : sIx n d none = d := rfl
private theorem sIx_nat (n d k : Nat) : sIx n d (some (k : Int)) = min k n := by
  show (if (k : Int) < 0 then ((k : Int) + (n : Int)).toNat else min (k : Int).toNat n) = min k n
  rw [if_neg (by omega), Int.toNat_natCast]
end
end HT
namespace L2
open PySem PySem.Spec PyProof.Rows
noncomputable abbrev TO := St → Hp → (Option Int → Hp → Prop) → Prop
noncomputable def PO (X : Cx) (e : Option Expr) (t : TO) : Prop :=
  ∀ (pins : List (Addr × Obj)) (s : Shared) (σ : St) (H : Hp) (Q : Option Int → Hp → Prop), Inv X pins σ H s → t σ H Q →
    wpAny (model X.prog X.w) X.A (evalPart e X.env) (fun u s' => ∃ o H', Inv X pins σ H' s' ∧ IsPart u o ∧ Q o H') X.xe s
noncomputable def tNoPart : TO := fun _ H Q => Q none H
noncomputable def tPart (t : TE) : TO := fun σ H Q => t σ H fun x H1 => ∃ i, x = .int i ∧ Q (some i) H1
section
variable {X : Cx} {e : Expr} {te : TE} {lo hi : Option Expr} {tl th : TO} {pos p2 : Pos}
private theorem po_none : PO X none tNoPart := by
  intro pins s σ H Q I h
  rw [evalPart_none]
  exact wpAny_pure ⟨none, H, I, .none, h⟩
private theorem po_some (h : PE X e te) : PO X (some e) (tPart te) := by
  intro pins s σ H Q I hw
  rw [evalPart_some]
  refine thn (h pins s σ H _ I hw) fun u s1 ⟨x, H1, I1, r1, q1⟩ => ?_
  obtain ⟨i, rfl, q⟩ := q1
  obtain ⟨t, rfl⟩ := r1
  exact ⟨some i, H1, I1, .int i t, q⟩
noncomputable def SlR (X : Cx) (r : V → Option Int → Option Int → Hp → VK → Prop) : Prop :=
  ∀ (pins : List (Addr × Obj)) (s : Shared) (σ : St) (H : Hp) (x : V) (v vl vu : Value) (lo hi : Option Int) (sl : Addr) (Q : VK), Inv X pins σ H s → RelV x v → s.heap.IsSliceOf sl vl vu .none → IsPart vl lo → IsPart vu hi → r x lo hi H Q →
    ∃ T id, typeLookup (.type T) "__getitem__" = pure (some (.builtin id)) ∧ s.TypeIs v T ∧ wpAny (model X.prog X.w) X.A (getItem v (.ref sl)) (EP X pins σ Q) X.xe s
noncomputable def tSl (r : V → Option Int → Option Int → Hp → VK → Prop) (te : TE) (tl th : TO) : TE := fun σ H Q => te σ H fun x H1 => tl σ H1 fun l H2 => th σ H2 fun u H3 => r x l u H3 Q
private theorem pe_slice {r : V → Option Int → Option Int → Hp → VK → Prop} (hr : SlR X r) (he : PE X e te) (hl : PO X lo tl) (hu : PO X hi th) : PE X (.Subscript e (.Slice lo hi none p2) pos) (tSl r te tl th) := by
  intro pins s σ H Q I h
  refine Subscript_ (thn (he pins s σ H _ I h) fun v s1 ⟨x, H1, I1, r1, q1⟩ => ?_)
  refine wpAny_Slice (thn (hl pins s1 σ H1 _ I1 q1) fun vl s2 ⟨l, H2, I2, pl, q2⟩ => thn (hu pins s2 σ H2 _ I2 q2) fun vu s3 ⟨u, H3, I3, pu, q3⟩ => ?_)
  rw [evalPart_none]
  refine wpAny_pure ?_
  have I4 : Inv X pins σ H3 { s3 with heap := s3.heap.push { cls := .type "slice", data := .fields #[vl, vu, .none] } } := I3.kept (t' := s3.toks) fun b ob q => Heap.get?_push_of_some _ q
  obtain ⟨T, id, hT, ht, hg⟩ := hr pins { s3 with heap := s3.heap.push { cls := .type "slice", data := .fields #[vl, vu, .none] } } σ H3 x v vl vu l u s3.heap.objs.size Q I4 r1 (Heap.IsSliceOf.new ..) pl pu q3
  show wpAny (model X.prog X.w) X.A (subscriptTail e (.Slice lo hi none p2) v (.ref s3.heap.objs.size)) (EP X pins σ Q) X.xe { s3 with heap := s3.heap.push { cls := .type "slice", data := .fields #[vl, vu, .none] } }
  exact tail_any (ops := [.ref s3.heap.objs.size, v]) ht hT hg (by with_unfolding_all rfl)
noncomputable def cutV (xs : List V) (lo hi : Option Int) : List V := (xs.drop (HT.sIx xs.length 0 lo)).take (HT.sIx xs.length xs.length hi - HT.sIx xs.length 0 lo)
private theorem cutV_length (xs : List V) (lo hi : Option Int) : (cutV xs lo hi).length ≤ xs.length := by
  unfold cutV
  rw [List.length_take, List.length_drop]
  omega
end
end L2
namespace L2
open PySem PySem.Spec PyProof.Rows
noncomputable def ixN (n : Nat) (i : Int) : Option Nat := if 0 ≤ i then (if i < n then some i.toNat else none) else if -(n : Int) ≤ i then some (i + n).toNat else none
noncomputable def atI {α : Type} (xs : List α) (i : Int) : Option α := (ixN xs.length i).bind fun j => xs[j]?
private theorem ixN_seq {n : Nat} {i : Int} {j : Nat} (h : ixN n i = some j) : seqIndex? i n = some j ∧ j < n ∧ -(n : Int) ≤ i ∧ i < n := by
  unfold ixN at h
  by_cases h0 : 0 ≤ i
  · rw [if_pos h0] at h
    by_cases h1 : i < n
    · rw [if_pos h1] at h
      have e : i.toNat = j := Option.some.inj h
      exact ⟨by rw [seqIndex_of h0 h1, e], by omega, by omega, h1⟩
    · rw [if_neg h1] at h; cases h
  · rw [if_neg h0] at h
    by_cases h1 : -(n : Int) ≤ i
    · rw [if_pos h1] at h
      have e : (i + n).toNat = j := Option.some.inj h
      exact ⟨by rw [seqIndex_neg (by omega) h1, e], by omega, h1, by omega⟩
    · rw [if_neg h1] at h; cases h
private theorem atI_get {α : Type} {xs : List α} {i : Int} {v : α} (h : atI xs i = some v) : ∃ j, seqIndex? i xs.length = some j ∧ xs[j]? = some v ∧ j < xs.length ∧ -(xs.length : Int) ≤ i ∧ i < xs.length := by
  unfold atI at h
  cases e : ixN xs.length i with
  | none => rw [e] at h; cases h
  | some j =>
    rw [e] at h
    obtain ⟨h1, h2, h3, h4⟩ := ixN_seq e
    exact ⟨j, h1, h, h2, h3, h4⟩
private theorem atI_nat {α : Type} {xs : List α} {j : Nat} {v : α} (h : xs[j]? = some v) : atI xs (j : Int) = some v := by
  have hj : j < xs.length := (List.getElem?_eq_some_iff.mp h).1
  have e : ixN xs.length (j : Int) = some j := by
    unfold ixN
    rw [if_pos (by omega), if_pos (by omega)]; simp
  unfold atI; rw [e]; exact h
private theorem atI_last {α : Type} (xs : List α) (v : α) : atI (xs ++ [v]) (-1) = some v := by
  have hl : (xs ++ [v]).length = xs.length + 1 := by simp
  have e : ixN (xs ++ [v]).length (-1) = some xs.length := by
    unfold ixN
    rw [hl, if_neg (by decide), if_pos (by omega)]
    congr 1
    omega
  unfold atI
  rw [e]
  show (xs ++ [v])[xs.length]? = some v
  simp
noncomputable def PlainIx (b : Expr) : Prop := ∀ o i, subscripted b false o i = operate [o, i] (getItem o i)
noncomputable def IxR (X : Cx) (r : R2) : Prop :=
  ∀ (value slice : Expr) (pins : List (Addr × Obj)) (s : Shared) (σ : St) (H : Hp) (x y : V) (v u : Value) (Q : VK), Inv X pins σ H s → RelV x v → RelV y u → r x y H Q →
    subscripted slice false v u = operate [v, u] (getItem v u) → wpAny (model X.prog X.w) X.A (subscriptTail value slice v u) (EP X pins σ Q) X.xe s
noncomputable def MtR (X : Cx) (id : String) (r : V → List V → Hp → VK → Prop) : Prop :=
  ∀ (pins : List (Addr × Obj)) (s : Shared) (σ : St) (H : Hp) (x : V) (xs : List V) (v : Value) (us : List Value) (Q : VK), Inv X pins σ H s → RelV x v → Vals xs us → r x xs H Q →
    wpAny (model X.prog X.w) X.A (call (.builtin id) (v :: us)) (EP X pins σ Q) X.xe s
section
variable {X : Cx} {a b : Expr} {ta tb : TE} {pos : Pos}
private theorem pe_ix {r : R2} (hr : IxR X r) (ha : PE X a ta) (hb : PE X b tb) (hs : PlainIx b) : PE X (.Subscript a b pos) (tOp r ta tb) := by
  intro pins s σ H Q I h
  exact Subscript_ (binT ha hb I h fun v u s2 x y H2 I2 rx ry q => hr a b pins s2 σ H2 x y v u Q I2 rx ry q (hs _ _))
noncomputable def rIxL (K : PySem.W.Frag) : R2 := fun x y H Q => ∃ p xs i v, x = .ref p ∧ y = .int i ∧ SqL K H p xs ∧ atI xs i = some v ∧ Q v H
noncomputable def rIxT (K : PySem.W.Frag) : R2 := fun x y H Q => ∃ p xs i v, x = .ref p ∧ y = .int i ∧ SqT K H p xs ∧ atI xs i = some v ∧ Q v H
private theorem ix_list : IxR X (rIxL X.K) := by
  intro value slice pins s σ H x y v u Q I rx ry h hs
  obtain ⟨p, xs, i, z, rfl, rfl, hq, he, q⟩ := h
  cases rx
  obtain ⟨t, rfl⟩ := ry
  obtain ⟨its, r, pl, hz⟩ := I.list hq
  obtain ⟨j, h1, h2, h3, h4, h5⟩ := atI_get he
  obtain ⟨w, ew, rw'⟩ := r.get h2
  have hl := r.length
  have hn := line63
  have fin : EP X pins σ Q w s := ⟨z, H, I, rw', q⟩
  by_cases h0 : 0 ≤ i
  · have hj : i.toNat = j := by
      rw [seqIndex_of h0 h5] at h1
      exact Option.some.inj h1
    exact item_listR pl.isList h0 (by omega) (by rw [hj]; simpa using ew) fin hs
  · have hj : (i + (its.toArray.size : Int)).toNat = j := by
      rw [seqIndex_neg (by omega) h4] at h1
      rw [List.size_toArray, ← hl]
      exact Option.some.inj h1
    exact subscriptTail_builtinR (x := w) pl.isList.typeIs slot_list_getitem.lookup
      (wpAny_getItem_list_neg (Q := fun r s' => r = w ∧ EP X pins σ Q r s') pl.isList (by omega) (by rw [List.size_toArray] <;> omega) (by omega) (by rw [hj]; simpa using ew) ⟨rfl, fin⟩) hs
private theorem ix_tup : IxR X (rIxT X.K) := by
  intro value slice pins s σ H x y v u Q I rx ry h hs
  obtain ⟨p, xs, i, z, rfl, rfl, hq, he, q⟩ := h
  cases rx
  obtain ⟨t, rfl⟩ := ry
  obtain ⟨its, r, pl, hz⟩ := I.tuple hq
  obtain ⟨j, h1, h2, h3, h4, h5⟩ := atI_get he
  obtain ⟨w, ew, rw'⟩ := r.get h2
  have hl := r.length
  have hn := line63
  have fin : EP X pins σ Q w s := ⟨z, H, I, rw', q⟩
  exact subscriptTail_builtinR (x := w) pl.typeIs slot_tuple_getitem.lookup
    (getItem_tuple (j := j) (Q := fun r s' => r = w ∧ EP X pins σ Q r s') pl (by omega) (by omega) (by rw [List.size_toArray, ← hl]; exact h1) (by simpa using ew) ⟨rfl, fin⟩) hs
private theorem slice_bounds (lo hi : Option Int) (n : Nat) : (sliceBounds lo hi none n).1 = ((HT.sIx n 0 lo : Nat) : Int) ∧ (sliceBounds lo hi none n).2.1 = ((HT.sIx n n hi : Nat) : Int) ∧ (sliceBounds lo hi none n).2.2 = 1 := by
  refine ⟨?_, ?_, rfl⟩
  · cases lo with
    | none => simp [sliceBounds, HT.sIx]
    | some i =>
      simp only [sliceBounds, HT.sIx, Option.getD_none, show (1 : Int) > 0 by decide, if_true]
      by_cases h : i < 0
      · simp only [h, if_true] <;> omega
      · simp only [h, if_false] <;> omega
  · cases hi with
    | none => simp [sliceBounds, HT.sIx]
    | some i =>
      simp only [sliceBounds, HT.sIx, Option.getD_none, show (1 : Int) > 0 by decide, if_true]
      by_cases h : i < 0
      · simp only [h, if_true] <;> omega
      · simp only [h, if_false] <;> omega
private theorem slicePick_cut (its : List Value) (lo hi : Option Int) : slicePick its.toArray lo hi none = ((its.drop (HT.sIx its.length 0 lo)).take (HT.sIx its.length its.length hi - HT.sIx its.length 0 lo)).toArray := by
  obtain ⟨h1, h2, h3⟩ := slice_bounds lo hi its.toArray.size
  unfold slicePick
  rw [h1, h2, h3]
  simp only [sliceRange_one, pick_run, List.size_toArray] <;> rfl
noncomputable def rSlL (K : PySem.W.Frag) : V → Option Int → Option Int → Hp → VK → Prop := fun x lo hi H Q => ∃ a xs, x = .ref a ∧ SqL K H a xs ∧ ∀ p, H p = none → Q (.ref p) (upd H p (.lst (cutV xs lo hi)))
private theorem sl_list : SlR X (rSlL X.K) := by
  intro pins s σ H x v vl vu lo hi sl Q I rx hs pl pu h
  obtain ⟨a, xs, rfl, hx, q⟩ := h
  cases rx
  obtain ⟨its, r, ht, hz⟩ := I.list hx
  have hlen := r.length
  refine ⟨"list", _, slot_list_getitem.lookup, ht.isList.typeIs, ?_⟩
  refine wpAny_getItem_list_slice ht.isList hs pl pu .none (by simp) ?_ (by rw [List.size_toArray] <;> omega)
  rw [slicePick_cut, ← hlen]
  refine ⟨.ref s.heap.objs.size, _, I.laid (t' := s.toks) (o := .lst (cutV xs lo hi)) (fun b ob q => Heap.get?_push_of_some _ q) (Nat.le_refl _) ?_, rfl, q _ (I.hok.fresh (Nat.le_refl _))⟩
  exact ⟨Nat.le_trans (cutV_length xs lo hi) hz, _, 0, (r.drop (HT.sIx xs.length 0 lo)).take (HT.sIx xs.length xs.length hi - HT.sIx xs.length 0 lo), Heap.get?_push_size _ rfl⟩
noncomputable def flatV : V → Bool
  | .non => true
  | .bl _ => true
  | .int _ => true
  | .str _ => true
  | _ => false
noncomputable def eqV : V → V → Bool
  | .non, .non => true
  | .bl a, .bl b => a == b
  | .bl a, .int b => (if a then 1 else 0) == b
  | .int a, .bl b => a == (if b then 1 else 0)
  | .int a, .int b => a == b
  | .str a, .str b => a == b
  | _, _ => false
private theorem eqAt_V {A : Around} {s : Shared} {y x : V} {u v : Value} (ry : RelV y u) (rx : RelV x v) (fy : flatV y = true) (fx : flatV x = true) : SeqAt.EqAt A s u v (eqV y x) := by
  cases y with
  | non =>
    cases ry
    cases x with
    | non => cases rx; exact SeqAt.EqAt.same _
    | bl b => cases rx; exact SeqAt.EqAt.none_bool b
    | int b => obtain ⟨t, rfl⟩ := rx; exact SeqAt.EqAt.none_int b t
    | str b => obtain ⟨t, rfl⟩ := rx; exact SeqAt.EqAt.none_str b t
    | _ => exact absurd (show false = true from fx) Bool.false_ne_true
  | bl a =>
    cases ry
    cases x with
    | non => cases rx; exact SeqAt.EqAt.bool_none a
    | bl b => cases rx; exact SeqAt.EqAt.bool_bool a b
    | int b => obtain ⟨t, rfl⟩ := rx; exact SeqAt.EqAt.bool_int a b t
    | str b => obtain ⟨t, rfl⟩ := rx; exact SeqAt.EqAt.bool_str a b t
    | _ => exact absurd (show false = true from fx) Bool.false_ne_true
  | int a =>
    obtain ⟨t', rfl⟩ := ry
    cases x with
    | non => cases rx; exact SeqAt.EqAt.int_none a t'
    | bl b => cases rx; exact SeqAt.EqAt.int_bool a t' b
    | int b => obtain ⟨t, rfl⟩ := rx; exact SeqAt.EqAt.int_int a t' b t
    | str b => obtain ⟨t, rfl⟩ := rx; exact SeqAt.EqAt.int_str a t' b t
    | _ => exact absurd (show false = true from fx) Bool.false_ne_true
  | str a =>
    obtain ⟨t', rfl⟩ := ry
    cases x with
    | non => cases rx; exact SeqAt.EqAt.str_none a t'
    | bl b => cases rx; exact SeqAt.EqAt.str_bool a t' b
    | int b => obtain ⟨t, rfl⟩ := rx; exact SeqAt.EqAt.str_int a t' b t
    | str b => obtain ⟨t, rfl⟩ := rx; exact SeqAt.EqAt.str_str a t' b t
    | _ => exact absurd (show false = true from fx) Bool.false_ne_true
  | _ => exact absurd (show false = true from fy) Bool.false_ne_true
noncomputable def eqU (x : V) (u : Value) : Bool := match u with
  | .none => eqV .non x
  | .bool b => eqV (.bl b) x
  | .int i _ => eqV (.int i) x
  | .str z _ => eqV (.str z) x
  | _ => false
private theorem eqU_of {x y : V} {u : Value} (r : RelV y u) (f : flatV y = true) : eqU x u = eqV y x := by
  cases y with
  | non => cases r; rfl
  | bl b => cases r; rfl
  | int i => obtain ⟨t, rfl⟩ := r; rfl
  | str z => obtain ⟨t, rfl⟩ := r; rfl
  | _ => exact absurd (show false = true from f) Bool.false_ne_true
private theorem any_eqU {x : V} : ∀ {xs : List V} {us : List Value}, Vals xs us → xs.all flatV = true → us.any (eqU x) = xs.any fun y => eqV y x
  | _, _, .nil, _ => rfl
  | y :: xs, u :: us, .cons r t, f => by
    rw [List.all_cons, Bool.and_eq_true] at f
    rw [List.any_cons, List.any_cons, eqU_of r f.1, any_eqU t f.2]
private theorem mem_eqAt {A : Around} {s : Shared} {x : V} {v : Value} (rx : RelV x v) (fx : flatV x = true) : ∀ {xs : List V} {us : List Value}, Vals xs us → xs.all flatV = true → ∀ u ∈ us, SeqAt.EqAt A s u v (eqU x u)
  | _, _, .nil, _ => fun u hu => by cases hu
  | y :: xs, u :: us, .cons r t, f => fun u' hu => by
    rw [List.all_cons, Bool.and_eq_true] at f
    rcases List.mem_cons.mp hu with rfl | hu
    · rw [eqU_of r f.1]; exact eqAt_V r rx f.1 fx
    · exact mem_eqAt rx fx t f.2 u' hu
noncomputable def inV (x : V) (xs : List V) : Bool := xs.any fun y => eqV y x
noncomputable def rIn (K : PySem.W.Frag) (neg : Bool) : R2 := fun x y H Q => ∃ p xs, y = .ref p ∧ (SqL K H p xs ∨ SqT K H p xs) ∧ flatV x = true ∧ xs.all flatV = true ∧ Q (.bl (if neg then !inV x xs else inV x xs)) H
private theorem op_in_seq : OpR X (compareOp .In) (rIn X.K false) := by
  intro pins s σ H x y v u Q I rx ry h
  obtain ⟨p, xs, rfl, hq, fx, fs, q⟩ := h
  cases ry
  rcases hq with hq | hq
  · obtain ⟨its, r, pl, hz⟩ := I.list hq
    refine SeqAt.in_listAt (eqU x) pl.isList (fun w hw => mem_eqAt rx fx r fs w (by simpa using hw)) ⟨.bl _, H, I, rfl, ?_⟩
    rw [show its.toArray.any (eqU x) = its.any (eqU x) by simp, any_eqU r fs]
    exact q
  · obtain ⟨its, r, pl, hz⟩ := I.tuple hq
    refine SeqAt.in_tupleAt (eqU x) pl (fun w hw => mem_eqAt rx fx r fs w (by simpa using hw)) ⟨.bl _, H, I, rfl, ?_⟩
    rw [show its.toArray.any (eqU x) = its.any (eqU x) by simp, any_eqU r fs]
    exact q
private theorem op_notIn_seq : OpR X (compareOp .NotIn) (rIn X.K true) := by
  intro pins s σ H x y v u Q I rx ry h
  obtain ⟨p, xs, rfl, hq, fx, fs, q⟩ := h
  cases ry
  rcases hq with hq | hq
  · obtain ⟨its, r, pl, hz⟩ := I.list hq
    refine SeqAt.notIn_listAt (eqU x) pl.isList (fun w hw => mem_eqAt rx fx r fs w (by simpa using hw)) ⟨.bl _, H, I, rfl, ?_⟩
    rw [show its.toArray.any (eqU x) = its.any (eqU x) by simp, any_eqU r fs]
    exact q
  · obtain ⟨its, r, pl, hz⟩ := I.tuple hq
    refine SeqAt.notIn_tupleAt (eqU x) pl (fun w hw => mem_eqAt rx fx r fs w (by simpa using hw)) ⟨.bl _, H, I, rfl, ?_⟩
    rw [show its.toArray.any (eqU x) = its.any (eqU x) by simp, any_eqU r fs]
    exact q
private theorem call_len_seq : CallR X (.builtin "len") (fun xs H Q => ∃ p ys, xs = [.ref p] ∧ (SqL X.K H p ys ∨ SqT X.K H p ys) ∧ Q (.int ys.length) H) := by
  intro pins s σ H xs us Q I r h
  obtain ⟨p, ys, rfl, hq, q⟩ := h
  obtain ⟨u, rfl, rx⟩ := vals1 r
  cases rx
  have hn := line63
  rcases hq with hq | hq
  · obtain ⟨its, r', pl, hz⟩ := I.list hq
    have hlen := r'.length
    exact Calls.call_len_list pl.isList (by simp only [List.size_toArray] <;> omega) ⟨.int ys.length, H, I.tok _, ⟨s.toks + 1, by rw [List.size_toArray, hlen]⟩, q⟩
  · obtain ⟨its, r', pl, hz⟩ := I.tuple hq
    have hlen := r'.length
    exact len_tuple pl (by simp only [List.size_toArray] <;> omega) ⟨.int ys.length, H, I.tok _, ⟨s.toks + 1, by rw [List.size_toArray, hlen]⟩, q⟩
private theorem call_tuple_of : CallR X (.type "tuple") (fun xs H Q => ∃ p ys, xs = [.ref p] ∧ ((SqL X.K H p ys ∧ ∀ l, H l = none → Q (.ref l) (upd H l (.tup ys))) ∨ (SqT X.K H p ys ∧ Q (.ref p) H))) := by
  intro pins s σ H xs us Q I r h
  obtain ⟨p, ys, rfl, h⟩ := h
  obtain ⟨u, rfl, rx⟩ := vals1 r
  cases rx
  rcases h with ⟨hq, q⟩ | ⟨hq, q⟩
  · obtain ⟨its, r', pl, hz⟩ := I.list hq
    have hlen := r'.length
    refine call_tuple_list pl.isList (fun h' kp => ?_) (by simp only [List.size_toArray] <;> omega)
    have I1 : Inv X pins σ H { s with heap := h' } := I.kept (t' := s.toks) kp
    have I2 : Inv X pins σ (upd H h'.objs.size (.tup ys)) { s with heap := h'.push { cls := .type "tuple", data := .seq its.toArray } } :=
      I1.laid (t' := s.toks) (fun b o e => Heap.get?_push_of_some _ e) (Nat.le_refl _) (show ObjOk X.prog X.w _ _ _ (.tup ys) from ⟨hz, its, r', IsTup.new _ _⟩)
    exact ⟨.ref h'.objs.size, _, I2, rfl, q _ (I1.hok.fresh (Nat.le_refl _))⟩
  · obtain ⟨its, r', pl, hz⟩ := I.tuple hq
    exact call_tuple_same pl ⟨.ref p, H, I, rfl, q⟩
noncomputable def tyV (K : PySem.W.Frag) (T : String) (x : V) (H : Hp) : Prop := match x with
  | .str _ => T = "str"
  | .int _ => T = "int"
  | .ref p => (T = "list" ∧ ∃ xs, SqL K H p xs) ∨ (T = "tuple" ∧ ∃ o, K.lookup p = some o ∧ o.cls = .type "tuple" ∧ o.dict = none) ∨
      (T = "dict" ∧ ((∃ kvs, H p = some (.dK kvs)) ∨ ∃ kvs, H p = some (.dT kvs))) ∨ (T = "set" ∧ ∃ S n, H p = some (.set S n))
  | _ => False
private theorem tyV_is {pins : List (Addr × Obj)} {σ : St} {H : Hp} {s : Shared} {T : String} {x : V} {v : Value} (I : Inv X pins σ H s) (r : RelV x v) (ty : tyV X.K T x H) :
    s.TypeIs v T ∧ ∀ a, v = .ref a → ∃ ob, s.heap.get? a = some ob ∧ ob.dict = none := by
  cases x with
  | str z =>
    obtain ⟨t, rfl⟩ := r
    cases (show T = "str" from ty)
    exact ⟨typeIs_str s z t, fun _ e => nomatch e⟩
  | int i =>
    obtain ⟨t, rfl⟩ := r
    cases (show T = "int" from ty)
    exact ⟨typeIs_int s i t, fun _ e => nomatch e⟩
  | ref p =>
    cases r
    rcases ty with ⟨rfl, xs, hq⟩ | ⟨rfl, o, hk, hc, hd⟩ | ⟨rfl, hk⟩ | ⟨rfl, S, n, hk⟩
    · obtain ⟨its, _, pl, _⟩ := I.list hq
      refine ⟨pl.isList.typeIs, fun a e => ?_⟩
      cases e
      obtain ⟨o, n, e, c, hd, _⟩ := pl
      exact ⟨o, e, hd⟩
    · refine ⟨⟨o, I.kIn p o hk, hc⟩, fun a e => ?_⟩
      cases e
      exact ⟨o, I.kIn _ o hk, hd⟩
    · have z : ∃ o, s.heap.get? p = some o ∧ o.ExactDict := by
        rcases hk with ⟨kvs, hk⟩ | ⟨kvs, hk⟩
        · obtain ⟨_, _, _, _, o, _, _, e, ex, _⟩ := I.hok p _ hk
          exact ⟨o, e, ex⟩
        · obtain ⟨_, _, _, _, o, _, _, e, ex, _⟩ := I.hok p _ hk
          exact ⟨o, e, ex⟩
      obtain ⟨o, e, ex⟩ := z
      refine ⟨⟨o, e, ex.1⟩, fun a e2 => ?_⟩
      cases e2
      exact ⟨o, e, ex.2.1⟩
    · obtain ⟨o, _, _, _, e, ex, _⟩ := I.hok p _ hk
      refine ⟨⟨o, e, ex.1⟩, fun a e2 => ?_⟩
      cases e2
      exact ⟨o, e, ex.2.1⟩
  | _ => exact False.elim ty
noncomputable def tBM0 (K : PySem.W.Frag) (T : String) (r : V → List V → Hp → VK → Prop) (to : TE) : TE := fun σ H Q => to σ H fun x H1 => tyV K T x H1 ∧ r x [] H1 Q
noncomputable def tBM (K : PySem.W.Frag) (T : String) (r : V → List V → Hp → VK → Prop) (to : TE) (t : TA) : TE := fun σ H Q => to σ H fun x H1 => tyV K T x H1 ∧ t σ H1 fun xs H2 => r x xs H2 Q
variable {o e : Expr} {es : List Expr} {to : TE} {t : TA} {name : Str} {apos cpos : Pos} {T id : String} {r : V → List V → Hp → VK → Prop}
private theorem pe_bm0 (pa : PlainAttrs T) (slot : Slot T name id) (hty : typeOf (.builtin id) = pure (.type "method_descriptor")) (hm : MtR X id r) (ho : PE X o to)
    (hbase : attributeBase o name X.env (eval o X.env) = eval o X.env := by rfl) (hline : (apos.endLine == cpos.line) = true := by rfl) : PE X (.Call (.Attribute o name apos) [] [] cpos) (tBM0 X.K T r to) := by
  intro pins s σ H Q I h
  refine wpAny_Call_method0_late hbase hline (thn (ho pins s σ H _ I h) fun v s1 ⟨x, H1, I1, r1, ty, q1⟩ => ?_)
  obtain ⟨h1, h2⟩ := tyV_is I1 r1 ty
  exact ⟨T, id, pa, slot, hty, h1, h2, Calls.callWith_builtin rfl (PySem.evalArgs_none (hm pins s1 σ H1 x [] v [] Q I1 r1 .nil q1))⟩
private theorem pe_bm (pa : PlainAttrs T) (slot : Slot T name id) (hty : typeOf (.builtin id) = pure (.type "method_descriptor")) (hm : MtR X id r) (ho : PE X o to) (ha : PA X (e :: es) t)
    (hbase : attributeBase o name X.env (eval o X.env) = eval o X.env := by rfl)
    (hfew : ((backTo cpos (starEach (e :: es) X.env)).all (fun x => !x.1) && (backToKw cpos (keywordEach [] X.env)).all (fun x => x.1.isSome)
      && decide ((e :: es).length + ([] : List Keyword).length + (if ([] : List Keyword).isEmpty then 0 else 1) < 30)) = true := by rfl)
    (hline : (apos.endLine == cpos.line) = true := by rfl) (hs : starEach (e :: es) X.env = (false, eval e X.env) :: starEach es X.env := by rfl) (hplain : (backTo cpos (starEach es X.env)).any (·.1) = false := by rfl) :
    PE X (.Call (.Attribute o name apos) (e :: es) [] cpos) (tBM X.K T r to t) := by
  intro pins s σ H Q I h
  refine wpAny_Call_method_late hbase hfew hline rfl (thn (ho pins s σ H _ I h) fun v s1 ⟨x, H1, I1, r1, ty, q1⟩ => ?_)
  obtain ⟨h1, h2⟩ := tyV_is I1 r1 ty
  refine ⟨T, id, pa, slot, hty, h1, h2, ?_⟩
  have hA := ha cpos pins s1 σ H1 _ I1 q1
  rw [hs] at hA ⊢
  refine Calls.callWith_builtin (by show (false || (backTo cpos (starEach es X.env)).any (·.1)) = false; rw [hplain] <;> rfl) (Calls.evalArgs_plain ?_)
  exact thn hA fun us s2 ⟨vs, H2, I2, r2, q2⟩ => hm pins s2 σ H2 x vs v us Q I2 r1 r2 q2
end
end L2
namespace L2
open PySem PySem.Spec PyProof.Rows
noncomputable def MtM (X : Cx) (id : String) (r : V → List V → Hp → VK → Prop) : Prop :=
  ∀ (pins : List (Addr × Obj)) (s : Shared) (σ : St) (H : Hp) (x : V) (xs : List V) (v : Value) (us : List Value) (Q : VK), Inv X pins σ H s → RelV x v → Vals xs us → r x xs H Q →
    wpAny (model X.prog X.w) X.A (call (.builtin id) (v :: us)) (EP X pins σ Q) X.xe s
private theorem Vals.one : ∀ {x : V} {us : List Value}, Vals [x] us → ∃ u, us = [u] ∧ RelV x u
  | _, _, .cons r .nil => ⟨_, rfl, r⟩
private theorem Vals.zero : ∀ {us : List Value}, Vals [] us → us = []
  | _, .nil => rfl
private theorem Vals.dropLast {xs : List V} {us : List Value} (h : Vals xs us) : Vals xs.dropLast us.dropLast := by
  induction h with
  | nil => exact .nil
  | cons r t ih =>
    cases t with
    | nil => exact .nil
    | cons q t' => exact .cons r ih
private theorem erase_last {α : Type} (l : List α) : l.eraseIdx (l.length - 1) = l.dropLast := by
  induction l with
  | nil => rfl
  | cons a r ih =>
    cases r with
    | nil => rfl
    | cons b r =>
      have e : (a :: b :: r).length - 1 = ((b :: r).length - 1) + 1 := by
        have h1 : (a :: b :: r).length = r.length + 2 := rfl
        have h2 : (b :: r).length = r.length + 1 := rfl
        omega
      rw [e, List.eraseIdx_cons_succ, ih]
      all_goals rfl
section
variable {X : Cx} {pins : List (Addr × Obj)} {σ : St} {H : Hp} {s : Shared} {l b : Addr} {xs ys zs : List V}
private theorem Inv.lset {its its' : List Value} {n : Nat} {f : Array Value → Array Value} {t' : Nat} (I : Inv X pins σ H s) (hH : H l = some (.lst xs))
    (e : s.heap.get? l = some { cls := .type "list", data := .seq its.toArray n }) (hf : f its.toArray = its'.toArray) (hv : Vals ys its') (hz : ys.length ≤ sizeLine) :
    Inv X pins σ (upd H l (.lst ys)) { s with heap := s.heap.update l (Obj.mapSeq f), toks := t' } := by
  have q := PySem.IsL.update e f
  rw [hf] at q
  refine I.write (x := l) (e := l) (by rw [hH]; exact trivial) (.inl rfl) (fun b' u hb hu => (Heap.get?_update_other s.heap (Obj.mapSeq f) (Ne.symm hb)).trans hu) ⟨_, q⟩ ?_
  exact ⟨hz, its', _, hv, q⟩
private theorem Inv.lnew {its : List Value} {t' : Nat} (I : Inv X pins σ H s) (hv : Vals ys its) (hz : ys.length ≤ sizeLine) :
    Inv X pins σ (upd H s.heap.objs.size (.lst ys)) { s with heap := s.heap.push { cls := .type "list", data := .seq its.toArray }, toks := t' } :=
  I.laid (fun _ _ q => Heap.get?_push_of_some _ q) (Nat.le_refl _) ⟨hz, its, 0, hv, Heap.get?_push_size _ rfl⟩
private theorem Inv.fresh (I : Inv X pins σ H s) : H s.heap.objs.size = none := I.hok.fresh (Nat.le_refl _)
private theorem Inv.lstM (I : Inv X pins σ H s) (hH : H l = some (.lst xs)) : xs.length ≤ sizeLine ∧ ∃ (its : List Value) (n : Nat), Vals xs its ∧ xs.length = its.length ∧ s.heap.get? l = some { cls := .type "list", data := .seq its.toArray n } := by
  obtain ⟨z, its, n, r, e⟩ := I.hok l _ hH
  exact ⟨z, its, n, r, r.length, e⟩
private theorem notLongL {n : Nat} (h : n ≤ sizeLine) : Builtin.List.listTooLong n = false := by
  unfold Builtin.List.listTooLong
  exact decide_eq_false (by omega)
end
section
variable {X : Cx}
noncomputable def rAppend : V → List V → Hp → VK → Prop := fun x vs H Q => ∃ l xs y, x = .ref l ∧ vs = [y] ∧ H l = some (.lst xs) ∧ xs.length < sizeLine ∧ Q .non (upd H l (.lst (xs ++ [y])))
private theorem mt_append : MtM X "list.append" rAppend := by
  intro pins s σ H x vs v us Q I rx rv h
  obtain ⟨l, xs, y, rfl, rfl, hH, hz, q⟩ := h
  cases rx
  obtain ⟨u, rfl, ru⟩ := rv.one
  obtain ⟨z, its, n, r, hl, e⟩ := I.lstM hH
  refine call_meets F.slot_list_append ⟨_, e, rfl⟩ F.entry_list_append (F.args_list_append_2 _ _) (PySem.list_append l its.toArray n u (by rw [List.size_toArray]; omega)) ⟨e, ?_⟩
  refine ⟨.non, _, I.lset (its' := its ++ [u]) hH e (by simp) (r.append (.cons ru .nil)) ?_, rfl, q⟩
  rw [List.length_append, List.length_singleton]
  omega
noncomputable def rExtend : V → List V → Hp → VK → Prop := fun x vs H Q => ∃ l b xs zs, x = .ref l ∧ vs = [.ref b] ∧ H l = some (.lst xs) ∧ H b = some (.lst zs) ∧ xs.length + zs.length ≤ sizeLine ∧ Q .non (upd H l (.lst (xs ++ zs)))
private theorem mt_extend : MtM X "list.extend" rExtend := by
  intro pins s σ H x vs v us Q I rx rv h
  obtain ⟨l, b, xs, zs, rfl, rfl, hH, hB, hz, q⟩ := h
  cases rx
  obtain ⟨u, rfl, ru⟩ := rv.one
  cases ru
  obtain ⟨z, its, n, r, hl, e⟩ := I.lstM hH
  obtain ⟨z2, its2, n2, r2, hl2, e2⟩ := I.lstM hB
  have hsz : its.toArray.size + its2.toArray.size ≤ sizeLine := by rw [List.size_toArray, List.size_toArray]; omega
  have hlong : ¬ (!its.toArray.isEmpty && Builtin.List.listTooLong (its.toArray.size + its2.toArray.size)) = true := by
    rw [notLongL hsz, Bool.and_false]
    exact Bool.false_ne_true
  refine call_meets F.slot_list_extend ⟨_, e, rfl⟩ F.entry_list_extend (F.args_list_extend_2 _ _)
    (AutoSeq1.list_extend_list_list_0 l its.toArray n b its2.toArray n2 hlong (by rw [List.size_toArray]; omega) (by omega)) ⟨e, e2, ?_⟩
  refine ⟨.non, _, I.lset (its' := its ++ its2) hH e (by simp) (r.append r2) ?_, rfl, q⟩
  rw [List.length_append]
  omega
noncomputable def rPop : V → List V → Hp → VK → Prop := fun x vs H Q => ∃ l xs y, x = .ref l ∧ vs = [] ∧ H l = some (.lst xs) ∧ xs[xs.length - 1]? = some y ∧ Q y (upd H l (.lst xs.dropLast))
private theorem mt_pop : MtM X "list.pop" rPop := by
  intro pins s σ H x vs v us Q I rx rv h
  obtain ⟨l, xs, y, rfl, rfl, hH, hy, q⟩ := h
  cases rx
  have hus := rv.zero
  subst hus
  obtain ⟨z, its, n, r, hl, e⟩ := I.lstM hH
  obtain ⟨u, hu, ru⟩ := r.get hy
  have hy' : its.toArray[its.toArray.size - 1]? = some u := by
    show its.toArray[its.length - 1]? = some u
    rw [← Array.getElem?_toList, ← hl]
    exact hu
  refine call_meets F.slot_list_pop ⟨_, e, rfl⟩ F.entry_list_pop (F.args_list_pop_1 _) (MeetsSeq.list_pop_last l its.toArray n u hy' (by rw [List.size_toArray]; omega)) ⟨e, ?_⟩
  refine ⟨y, _, I.lset (its' := its.dropLast) hH e ?_ r.dropLast ?_, ru, q⟩
  · show its.toArray.eraseIdxIfInBounds (its.toArray.size - 1) = its.dropLast.toArray
    rw [List.size_toArray, List.eraseIdxIfInBounds_toArray, erase_last]
  · rw [List.length_dropLast]
    omega
noncomputable def rCat : R2 := fun x y H Q => ∃ l b xs zs, x = .ref l ∧ y = .ref b ∧ H l = some (.lst xs) ∧ H b = some (.lst zs) ∧ xs.length + zs.length ≤ sizeLine ∧ ∀ p, H p = none → Q (.ref p) (upd H p (.lst (xs ++ zs)))
private theorem op_cat : OpR X (binaryOp .Add) rCat := by
  intro pins s σ H x y v u Q I rx ry h
  obtain ⟨l, b, xs, zs, rfl, rfl, hH, hB, hz, q⟩ := h
  cases rx
  cases ry
  obtain ⟨z, its, n, r, hl, e⟩ := I.lstM hH
  obtain ⟨z2, its2, n2, r2, hl2, e2⟩ := I.lstM hB
  refine PySem.P.add_list e e2 ?_ (by rw [List.size_toArray, List.size_toArray]; omega)
  have ea : its.toArray ++ its2.toArray = (its ++ its2).toArray := by simp
  rw [ea]
  exact ⟨.ref _, _, I.lnew (t' := s.toks) (r.append r2) (by rw [List.length_append]; omega), rfl, q _ I.fresh⟩
end
end L2
namespace L2
open PySem PySem.Spec PyProof.Rows
private theorem Vals.ints : ∀ {ns : List Int} {us : List Value}, Vals (ns.map V.int) us → IntsAre us ns
  | [], us, h => by
    rw [List.map_nil] at h
    cases h
    exact IntsAre.nil
  | n :: ns, us, h => by
    rw [List.map_cons] at h
    cases h with
    | cons r t =>
      obtain ⟨k, rfl⟩ := r
      exact IntsAre.cons n k (Vals.ints t)
private theorem vals_of_ints : ∀ {us : List Value} {ns : List Int}, IntsAre us ns → Vals (ns.map V.int) us
  | _, _, .nil => by rw [List.map_nil]; exact Paired.nil
  | _, _, .cons n t h => by rw [List.map_cons]; exact Paired.cons (show RelV (V.int n) (Value.int n t) from ⟨t, rfl⟩) (vals_of_ints h)
private theorem Vals.bls : ∀ {bs : List Bool} {us : List Value}, Vals (bs.map V.bl) us → us = bs.map Value.bool
  | [], us, h => by
    rw [List.map_nil] at h
    cases h
    rfl
  | b :: bs, us, h => by
    rw [List.map_cons] at h
    cases h with
    | cons r t =>
      cases r
      rw [Vals.bls t, List.map_cons]
private theorem Vals.ref1 {a : Addr} {us : List Value} (r : Vals [V.ref a] us) : us = [Value.ref a] := by
  cases r with
  | cons r t =>
    cases t
    cases r
    rfl
private theorem Vals.int2 {i j : Int} {us : List Value} (r : Vals [V.int i, V.int j] us) : ∃ t u, us = [Value.int i t, Value.int j u] := by
  cases r with
  | cons r t =>
    cases t with
    | cons r2 t2 =>
      cases t2
      obtain ⟨t, rfl⟩ := r
      obtain ⟨u, rfl⟩ := r2
      exact ⟨t, u, rfl⟩
section
variable {prog : Program} {w : World} {A : Around} {E : Value → Shared → Prop} {s : Shared} {l : Addr} {its : List Value} {ns : List Int} {Q : Value → Shared → Prop}
private theorem max_raw (hh : A.handled = none) (hl : s.heap.IsList l its.toArray) (hi : IntsAre its ns) (hne : 0 < ns.length)
    (h : ∀ h' tk M t', (∀ b o, s.heap.get? b = some o → h'.get? b = some o) → M ∈ ns → (∀ a, a ∈ ns → a ≤ M) → Q (.int M t') { s with heap := h', toks := tk }) : wpAny (model prog w) A (call (.builtin "max") [.ref l]) Q E s := by
  obtain ⟨xs, e⟩ := hi.allInts.items
  have hn : numsOf (intItems xs).toList = ns := by rw [← e]; exact hi.numsOf
  rw [nums_intItems] at hn
  subst hn
  rw [e] at hl
  have hsz : 0 < xs.size := by simpa using hne
  refine PySem.max_intList hh hl hsz fun v h' tk hv hk => ?_
  obtain ⟨t, rfl⟩ := intItems_at hv
  obtain ⟨h1, h2⟩ := argBest_gt (numAt xs) (xs.size - 1)
  refine h h' tk _ t hk ?_ fun a ha => ?_
  · rw [numAt_eq]; exact PySem.getD_mem (by rw [List.length_map, Array.length_toList]; omega)
  · obtain ⟨j, hj, rfl⟩ := mem_getD ha
    rw [List.length_map, Array.length_toList] at hj
    rw [← numAt_eq]; exact h2 j (by omega)
private theorem min_raw (hh : A.handled = none) (hl : s.heap.IsList l its.toArray) (hi : IntsAre its ns) (hne : 0 < ns.length)
    (h : ∀ h' tk M t', (∀ b o, s.heap.get? b = some o → h'.get? b = some o) → M ∈ ns → (∀ a, a ∈ ns → M ≤ a) → Q (.int M t') { s with heap := h', toks := tk }) : wpAny (model prog w) A (call (.builtin "min") [.ref l]) Q E s := by
  obtain ⟨xs, e⟩ := hi.allInts.items
  have hn : numsOf (intItems xs).toList = ns := by rw [← e]; exact hi.numsOf
  rw [nums_intItems] at hn
  subst hn
  rw [e] at hl
  have hsz : 0 < xs.size := by simpa using hne
  refine PySem.min_intList hh hl hsz fun v h' tk hv hk => ?_
  obtain ⟨t, rfl⟩ := intItems_at hv
  obtain ⟨h1, h2⟩ := argBest_lt (numAt xs) (xs.size - 1)
  refine h h' tk _ t hk ?_ fun a ha => ?_
  · rw [numAt_eq]; exact PySem.getD_mem (by rw [List.length_map, Array.length_toList]; omega)
  · obtain ⟨j, hj, rfl⟩ := mem_getD ha
    rw [List.length_map, Array.length_toList] at hj
    rw [← numAt_eq]; exact h2 j (by omega)
end
section
variable {X : Cx}
noncomputable def rMax (K : PySem.W.Frag) : List V → Hp → VK → Prop := fun vs H Q => ∃ (a : Addr) (ns : List Int), vs = [V.ref a] ∧ SqL K H a (ns.map V.int) ∧ 0 < ns.length ∧ ∀ m, m ∈ ns → (∀ y, y ∈ ns → y ≤ m) → Q (.int m) H
noncomputable def rMin (K : PySem.W.Frag) : List V → Hp → VK → Prop := fun vs H Q => ∃ (a : Addr) (ns : List Int), vs = [V.ref a] ∧ SqL K H a (ns.map V.int) ∧ 0 < ns.length ∧ ∀ m, m ∈ ns → (∀ y, y ∈ ns → m ≤ y) → Q (.int m) H
private theorem cr_max (hc : X.calm = true) : CallR X (.builtin "max") (rMax X.K) := by
  intro pins s σ H vs us Q I r h
  obtain ⟨a, ns, rfl, hs, hne, q⟩ := h
  obtain ⟨its, rv, hl, _⟩ := I.list hs
  rw [Vals.ref1 r]
  exact max_raw (I.ok.hd hc) hl.isList rv.ints hne fun h' tk m t' hk h1 h2 => ⟨.int _, H, I.kept hk, ⟨_, rfl⟩, q m h1 h2⟩
private theorem cr_min (hc : X.calm = true) : CallR X (.builtin "min") (rMin X.K) := by
  intro pins s σ H vs us Q I r h
  obtain ⟨a, ns, rfl, hs, hne, q⟩ := h
  obtain ⟨its, rv, hl, _⟩ := I.list hs
  rw [Vals.ref1 r]
  exact min_raw (I.ok.hd hc) hl.isList rv.ints hne fun h' tk m t' hk h1 h2 => ⟨.int _, H, I.kept hk, ⟨_, rfl⟩, q m h1 h2⟩
noncomputable def rSorted (K : PySem.W.Frag) : List V → Hp → VK → Prop := fun vs H Q => ∃ (a : Addr) (ns : List Int), vs = [V.ref a] ∧ SqL K H a (ns.map V.int) ∧ ns.length < 64 ∧
  ∀ (ns' : List Int) (p : Addr), ns'.Perm ns → ns'.Pairwise (· ≤ ·) → H p = none → Q (.ref p) (upd H p (.lst (ns'.map V.int)))
private theorem small64 {n : Nat} (h : n < 64) : n ≤ sizeLine := by rw [sizeLine_eq]; omega
private theorem cr_sorted : CallR X (.builtin "sorted") (rSorted X.K) := by
  intro pins s σ H vs us Q I r h
  obtain ⟨a, ns, rfl, hs, h64, q⟩ := h
  obtain ⟨its, rv, hl, _⟩ := I.list hs
  rw [Vals.ref1 r]
  have hi := rv.ints
  refine PyProof.Rows.sorted_ints hl.isList hi (by rw [hi.length]; exact h64) fun out ns' h1 h2 h3 => ?_
  obtain ⟨ep, he'⟩ := PyProof.Rows.sortedAll_at s.heap its out
  have hlen : (ns'.map V.int).length ≤ sizeLine := by rw [List.length_map, h2.length_eq]; exact small64 h64
  exact ⟨.ref _, upd H (s.heap.objs.size + 1) (.lst (ns'.map V.int)), I.laid (t' := s.toks) (fun _ _ => PyProof.Rows.sortedAll_old) (Nat.le_succ _) ⟨hlen, out.toList, ep, vals_of_ints h1, he'⟩, rfl, q ns' _ h2 h3 (I.hok.fresh (Nat.le_succ _))⟩
end
section
variable {X : Cx}
noncomputable def rIndex (K : PySem.W.Frag) : V → List V → Hp → VK → Prop := fun x xs H Q => ∃ (a : Addr) (ys : List V) (y : V) (j : Nat) (z : V), x = V.ref a ∧ xs = [y] ∧ SqL K H a ys ∧ flatV y = true ∧ ys.all flatV = true ∧ ys[j]? = some z ∧ eqV z y = true ∧
  (∀ (m : Nat) (z' : V), m < j → ys[m]? = some z' → eqV z' y = false) ∧ Q (.int (j : Nat)) H
private theorem flat_at {ys : List V} (f : ys.all flatV = true) {j : Nat} {z : V} (h : ys[j]? = some z) : flatV z = true := List.all_eq_true.mp f z (List.mem_of_getElem? h)
private theorem mt_index : MtR X "list.index" (rIndex X.K) := by
  intro pins s σ H x xs v us Q I rx rxs h
  obtain ⟨a, ys, y, j, z, rfl, rfl, hs, fy, fys, hz, hzj, hno, q⟩ := h
  cases rx
  cases rxs with
  | cons ry rt =>
    rename_i uy ut
    cases rt
    obtain ⟨its, rv, ⟨⟨cls, dd, data, sl⟩, n, ho, hc, hdn, hd⟩, hlen⟩ := I.list hs
    simp only at hc hd
    subst hc hd
    obtain ⟨u, hu, ru⟩ := rv.get hz
    obtain ⟨hjl, hje⟩ := List.getElem?_eq_some_iff.mp hu
    have hvl := rv.length
    have hj : j < its.toArray.size := by simpa using hjl
    have hsl := sizeLine_eq
    refine call_meets PySem.F.slot_list_index ⟨_, ho, rfl⟩ PySem.F.entry_list_index (PySem.F.args_list_index_2 _ _)
      (SeqAt.list_indexAt a its.toArray n dd sl uy (eqU y) j hj (by omega) ?_ ?_) ⟨ho, fun u' hu' => mem_eqAt ry fy rv fys u' (by simpa using hu'), ?_⟩
    · have e1 : its.toArray[j] = u := by simpa using hje
      rw [e1, eqU_of ru (flat_at fys hz)]
      exact hzj
    · intro m hm hmj
      have hml : m < its.length := by simpa using hm
      have hmy : m < ys.length := by omega
      have hy' : ys[m]? = some ys[m] := List.getElem?_eq_getElem hmy
      obtain ⟨u2, hu2, ru2⟩ := rv.get hy'
      obtain ⟨_, hme⟩ := List.getElem?_eq_some_iff.mp hu2
      have e1 : its.toArray[m] = u2 := by simpa using hme
      rw [e1, eqU_of ru2 (flat_at fys hy')]
      exact hno m _ hmj hy'
    · exact ⟨.int (j : Nat), H, I.tok _, ⟨_, rfl⟩, q⟩
end
private theorem iter_any {prog : Program} {w : World} {A : Around} {E : Value → Shared → Prop} {s : Shared} {l : Addr} {items : Array Value} {Q : Value → Shared → Prop} (hl : s.heap.IsList l items)
    (h : ∀ s₂ : Shared, s₂ = { s with heap := s.heap.push { cls := .type "list_iterator", data := .fields #[.ref l, .int 0 0] } } →
      (s₂.heap.IsListIter s.heap.objs.size l 0 ∧ s₂.heap.IsList l items) → l ≠ s.heap.objs.size → Q (.ref s.heap.objs.size) s₂) : wpAny (model prog w) A (pyIter (.ref l)) Q E s := by
  have hlt : l < s.heap.objs.size := by obtain ⟨_, e, _⟩ := hl; exact Heap.lt_size e
  exact wpAny_pyIter_list hl (h _ rfl ⟨⟨_, Heap.get?_push_size _ rfl, rfl, rfl⟩, hl.push _⟩ (Nat.ne_of_lt hlt))
private theorem truth_bools {prog : Program} {w : World} {A : Around} {bs : List Bool} {its : List Value} (e : its = bs.map Value.bool) :
    TruthOf prog w A (fun i v => its.toArray[i]? = some v) (fun i => bs.getD i false) := fun i v s Q E hv hq => by
  have hv' : its[i]? = some v := by simpa using hv
  rw [e, List.getElem?_map] at hv'
  obtain ⟨b, hb, rfl⟩ := Option.map_eq_some_iff.mp hv'
  have hg : bs.getD i false = b := by rw [List.getD_eq_getElem?_getD, hb] <;> rfl
  have hq' : Q (bs.getD i false) s := hq
  rw [hg] at hq'
  exact wpAny_truthy_bool hq'
private theorem any_range : ∀ bs : List Bool, (List.range bs.length).any (fun i => bs.getD i false) = bs.any id
  | [] => rfl
  | b :: bs => by
    rw [List.length_cons, List.range_succ_eq_map, List.any_cons, List.any_map, List.any_cons, ← any_range bs]
    all_goals rfl
section
variable {X : Cx}
noncomputable def rAny (K : PySem.W.Frag) : List V → Hp → VK → Prop := fun vs H Q => ∃ (a : Addr) (bs : List Bool), vs = [V.ref a] ∧ SqL K H a (bs.map V.bl) ∧ Q (.bl (bs.any id)) H
private theorem cr_any (hc : X.calm = true) : CallR X (.builtin "any") (rAny X.K) := by
  intro pins s σ H vs us Q I r h
  obtain ⟨a, bs, rfl, hs, q⟩ := h
  obtain ⟨its, rv, hl, _⟩ := I.list hs
  rw [Vals.ref1 r]
  have hb := rv.bls
  refine call_any_walk (iter_any hl.isList fun s₂ e2 st hne => ?_)
  subst e2
  refine ⟨_, _, _, _, _, _, _, rfl, Walks.list (A := X.A.in1) (I.ok.hd hc) _ a hne its.toArray, st, truth_bools hb, fun h' tk hk => ?_⟩
  refine ⟨.bl _, H, I.kept fun b o eo => hk b o (fun hmem => ?_) (Heap.get?_push_of_some _ eo), ?_, q⟩
  · rcases List.mem_cons.mp hmem with e1 | hmem
    · exact absurd (e1 ▸ Heap.lt_size eo) (Nat.lt_irrefl _)
    · cases hmem
  · show Value.bool _ = Value.bool _
    rw [← any_range, hb, List.size_toArray, List.length_map]
end
mutual
inductive Dp (K : PySem.W.Frag) (H : Hp) : V → PyData → Prop
  | non : Dp K H .non .none
  | bl (b : Bool) : Dp K H (.bl b) (.bool b)
  | int (i : Int) : Dp K H (.int i) (.int i)
  | str (x : Str) : Dp K H (.str x) (.str x)
  | lst {a : Addr} {xs : List V} {ds : List PyData} : SqL K H a xs → DpAll K H xs ds → Dp K H (.ref a) (.list ds)
  | tup {a : Addr} {xs : List V} {ds : List PyData} : SqT K H a xs → DpAll K H xs ds → Dp K H (.ref a) (.tuple ds)
inductive DpAll (K : PySem.W.Frag) (H : Hp) : List V → List PyData → Prop
  | nil : DpAll K H [] []
  | cons {v : V} {vs : List V} {d : PyData} {ds : List PyData} : Dp K H v d → DpAll K H vs ds → DpAll K H (v :: vs) (d :: ds)
end
section
variable {X : Cx} {pins : List (Addr × Obj)} {σ : St} {H : Hp} {s : Shared}
mutual
private theorem Dp.reads (I : Inv X pins σ H s) : ∀ (d : PyData) (v : V) (u : Value), Dp X.K H v d → RelV v u → ∃ as, Reads s.heap u d as
  | .none, _, _, h, r => by
    cases h
    cases r
    exact ⟨_, Reads.none⟩
  | .bool b, _, _, h, r => by
    cases h
    cases r
    exact ⟨_, Reads.bool b⟩
  | .int i, _, _, h, r => by
    cases h
    obtain ⟨t, rfl⟩ := r
    exact ⟨_, Reads.int i t⟩
  | .str x, _, _, h, r => by
    cases h
    obtain ⟨t, rfl⟩ := r
    exact ⟨_, Reads.str x t⟩
  | .list ds, _, _, h, r => by
    cases h with
    | lst hs ha =>
      cases r
      obtain ⟨its, rv, ⟨o, n, ho, hc, _, hd⟩, _⟩ := I.list hs
      obtain ⟨as, hr⟩ := Dp.readsAll I ds _ its ha rv
      exact ⟨_, Reads.list ho hc hd hr⟩
  | .tuple ds, _, _, h, r => by
    cases h with
    | tup hs ha =>
      cases r
      obtain ⟨its, rv, ⟨o, ho, hc, n, hd⟩, _⟩ := I.tuple hs
      obtain ⟨as, hr⟩ := Dp.readsAll I ds _ its ha rv
      exact ⟨_, Reads.tuple ho hc hd hr⟩
  | .dict _, _, _, h, _ => by cases h
private theorem Dp.readsAll (I : Inv X pins σ H s) : ∀ (ds : List PyData) (vs : List V) (us : List Value), DpAll X.K H vs ds → Vals vs us → ∃ as, ReadsAll s.heap us ds as
  | [], _, _, h, r => by
    cases h
    cases r
    exact ⟨_, ReadsAll.nil⟩
  | d :: ds, _, _, h, r => by
    cases h with
    | cons h1 h2 =>
      cases r with
      | cons r1 r2 =>
        obtain ⟨as, q1⟩ := Dp.reads I d _ _ h1 r1
        obtain ⟨bs, q2⟩ := Dp.readsAll I ds _ _ h2 r2
        exact ⟨_, ReadsAll.cons q1 q2⟩
end
end
section
variable {X : Cx}
noncomputable def rEqD (K : PySem.W.Frag) : R2 := fun x y H Q => ∃ d e, Dp K H x d ∧ Dp K H y e ∧ SeqAt.shaped d = true ∧ SeqAt.shaped e = true ∧ Q (.bl (PyData.eqv d e)) H
noncomputable def rNeD (K : PySem.W.Frag) : R2 := fun x y H Q => ∃ d e, Dp K H x d ∧ Dp K H y e ∧ SeqAt.shaped d = true ∧ SeqAt.shaped e = true ∧ Q (.bl (!PyData.eqv d e)) H
private theorem op_eqD (hu : X.A.units + 64 < cLine) : OpR X (compareOp .Eq) (rEqD X.K) := by
  intro pins s σ H x y v u Q I rx ry h
  obtain ⟨d, e, hd, he, sd, se, q⟩ := h
  obtain ⟨as, r1⟩ := Dp.reads I d x v hd rx
  obtain ⟨bs, r2⟩ := Dp.reads I e y u he ry
  exact SeqAt.compareEq_shaped r1 r2 sd se hu ⟨.bl _, H, I, rfl, q⟩
private theorem op_neD (hu : X.A.units + 64 < cLine) : OpR X (compareOp .NotEq) (rNeD X.K) := by
  intro pins s σ H x y v u Q I rx ry h
  obtain ⟨d, e, hd, he, sd, se, q⟩ := h
  obtain ⟨as, r1⟩ := Dp.reads I d x v hd rx
  obtain ⟨bs, r2⟩ := Dp.reads I e y u he ry
  exact SeqAt.compareNe_shaped r1 r2 sd se hu ⟨.bl _, H, I, rfl, q⟩
end
end L2
namespace L2
open PySem PySem.Spec PyProof.Rows
noncomputable abbrev CellAt (h : Heap) (c : Addr) (v : Option Value) : Prop := h.IsCell c v
noncomputable def relS (scope sc : Scope) : Scope :=
  { scope with names := scope.names.map fun (n, k) => if (k == .free && sc.kind == .function && sc.names.lookup n == some .cell) then (n, .cell) else (n, k) }
noncomputable def cloFrom (cells : List (Str × Addr)) : List (Str × NameKind) → List (Str × Addr) → List (Str × Addr)
  | [], acc => acc
  | (n, k) :: r, acc => if k == .free then cloFrom cells r ((n, (cells.lookup n).getD 0) :: acc) else cloFrom cells r acc
private theorem closure_loop (env : Env) (f : Str × NameKind → List (Str × Addr) → Sem (ForInStep (List (Str × Addr))))
    (hf : ∀ n k c, f (n, k) c = if k == .free then (do let a ← cellOf env n; pure (.yield ((n, a) :: c))) else pure (.yield c)) :
    ∀ (names : List (Str × NameKind)) (acc : List (Str × Addr)), (∀ y ∈ names, y.2 = .free → ∃ c, env.cells.lookup y.1 = some c) → forIn names acc f = pure (cloFrom env.cells names acc)
  | [], acc, _ => by rw [List.forIn_nil]; rfl
  | (n, k) :: r, acc, h => by
    rw [List.forIn_cons, hf]
    have ih := fun acc => closure_loop env f hf r acc fun y hy => h y (List.mem_cons_of_mem _ hy)
    unfold cloFrom
    by_cases hk : (k == NameKind.free) = true
    · rw [if_pos hk, if_pos hk]
      obtain ⟨c, hc⟩ := h (n, k) List.mem_cons_self (by simpa using hk)
      have e : cellOf env n = pure c := by unfold cellOf; rw [hc]
      rw [e]
      have e2 : (env.cells.lookup n).getD 0 = c := by rw [hc]; rfl
      rw [e2]
      exact ih _
    · rw [if_neg hk, if_neg hk]
      exact ih _
private theorem closure_ok {scope : Scope} {env : Env} (h : ∀ y ∈ scope.names, y.2 = .free → ∃ c, env.cells.lookup y.1 = some c) : closureFor scope env = pure (cloFrom env.cells scope.names []) := by
  simp only [closureFor]
  rw [closure_loop env _ (fun n k c => rfl) scope.names [] h]
  rfl
private theorem mem_lookup {α : Type} : ∀ {l : List (Str × α)} {n : Str} {c : α}, (n, c) ∈ l → ∃ c', l.lookup n = some c'
  | (k, v) :: r, n, c, h => by
    rw [List.lookup_cons]
    cases hb : n == k with
    | true => exact ⟨_, rfl⟩
    | false =>
      rcases List.mem_cons.mp h with e | h
      · cases e; simp at hb
      · exact mem_lookup h
private theorem cloFrom_mem {cells : List (Str × Addr)} : ∀ {names : List (Str × NameKind)} {acc : List (Str × Addr)} {n : Str} {c : Addr}, (n, c) ∈ cloFrom cells names acc → (n, c) ∈ acc ∨ ((n, .free) ∈ names ∧ c = (cells.lookup n).getD 0)
  | [], _, _, _, h => .inl h
  | (m, k) :: r, acc, n, c, h => by
    unfold cloFrom at h
    split at h
    · rename_i hk
      have hk : k = .free := by simpa using hk
      rcases cloFrom_mem h with h | ⟨h1, h2⟩
      · rcases List.mem_cons.mp h with e | h
        · cases e; exact .inr ⟨hk ▸ List.mem_cons_self, rfl⟩
        · exact .inl h
      · exact .inr ⟨List.mem_cons_of_mem _ h1, h2⟩
    · rcases cloFrom_mem h with h | ⟨h1, h2⟩
      · exact .inl h
      · exact .inr ⟨List.mem_cons_of_mem _ h1, h2⟩
private theorem cloFrom_acc {cells : List (Str × Addr)} : ∀ {names : List (Str × NameKind)} {acc : List (Str × Addr)} {p : Str × Addr}, p ∈ acc → p ∈ cloFrom cells names acc
  | [], _, _, h => h
  | (m, k) :: r, acc, p, h => by
    unfold cloFrom
    split
    · exact cloFrom_acc (List.mem_cons_of_mem _ h)
    · exact cloFrom_acc h
private theorem cloFrom_has {cells : List (Str × Addr)} : ∀ {names : List (Str × NameKind)} {acc : List (Str × Addr)} {n : Str}, (n, .free) ∈ names → (n, (cells.lookup n).getD 0) ∈ cloFrom cells names acc
  | (m, k) :: r, acc, n, h => by
    unfold cloFrom
    rcases List.mem_cons.mp h with e | h
    · cases e
      exact cloFrom_acc List.mem_cons_self
    · split
      · exact cloFrom_has h
      · exact cloFrom_has h
private theorem cells_mem : ∀ {names : List (Str × NameKind)} {h : Heap} {acc : List (Str × Addr)} {x : Str} {c : Addr}, (x, c) ∈ cellsFrom h.objs.size names acc →
    (x, c) ∈ acc ∨ ((x, .cell) ∈ names ∧ h.objs.size ≤ c ∧ CellAt (pushCells h names) c none)
  | [], _, _, _, _, h => .inl h
  | (n, k) :: r, h, acc, x, c, hm => by
    unfold cellsFrom at hm
    unfold pushCells
    split at hm
    · rename_i hk
      rw [if_pos hk]
      have hk : k = .cell := by simpa using hk
      rw [← Heap.size_push h { cls := .type "cell", data := .cell none }] at hm
      rcases cells_mem hm with hm | ⟨h1, h2, h3⟩
      · rcases List.mem_cons.mp hm with e | hm
        · cases e
          exact .inr ⟨hk ▸ List.mem_cons_self, Nat.le_refl _, _, pushCells_keeps r _ _ _ (Heap.get?_push_size _ rfl), rfl⟩
        · exact .inl hm
      · rw [Heap.size_push] at h2
        exact .inr ⟨List.mem_cons_of_mem _ h1, Nat.le_of_succ_le h2, h3⟩
    · rename_i hk
      rw [if_neg hk]
      rcases cells_mem hm with hm | ⟨h1, h2, h3⟩
      · exact .inl hm
      · exact .inr ⟨List.mem_cons_of_mem _ h1, h2, h3⟩
private theorem cells_acc : ∀ {names : List (Str × NameKind)} {n : Nat} {acc : List (Str × Addr)} {p : Str × Addr}, p ∈ acc → p ∈ cellsFrom n names acc
  | [], _, _, _, h => h
  | (m, k) :: r, n, acc, p, h => by
    unfold cellsFrom
    split
    · exact cells_acc (List.mem_cons_of_mem _ h)
    · exact cells_acc h
private theorem cells_has : ∀ {names : List (Str × NameKind)} {n : Nat} {acc : List (Str × Addr)} {x : Str}, (x, .cell) ∈ names → ∃ c, (x, c) ∈ cellsFrom n names acc
  | (m, k) :: r, n, acc, x, h => by
    unfold cellsFrom
    rcases List.mem_cons.mp h with e | h
    · cases e
      exact ⟨n, cells_acc List.mem_cons_self⟩
    · split
      · exact cells_has h
      · exact cells_has h
private theorem cells_inj : ∀ {names : List (Str × NameKind)} {h : Heap} {acc : List (Str × Addr)} {x y : Str} {c : Addr}, (∀ p ∈ acc, p.2 < h.objs.size) → (∀ x y c, (x, c) ∈ acc → (y, c) ∈ acc → x = y) →
    (x, c) ∈ cellsFrom h.objs.size names acc → (y, c) ∈ cellsFrom h.objs.size names acc → x = y
  | [], _, _, _, _, _, _, hi, h1, h2 => hi _ _ _ h1 h2
  | (n, k) :: r, h, acc, x, y, c, hl, hi, h1, h2 => by
    unfold cellsFrom at h1 h2
    split at h1
    · rename_i hk
      rw [if_pos hk] at h2
      rw [← Heap.size_push h { cls := .type "cell", data := .cell none }] at h1 h2
      refine cells_inj (h := h.push _) (fun p hp => ?_) (fun x y c a b => ?_) h1 h2
      · rw [Heap.size_push]
        rcases List.mem_cons.mp hp with rfl | hp
        · exact Nat.lt_succ_self _
        · exact Nat.lt_succ_of_lt (hl p hp)
      · rcases List.mem_cons.mp a with e | a <;> rcases List.mem_cons.mp b with e' | b
        · cases e; cases e'; rfl
        · cases e; exact absurd (hl _ b) (Nat.lt_irrefl _)
        · cases e'; exact absurd (hl _ a) (Nat.lt_irrefl _)
        · exact hi _ _ _ a b
    · rename_i hk
      rw [if_neg hk] at h2
      exact cells_inj hl hi h1 h2
private theorem newEnv_comp {M : Model} {A : Around} {E : Value → Shared → Prop} {s : Shared} {scope : Scope} {globals : Addr} {closure : List (Str × Addr)} {qual : Str} {func : Option Addr} {code : Value} {around : Env} {builtins : Addr} {Q : Env → Shared → Prop}
    (h : Q (newEnv scope s.heap.objs.size globals (cellsFrom (s.heap.objs.size + 1) scope.names closure) qual func code (some around) builtins)
      { s with heap := pushCells (s.heap.push { cls := .type "dict", data := .dict #[] }) scope.names }) :
    wpAny M A (newFunctionEnv scope globals closure [] qual func code (some around) builtins) Q E s := by
  simp only [newFunctionEnv, Option.isSome_some, if_true]
  refine wpAny_bind (wpAny_alloc ?_)
  refine wpAny_bind (wpAny_layCells _ (fun n k c => rfl) scope.names closure _ _ ?_)
  rw [show ({ s with heap := s.heap.push { cls := .type "dict", data := .dict #[] } } : Shared).heap.objs.size = s.heap.objs.size + 1 from Heap.size_push ..]
  rw [List.forIn_nil]
  exact wpAny_bind (wpAny_pure (wpAny_pure h))
private theorem lookup_relS {sc : Scope} : ∀ {names : List (Str × NameKind)} {x : Str} {k : NameKind},
    (names.map fun (n, k) => if (k == NameKind.free && sc.kind == .function && sc.names.lookup n == some .cell) then (n, NameKind.cell) else (n, k)).lookup x = some k →
    ∃ k', names.lookup x = some k' ∧ (k = k' ∨ (k' = .free ∧ k = .cell))
  | [], _, _, h => by simp at h
  | (n, k₀) :: r, x, k, h => by
    have ih := @lookup_relS sc r x k
    have h' : List.lookup x ((if (k₀ == NameKind.free && sc.kind == .function && sc.names.lookup n == some .cell) = true then (n, NameKind.cell) else (n, k₀)) :: (r.map _)) = some k := h
    cases hx : x == n with
    | true =>
      simp only [List.lookup_cons, hx]
      by_cases hc : (k₀ == NameKind.free && sc.kind == .function && sc.names.lookup n == some .cell) = true
      · rw [if_pos hc] at h'
        simp only [List.lookup_cons, hx] at h'
        cases h'
        simp only [Bool.and_eq_true, beq_iff_eq] at hc
        exact ⟨k₀, rfl, .inr ⟨hc.1.1, rfl⟩⟩
      · rw [if_neg hc] at h'
        simp only [List.lookup_cons, hx] at h'
        cases h'
        exact ⟨_, rfl, .inl rfl⟩
    | false =>
      simp only [List.lookup_cons, hx]
      by_cases hc : (k₀ == NameKind.free && sc.kind == .function && sc.names.lookup n == some .cell) = true
      · rw [if_pos hc] at h'
        simp only [List.lookup_cons, hx] at h'
        exact ih h'
      · rw [if_neg hc] at h'
        simp only [List.lookup_cons, hx] at h'
        exact ih h'
structure BlkOk (N : List Str) (sc scope : Scope) (own : List (Str × Nat)) : Prop where
  kind : scope.kind = .function
  uniq : ∀ y ∈ scope.names, scope.names.lookup y.1 = some y.2
  ix : ∀ p ∈ own, N[p.2]? = some p.1
  free : ∀ y ∈ scope.names, y.2 = .free → sc.names.lookup y.1 = some .cell ∨ sc.names.lookup y.1 = some .free
  own : ∀ y ∈ scope.names, y.2 = .local ∨ y.2 = .cell → y.1 ∈ own.map (·.1) ∨ y.1 ∉ N
noncomputable def wipe (σ : St) : List Nat → St
  | [] => σ
  | v :: vs => (wipe σ vs).set v none
private theorem wipe_length (σ : St) : ∀ vs : List Nat, (wipe σ vs).length = σ.length
  | [] => rfl
  | v :: vs => by unfold wipe; rw [List.length_set, wipe_length σ vs]
private theorem wipe_some {σ : St} {i : Nat} {x : V} : ∀ {vs : List Nat}, (wipe σ vs)[i]? = some (some x) → σ[i]? = some (some x) ∧ i ∉ vs
  | [], h => ⟨h, by simp⟩
  | v :: vs, h => by
    unfold wipe at h
    by_cases hi : v = i
    · subst hi
      by_cases hv : v < (wipe σ vs).length
      · rw [List.getElem?_set_self hv] at h; cases h
      · rw [List.getElem?_eq_none (by simpa using hv)] at h; cases h
    · rw [List.getElem?_set_ne hi] at h
      obtain ⟨h1, h2⟩ := wipe_some h
      exact ⟨h1, by simp only [List.mem_cons, not_or]; exact ⟨fun e => hi e.symm, h2⟩⟩
noncomputable abbrev Cx.blk (X : Cx) (s : Shared) (H : Hp) (scope : Scope) (cenv : Env) (fp : List Addr) : Cx := { X with s_0 := s, H_0 := H, env := cenv, outer := X.stack, ex := fp, fn := fun x => scope.names.lookup x == some .cell, pn := [], xe := fun _ _ => False }
section
variable {X : Cx} {pins : List (Addr × Obj)} {σ : St} {H : Hp} {s : Shared}
private theorem block_start {scope : Scope} {own : List (Str × Nat)} {fp : List Addr} (I : Inv X pins σ H s) (ok : BlkOk X.N X.env.scope scope own) (hN : X.N.Nodup) (hfp : ∀ b ∈ fp, FpOk X pins H b ∧ b < s.heap.objs.size) :
    Inv (X.blk s H scope (compEnvC scope (cellsFrom (s.heap.objs.size + 1) scope.names (cloFrom X.env.cells scope.names [])) s.heap.objs.size X.env) fp) [] (wipe σ (own.map (·.2))) H { s with heap := pushCells (s.heap.push { cls := .type "dict", data := .dict #[] }) scope.names } := by
  have hfree : ∀ y ∈ scope.names, y.2 = .free → ∃ c, X.env.cells.lookup y.1 = some c := fun y hy e => by
    rcases ok.free y hy e with k | k
    · exact I.ok.has _ (.inl k)
    · exact I.ok.has _ (.inr k)
  generalize hcenv : compEnvC scope (cellsFrom (s.heap.objs.size + 1) scope.names (cloFrom X.env.cells scope.names [])) s.heap.objs.size X.env = cenv
  have kp : ∀ b o, s.heap.get? b = some o → (pushCells (s.heap.push { cls := .type "dict", data := .dict #[] }) scope.names).get? b = some o := fun b o e => pushCells_keeps _ _ _ _ (Heap.get?_push_of_some _ e)
  have hL : cenv.locals = s.heap.objs.size := by rw [← hcenv]; rfl
  have hcl : cenv.cells = cellsFrom (s.heap.objs.size + 1) scope.names (cloFrom X.env.cells scope.names []) := by rw [← hcenv]; rfl
  have hsc : cenv.scope = relS scope X.env.scope := by rw [← hcenv]; rfl
  rw [← Heap.size_push s.heap { cls := .type "dict", data := .dict #[] }] at hcl
  have cm : ∀ {y c}, (y, c) ∈ cloFrom X.env.cells scope.names [] → X.env.cells.lookup y = some c ∧ c < s.heap.objs.size := fun {y c} hm => by
    rcases cloFrom_mem hm with hm | ⟨h1, rfl⟩
    · cases hm
    · obtain ⟨c, hc⟩ := hfree _ h1 rfl
      rw [hc]
      obtain ⟨w, z⟩ := I.cell _ _ hc
      exact ⟨rfl, z.lt⟩
  have mem : ∀ {y c}, cenv.cells.lookup y = some c → (X.env.cells.lookup y = some c ∧ c < s.heap.objs.size) ∨ (s.heap.objs.size + 1 ≤ c ∧ CellAt (pushCells (s.heap.push { cls := .type "dict", data := .dict #[] }) scope.names) c none) := fun {y c} e => by
    rw [hcl] at e
    rcases cells_mem (PySem.mem_of_lookup e) with hm | ⟨_, h2, h3⟩
    · exact .inl (cm hm)
    · rw [Heap.size_push] at h2; exact .inr ⟨h2, h3⟩
  have look : ∀ {y}, scope.names.lookup y = some .free → ∃ c, cenv.cells.lookup y = some c ∧ X.env.cells.lookup y = some c := fun {y} hl => by
    have hy : (y, NameKind.free) ∈ scope.names := PySem.mem_of_lookup hl
    obtain ⟨c', e'⟩ := mem_lookup (cells_acc (names := scope.names) (n := (s.heap.push { cls := .type "dict", data := .dict #[] }).objs.size) (cloFrom_has (cells := X.env.cells) (acc := []) hy))
    rw [← hcl] at e'
    refine ⟨c', e', ?_⟩
    rw [hcl] at e'
    rcases cells_mem (PySem.mem_of_lookup e') with hm | ⟨h1, _, _⟩
    · exact (cm hm).1
    · have := ok.uniq _ h1
      rw [hl] at this; cases this
  have okB : (X.blk s H scope cenv fp).Ok := by
    refine ⟨I.ok.mod, by show cenv.scope.kind = _; rw [hsc]; exact ok.kind, by show cenv.globals = _; rw [← hcenv]; exact I.ok.glob, by show cenv.builtins = _; rw [← hcenv]; exact I.ok.blt, by show s.heap.objs.size ≤ cenv.locals; rw [hL]; exact Nat.le_refl _,
      fun y z c e1 e2 => ?_, fun y hy => ?_, fun y c z e => ?_, I.ok.hd, I.ok.frames, .inl rfl, fun b hb => ⟨?_, fun y c e z => ?_⟩, I.bs, Nat.le_trans I.ok.bsz I.sz, fun b o e hb => ?_, fun b hb z => ?_, I.stack, I.stkFree⟩
    · have e1 : cenv.cells.lookup y = some c := e1
      have e2 : cenv.cells.lookup z = some c := e2
      rw [hcl] at e1 e2
      refine cells_inj (fun p hp => ?_) (fun y z c a b => I.ok.inj y z c (cm a).1 (cm b).1) (PySem.mem_of_lookup e1) (PySem.mem_of_lookup e2)
      rw [Heap.size_push]
      exact Nat.lt_succ_of_lt (cm (y := p.1) (c := p.2) hp).2
    · show ∃ c, cenv.cells.lookup y = some c
      have key : ∀ k, cenv.kindOf y = some k → (k = .cell ∨ k = .free) → ∃ c, cenv.cells.lookup y = some c := fun k hk hk' => by
        unfold Env.kindOf at hk
        rw [hsc] at hk
        obtain ⟨k', e, r⟩ := lookup_relS hk
        have : k' = .cell ∨ k' = .free := by
          rcases r with rfl | ⟨rfl, _⟩
          · exact hk'
          · exact .inr rfl
        rcases this with rfl | rfl
        · obtain ⟨c, hm⟩ := cells_has (n := (s.heap.push { cls := .type "dict", data := .dict #[] }).objs.size) (acc := cloFrom X.env.cells scope.names []) (PySem.mem_of_lookup e)
          obtain ⟨c', e'⟩ := mem_lookup hm
          exact ⟨c', by rw [hcl]; exact e'⟩
        · obtain ⟨c, h1, _⟩ := look e
          exact ⟨c, h1⟩
      rcases hy with hy | hy
      · exact key _ hy (.inl rfl)
      · exact key _ hy (.inr rfl)
    · have z : (scope.names.lookup y == some NameKind.cell) = true := z
      have z : scope.names.lookup y = some .cell := by simpa using z
      have e : cenv.cells.lookup y = some c := e
      rw [hcl] at e
      rcases cells_mem (PySem.mem_of_lookup e) with hm | ⟨_, h2, _⟩
      · rcases cloFrom_mem hm with hm | ⟨h1, _⟩
        · cases hm
        · have q := ok.uniq _ h1
          rw [z] at q; cases q
      · rw [Heap.size_push] at h2
        exact Nat.le_of_succ_le h2
    · show b ≠ cenv.locals
      rw [hL]; exact Nat.ne_of_lt (hfp b hb).2
    · have e : cenv.cells.lookup y = some c := e
      rcases mem e with ⟨h1, _⟩ | ⟨h1, _⟩
      · exact (hfp b hb).1.2.2.2.2.1 y c h1 z
      · have h2 : s.heap.objs.size + 1 ≤ b := by rw [← z]; exact h1
        exact absurd (Nat.lt_of_lt_of_le (hfp b hb).2 (Nat.le_of_succ_le h2)) (Nat.lt_irrefl _)
    · rcases (hfp b hb).1.2.2.2.1 with z | z
      · exact I.ok.noex b o e z
      · exact absurd (Nat.lt_of_lt_of_le (Heap.lt_size e) (Nat.le_trans I.ok.bsz z)) (Nat.lt_irrefl _)
    · rcases List.mem_cons.mp (I.stkSub b z) with z | z
      · exact (hfp b hb).1.2.1 z
      · exact (hfp b hb).1.2.2.1 z
  refine ⟨okB, rfl, I.bare, Un.kept kp, ⟨fun _ => none, ?_, fun i y av e1 e2 e3 => ?_⟩, fun y c e => ?_, ?_, fun y c e => ?_, fun p hp => ?_, I.hok.kept kp, by rw [wipe_length]; exact I.len⟩
  · show Heap.Ns _ cenv.locals _
    rw [hL]
    exact Heap.Ns.keeps (Heap.Ns.new ..) fun b o e => pushCells_keeps _ _ _ _ e
  · obtain ⟨e2, hne⟩ := wipe_some e2
    have hfr : scope.names.lookup y = some .free ∧ (cenv.kindOf y = some .cell ∨ cenv.kindOf y = some .free) := by
      have key : ∀ k, cenv.scope.names.lookup y = some k → k = .local ∨ k = .cell ∨ k = .free → scope.names.lookup y = some .free ∧ (cenv.kindOf y = some .cell ∨ cenv.kindOf y = some .free) := fun k hk hk' => by
        have hk0 := hk
        rw [hsc] at hk
        obtain ⟨k', e, r⟩ := lookup_relS hk
        have no : ¬ (k' = .local ∨ k' = .cell) := fun hh => by
          rcases ok.own _ (PySem.mem_of_lookup e) hh with e' | e'
          · obtain ⟨p, hp, hpy⟩ := List.mem_map.mp e'
            have e3 := ok.ix p hp
            have : p.1 = y := hpy
            rw [this] at e3
            exact hne (List.mem_map.mpr ⟨p, hp, nodup_ix hN e3 e1⟩)
          · exact e' (List.mem_of_getElem? e1)
        rcases r with rfl | ⟨rfl, rfl⟩
        · rcases hk' with rfl | rfl | rfl
          · exact absurd (.inl rfl) no
          · exact absurd (.inr rfl) no
          · exact ⟨e, .inr hk0⟩
        · exact ⟨e, .inl hk0⟩
      have e3 : Vis cenv.scope y := e3
      rcases e3 with e3 | e3 | e3
      · exact key _ e3 (.inl rfl)
      · exact key _ e3 (.inr (.inl rfl))
      · exact key _ e3 (.inr (.inr rfl))
    obtain ⟨m, hn, hl⟩ := I.loc
    have hvis : Vis X.env.scope y := (ok.free _ (PySem.mem_of_lookup hfr.1) rfl).elim (fun k => .inr (.inl k)) (fun k => .inr (.inr k))
    obtain ⟨w, r, q⟩ := hl i y av e1 e2 hvis
    refine ⟨w, r, .inr ⟨hfr.2, ?_⟩⟩
    obtain ⟨c, h1, h2⟩ := look hfr.1
    rcases q with ⟨k, _⟩ | ⟨_, c', e', z⟩
    · have k : X.env.scope.names.lookup y = some .local := k
      rcases ok.free _ (PySem.mem_of_lookup hfr.1) rfl with k' | k' <;> rw [show X.env.scope.names.lookup y = _ from k'] at k <;> cases k
    · rw [h2] at e'; cases e'
      exact ⟨c, h1, z.keeps kp⟩
  · have e : cenv.cells.lookup y = some c := e
    rcases mem e with ⟨h1, _⟩ | ⟨_, z⟩
    · obtain ⟨w, z⟩ := I.cell y c h1
      exact ⟨w, z.keeps kp⟩
    · exact ⟨_, z⟩
  · show H cenv.locals = none
    rw [hL]; exact I.hok.fresh (Nat.le_refl _)
  · have e : cenv.cells.lookup y = some c := e
    rcases mem e with ⟨h1, _⟩ | ⟨h1, _⟩
    · exact I.freeC y c h1
    · exact I.hok.fresh (Nat.le_of_succ_le h1)
  · exact absurd (show p ∈ ([] : List (Addr × Obj)) ++ [] from hp) (by simp)
private theorem app_ok {E : Value → Shared → Prop} {D : Addr} {xs : List V} {y : V} {v : Value} {Q : Value → Shared → Prop} (I : Inv X pins σ H s) (hD : H D = some (.lst xs)) (hz : xs.length < sizeLine) (r : RelV y v)
    (h : ∀ s', Inv X pins σ (upd H D (.lst (xs ++ [y]))) s' → Q .none s') : wpAny (model X.prog X.w) X.A (call (.builtin "list.append") [.ref D, v]) Q E s := by
  obtain ⟨hz', its, n, ri, e⟩ := I.hok D _ hD
  have hl := ri.length
  refine append_at (hsz := by rw [List.size_toArray]; omega) e fun h' sb ho' => ?_
  refine h { s with heap := h' } (I.write (t' := s.toks) (by rw [hD]; trivial) (.inl rfl) (fun b u hb q => (sb.2 b hb).trans q) ⟨_, ho'⟩ ⟨by rw [List.length_append]; exact hz, its ++ [v], n + 1, ri.append (.cons r .nil), ?_⟩)
  rw [ho']
  simp
noncomputable def PTs (X : Cx) (ifs : List Expr) (t : TT) : Prop :=
  ∀ (pins : List (Addr × Obj)) (s : Shared) (σ : St) (H : Hp) (Q : Bool → Hp → Prop), Inv X pins σ H s → t σ H Q →
    wpAny (model X.prog X.w) X.A (forIn ifs true fun c r => if r = true then do let ok ← isTrue c X.env (eval c X.env); pure (ForInStep.yield ok) else pure (ForInStep.yield r)) (TP X pins σ Q) X.xe s
noncomputable def tYes : TT := fun _ H Q => Q true H
private theorem pts_nil : PTs X [] tYes := fun _ _ _ H _ I h => wpAny_tests_nil ⟨H, I, h⟩
private theorem pts_one {c : Expr} {t : TT} (h : PT X c t) : PTs X [c] t := fun pins s σ H Q I hw => wpAny_tests_one (h pins s σ H Q I hw)
end
private theorem thnF {α : Type} {t : Sem α} {Q Q' : α → Shared → Prop} {M : Model} {A : Around} {E : Value → Shared → Prop} {s : Shared} (h : wpAny M A t Q (fun _ _ => False) s) (hQ : ∀ a s, Q a s → Q' a s) : wpAny M A t Q' E s := wpAny_mono h hQ fun _ _ z => False.elim z
private theorem compLoop_any {prog : Program} {w : World} {A : Around} {R : Result → Shared → Prop} {s : Shared} {elt target iter : Expr} {ifs : List Expr} {scope : Scope} {pos : Pos} {it acc : Value} {env : Env} (I : Nat → Shared → Prop)
    (turn : ∀ n s, I n s → wpAny (model prog w) A (pyNext it) (fun r s₁ => match r with
      | none => R (.ok .next) s₁
      | some v => wpAny (model prog w) A (letOwnedTupleGo target it v) (fun _ s₁' => wpAny (model prog w) A (assign target env v) (fun _ s₂ =>
          wpAny (model prog w) A (forIn ifs true fun c r => if r = true then do let ok ← isTrue c env (eval c env); pure (ForInStep.yield ok) else pure (ForInStep.yield r)) (fun ok s₃ =>
            if ok = true then wpAny (model prog w) A (eval elt env) (fun x s₄ =>
              wpAny (model prog w) A (call (.builtin "list.append") [acc, x]) (fun _ s₅ => ∃ m, m < n ∧ I m s₅) (notedBy (model prog w) A env fun e s' => R (.error e) s') s₄) (notedBy (model prog w) A env fun e s' => R (.error e) s') s₃
            else ∃ m, m < n ∧ I m s₃) (notedBy (model prog w) A env fun e s' => R (.error e) s') s₂) (notedBy (model prog w) A env fun e s' => R (.error e) s') s₁') (notedBy (model prog w) A env fun e s' => R (.error e) s') s₁) (notedBy (model prog w) A env fun e s' => R (.error e) s') s)
    (n : Nat) (h : I n s) :
    codeAny (model prog w) A (.compLoop (.ListComp elt [⟨target, iter, ifs, 0⟩] scope pos) 0 it acc env) R s := by
  refine codeAny_loop rfl I (fun n s hI => ?_) n h
  show wpAny _ A ((compTurn (.ListComp elt [⟨target, iter, ifs, 0⟩] scope pos) 0 it acc env).onRaise (fun x => do noteFrame x env; theTreesLotGoes x)) _ _ s
  refine wpAny_noted ?_
  rw [compTurn_list]
  refine wpAny_bind (wpAny_standAt (wpAny_bind (wpAny_mono (turn n s hI) (fun r s₁ h₁ => ?_) fun _ _ h' => h')))
  cases r with
  | none => exact wpAny_pure h₁
  | some v =>
    refine wpAny_bind (wpAny_mono h₁ (fun _ s₁' h₁' => ?_) fun _ _ h' => h')
    refine wpAny_bind (wpAny_mono h₁' (fun _ s₂ h₂ => wpAny_bind (wpAny_mono h₂ (fun ok s₃ h₃ => ?_) fun _ _ h' => h')) fun _ _ h' => h')
    cases ok with
    | false => exact wpAny_pure ⟨rfl, h₃⟩
    | true =>
      exact wpAny_bind (wpAny_bind (wpAny_mono h₃ (fun x s₄ h₄ => wpAny_bind (wpAny_mono h₄ (fun _ s₅ h₅ => wpAny_pure (wpAny_pure ⟨rfl, h₅⟩)) fun _ _ h' => h')) fun _ _ h' => h'))
section
variable {X : Cx}
noncomputable def tLc (wi : TI) (g : TG) (tt : TT) (te : TE) (vs : List Nat) : TE := fun σ H Q => wi σ H fun J H1 => ∀ D, H1 D = none → ∃ W : Nat → Nat → Hp → Prop, (∃ m, W 0 m (upd H1 D (.lst []))) ∧ ∀ i m H, W i m H →
  (J.stop i H ∧ Q (.ref D) H) ∨ (J.go i H ∧ ∃ Nx : Hp → Prop, (∀ H', Nx H' → ∃ m', m' < m ∧ W (i + 1) m' H') ∧ ∀ x H', J.yld i H x H' → g x (wipe σ vs) H' fun σ2 H2 => wipe σ2 vs = wipe σ vs ∧ tt σ2 H2 fun b H3 =>
    if b = true then te σ2 H3 fun y H4 => ∃ acc, H4 D = some (.lst acc) ∧ acc.length < sizeLine ∧ Nx (upd H4 D (.lst (acc ++ [y]))) else Nx H3)
private theorem lc_core {pins : List (Addr × Obj)} {s : Shared} {σ : St} {H : Hp} {Q : VK} {elt tg iter : Expr} {ifs : List Expr} {scope : Scope} {own : List (Str × Nat)} {pos pos' : Pos} {wi : TI} {g : TG} {tt : TT} {te : TE} {use : Option (Value → Sem Unit)} {Qf : Value → Shared → Prop}
    (hc : X.calm = true) (hN : X.N.Nodup) (I : Inv X pins σ H s) (hi : PI X tg iter wi) (ok : BlkOk X.N X.env.scope scope own)
    (hg : ∀ (s : Shared) (H : Hp) (C : Addr) (cl : List (Str × Addr)) (fp : List Addr), PG (X.blk s H scope (compEnvC scope cl C X.env) fp) tg g) (ht : ∀ (s : Shared) (H : Hp) (C : Addr) (cl : List (Str × Addr)) (fp : List Addr), PTs (X.blk s H scope (compEnvC scope cl C X.env) fp) ifs tt)
    (he : ∀ (s : Shared) (H : Hp) (C : Addr) (cl : List (Str × Addr)) (fp : List Addr), PE (X.blk s H scope (compEnvC scope cl C X.env) fp) elt te) (hs : ∀ x, foldedSetIterable iter X.env x = pure x)
    (h : tLc wi g tt te (own.map (·.2)) σ H Q)
    (hRR : ∀ D C s' m H', Inv X pins σ H' s' → Q (.ref D) H' → s'.heap.Ns C m → FpOk X pins H' C → compPost (model X.prog X.w) X.A X.xe use Qf (.ref D) C (.ok .next) s') :
    wpAny (model X.prog X.w) X.A (comprehension (.ListComp elt [⟨tg, iter, ifs, 0⟩] scope pos) scope X.env pos' (newList []) false (eval iter X.env) use) Qf X.xe s := by
  have hfree : ∀ y ∈ scope.names, y.2 = .free → ∃ c, X.env.cells.lookup y.1 = some c := fun y hy e => by
    rcases ok.free y hy e with k | k
    · exact I.ok.has _ (.inl k)
    · exact I.ok.has _ (.inr k)
  refine wpAny_comprehension_free (use := use) rfl hs (closure_ok hfree) ok.kind (fun y hy e => by rw [ok.uniq y hy, e])
    (thn (hi pins s σ H _ I h) fun xv s1 hx => thn hx fun itv s2 h2 => ?_)
  obtain ⟨it, fp, tn, J, H2, e, I2, T, st2, f2, q⟩ := h2
  subst e
  refine wpAny_newObj_type (newEnv_comp ?_) (by show 0 ≤ sizeLine; decide)
  generalize hD : s2.heap.objs.size = D
  have hDn : H2 D = none := I2.hok.fresh (Nat.le_of_eq hD)
  obtain ⟨W, ⟨m0, w0⟩, turn⟩ := q D hDn
  -- the new list
  generalize hs3 : ({ s2 with heap := s2.heap.push { cls := .type "list", data := .seq ([] : List Value).toArray } } : Shared) = s3
  have I3 : Inv X pins σ (upd H2 D (.lst [])) s3 := by
    rw [← hs3]
    refine I2.laid (t' := s2.toks) (fun b o e => Heap.get?_push_of_some _ e) (Nat.le_of_eq hD) ⟨Nat.zero_le _, [], 0, .nil, ?_⟩
    rw [← hD]
    exact Heap.get?_push_size _ rfl
  have h3 : s3.heap = s2.heap.push { cls := .type "list", data := .seq ([] : List Value).toArray } := by rw [← hs3]
  have sz : ∀ b ∈ fp, b < s2.heap.objs.size := fun b hb => by
    obtain ⟨o, e, _⟩ := T.obj _ _ st2 b hb
    exact Heap.lt_size e
  have f3 : ∀ b ∈ fp, FpOk X pins (upd H2 D (.lst [])) b ∧ b < s3.heap.objs.size := fun b hb => by
    have hlt := sz b hb
    refine ⟨⟨?_, (f2 b hb).2⟩, by rw [h3, Heap.size_push]; exact Nat.lt_succ_of_lt hlt⟩
    rw [upd_ne (by rw [← hD]; exact Nat.ne_of_lt hlt)]
    exact (f2 b hb).1
  have st3 : tn 0 s3.heap := T.keep _ _ _ st2 fun b _ o e => by rw [h3]; exact Heap.get?_push_of_some _ e
  have I4 := block_start I3 ok hN f3
  have pg := hg s3 (upd H2 D (.lst [])) s3.heap.objs.size (cellsFrom (s3.heap.objs.size + 1) scope.names (cloFrom X.env.cells scope.names [])) fp
  have pt := ht s3 (upd H2 D (.lst [])) s3.heap.objs.size (cellsFrom (s3.heap.objs.size + 1) scope.names (cloFrom X.env.cells scope.names [])) fp
  have pe := he s3 (upd H2 D (.lst [])) s3.heap.objs.size (cellsFrom (s3.heap.objs.size + 1) scope.names (cloFrom X.env.cells scope.names [])) fp
  show codeAny _ _ (.compStart (.ListComp elt [⟨tg, iter, ifs, 0⟩] scope pos) 0 (.ref it) (.ref D) (compEnvC scope (cellsFrom (s3.heap.objs.size + 1) scope.names (cloFrom X.env.cells scope.names [])) s3.heap.objs.size X.env)) (compPost (model X.prog X.w) X.A X.xe use Qf (.ref D) s3.heap.objs.size) { s3 with heap := pushCells (s3.heap.push { cls := .type "dict", data := .dict #[] }) scope.names }
  have nfp : ∀ b ∈ fp, (upd H2 D (.lst [])) b = none := fun b hb => (f3 b hb).1.1
  generalize hce : compEnvC scope (cellsFrom (s3.heap.objs.size + 1) scope.names (cloFrom X.env.cells scope.names [])) s3.heap.objs.size X.env = ce at I4 pg pt pe ⊢
  have cL : ce.locals = s3.heap.objs.size := by subst hce; rfl
  generalize hH3 : upd H2 D (.lst []) = H3 at I3 I4 pg pt pe w0 nfp f3
  generalize hs4 : ({ s3 with heap := pushCells (s3.heap.push { cls := .type "dict", data := .dict #[] }) scope.names } : Shared) = s4 at I4 ⊢
  have st4 : tn 0 s4.heap := T.keep _ _ _ st3 fun b _ o e => by rw [← hs4]; exact pushCells_keeps _ _ _ _ (Heap.get?_push_of_some _ e)
  have stat : ∀ {σ' : St} {H' : Hp} {s' : Shared}, Inv (X.blk s3 H3 scope ce fp) [] σ' H' s' → (∀ b ∈ fp, H' b = none) → ∀ b ∈ fp, FpOk (X.blk s3 H3 scope ce fp) [] H' b := fun {σ' H' s'} I' hn b hb =>
    ⟨hn b hb, (I'.ok.exf b hb).1, I'.ok.exfs b hb, .inl hb, fun x c e => (I'.ok.exf b hb).2 x c e, fun p hp => absurd (show p ∈ ([] : List (Addr × Obj)) ++ [] from hp) (by simp)⟩
  have loop : codeAny (model X.prog X.w) X.A (.compLoop (.ListComp elt [⟨tg, iter, ifs, 0⟩] scope pos) 0 (.ref it) (.ref D) ce) (compPost (model X.prog X.w) X.A X.xe use Qf (.ref D) s3.heap.objs.size) s4 := by
    refine compLoop_any (fun n s' => ∃ i H', Inv (X.blk s3 H3 scope ce fp) [] (wipe σ (own.map (·.2))) H' s' ∧ tn i s'.heap ∧ (∀ b ∈ fp, H' b = none) ∧ W i n H') ?_ m0 ⟨0, H3, I4, st4, nfp, w0⟩
    rintro n s5 ⟨i, H5, I5, st5, n5, w5⟩
    rcases turn i n H5 w5 with ⟨stop, qq⟩ | ⟨go, Nx, hNx, step⟩
    · have td := T.done (X.blk s3 H3 scope ce fp) rfl rfl rfl hc i [] s5 _ H5 (fun _ _ => False) I5 (stat I5 n5) st5 stop
      refine thnF td fun r s6 ⟨hr, I6⟩ => ?_
      subst hr
      -- back in the def's context
      have I7 : Inv X pins σ H5 s6 := I3.call' (ch := fp) I6.os I6.base I6.hok I6.bare fun b hb => ⟨(f3 b hb).1.2.2.2.1, (f3 b hb).1.2.1, (f3 b hb).1.2.2.2.2.1, (f3 b hb).1.2.2.2.2.2⟩
      have nC : H5 s3.heap.objs.size = none := by
        have z : H5 ce.locals = none := I6.free
        rw [cL] at z
        exact z
      obtain ⟨m, hn, _⟩ := I6.loc
      have hn : s6.heap.Ns ce.locals m := hn
      rw [cL] at hn
      exact hRR D s3.heap.objs.size s6 m H5 I7 qq hn (I3.fpOk (Nat.le_refl _) nC)
    · have ti := T.item (X.blk s3 H3 scope ce fp) rfl rfl rfl hc i [] s5 _ H5 (fun _ _ => False) I5 (stat I5 n5) st5 go
      refine thnF ti fun r s6 ⟨u, hr, h6⟩ => ?_
      subst hr
      refine thnF h6 fun _ s7 ⟨x, H7, I7, r7, y7, st7, n7⟩ => ?_
      have I7' := I7.pinned (stat I7 n7) (T.obj _ _ st7)
      refine thnF (pg _ s7 _ H7 x u _ I7' r7 (step x H7 y7)) fun _ s8 ⟨σ8, H8, I8, hw8, q8⟩ => ?_
      refine thnF (pt _ s8 σ8 H8 _ I8 q8) fun b s9 ⟨H9, I9, q9⟩ => ?_
      -- the turn's end
      have fin : ∀ {s' : Shared} {H' : Hp}, Inv (X.blk s3 H3 scope ce fp) ([] ++ pinsAt fp s7.heap) σ8 H' s' → Nx H' → ∃ m, m < n ∧ ∃ i H', Inv (X.blk s3 H3 scope ce fp) [] (wipe σ (own.map (·.2))) H' s' ∧ tn i s'.heap ∧ (∀ b ∈ fp, H' b = none) ∧ W i m H' := fun {s' H'} I' nx => by
        obtain ⟨m', hm, w'⟩ := hNx H' nx
        have pin' : ∀ b ∈ fp, ∀ o, s7.heap.get? b = some o → s'.heap.get? b = some o ∧ H' b = none := fun b hb o e =>
          let z := I'.pin (b, o) (List.mem_append_right _ (List.mem_append_right _ (mem_pinsAt hb e)))
          ⟨z.1, z.2.1⟩
        have hl : (wipe σ (own.map (·.2))).length = σ8.length := by rw [← hw8, wipe_length]
        refine ⟨m', hm, i + 1, H', (I'.unpinned (pins := [])).weak hl (fun j v e => ?_), T.keep _ _ _ st7 fun b hb o e => (pin' b hb o e).1, fun b hb => ?_, w'⟩
        · rw [← hw8] at e
          exact (wipe_some e).1
        · obtain ⟨o, e, _⟩ := T.obj _ _ st7 b hb
          exact (pin' b hb o e).2
      cases b with
      | false =>
        simp only [Bool.false_eq_true, if_false] at q9 ⊢
        exact fin I9 q9
      | true =>
        simp only [if_true] at q9 ⊢
        refine thnF (pe _ s9 σ8 H9 _ I9 q9) fun z s10 ⟨yv, H10, I10, r10, acc, hD10, hz10, nx⟩ => ?_
        exact app_ok (X := X.blk s3 H3 scope ce fp) I10 hD10 hz10 r10 fun s11 I11 => fin I11 nx
  exact codeAny_compStart_list loop (T.self X.A 0 _ _ _ st4 loop)
private theorem pe_lc {elt tg iter : Expr} {ifs : List Expr} {scope : Scope} {own : List (Str × Nat)} {pos : Pos} {wi : TI} {g : TG} {tt : TT} {te : TE} (hc : X.calm = true) (hN : X.N.Nodup) (hi : PI X tg iter wi) (ok : BlkOk X.N X.env.scope scope own)
    (hg : ∀ (s : Shared) (H : Hp) (C : Addr) (cl : List (Str × Addr)) (fp : List Addr), PG (X.blk s H scope (compEnvC scope cl C X.env) fp) tg g) (ht : ∀ (s : Shared) (H : Hp) (C : Addr) (cl : List (Str × Addr)) (fp : List Addr), PTs (X.blk s H scope (compEnvC scope cl C X.env) fp) ifs tt)
    (he : ∀ (s : Shared) (H : Hp) (C : Addr) (cl : List (Str × Addr)) (fp : List Addr), PE (X.blk s H scope (compEnvC scope cl C X.env) fp) elt te) (hs : ∀ x, foldedSetIterable iter X.env x = pure x := by intro _; rfl) :
    PE X (.ListComp elt [⟨tg, iter, ifs, 0⟩] scope pos) (tLc wi g tt te (own.map (·.2))) := by
  intro pins s σ H Q I h
  rw [eval_ListComp]
  refine lc_core hc hN I hi ok hg ht he hs h fun D C s' m H' I' q hn f => ⟨m, hn, fun h'' sb => ?_⟩
  obtain ⟨f0, f1, f2, f3, f4, f5⟩ := f
  exact ⟨.ref D, H', I'.turned (t' := s'.toks) (fun b o hb e => (sb.2 b hb).trans e) f0 f1 f3 f4 f5, rfl, q⟩
private theorem ps_setLc {i : Nat} {y : Str} {py : Pos} {elt tg iter : Expr} {ifs : List Expr} {scope : Scope} {own : List (Str × Nat)} {pos spos : Pos} {wi : TI} {g : TG} {tt : TT} {te : TE} (hc : X.calm = true) (hN : X.N.Nodup) (hy : X.N[i]? = some y) (hyl : X.env.scope.names.lookup y = some .local)
    (hsw : swapsWith (.ListComp elt [⟨tg, iter, ifs, 0⟩] scope pos) (some (.Name y py)) spos.line X.env = pure true) (hi : PI X tg iter wi) (ok : BlkOk X.N X.env.scope scope own)
    (hg : ∀ (s : Shared) (H : Hp) (C : Addr) (cl : List (Str × Addr)) (fp : List Addr), PG (X.blk s H scope (compEnvC scope cl C X.env) fp) tg g) (ht : ∀ (s : Shared) (H : Hp) (C : Addr) (cl : List (Str × Addr)) (fp : List Addr), PTs (X.blk s H scope (compEnvC scope cl C X.env) fp) ifs tt)
    (he : ∀ (s : Shared) (H : Hp) (C : Addr) (cl : List (Str × Addr)) (fp : List Addr), PE (X.blk s H scope (compEnvC scope cl C X.env) fp) elt te) (hs : ∀ x, foldedSetIterable iter X.env x = pure x := by intro _; rfl) :
    PS X (.Assign [.Name y py] (.ListComp elt [⟨tg, iter, ifs, 0⟩] scope pos) spos) (tAsg (tLc wi g tt te (own.map (·.2))) (gName i)) := by
  intro pins s σ H D I h
  rw [exec_Assign_Name_used _ _ _ _ hsw]
  refine wpAny_bind (wpAny_standAt (wpAny_bind ?_))
  show wpAny _ X.A (do let _ ← comprehension (.ListComp elt [⟨tg, iter, ifs, 0⟩] scope pos) scope X.env (firstIterPos [⟨tg, iter, ifs, 0⟩] pos) (newList []) false (eval iter X.env) (some (assign (.Name y py) X.env))) _ _ s
  have h : tLc wi g tt te (own.map (·.2)) σ H (fun x H1 => gName i x σ H1 D.nx) := h
  refine wpAny_bind (thn (lc_core (Qf := fun _ s' => SP X pins D .next s') hc hN I hi ok hg ht he hs h fun L C s' m H' I' q hn f => ?_) fun _ s' hq => wpAny_pure (wpAny_pure hq))
  show wpAny _ _ (assign (.Name y py) X.env (.ref L)) _ _ _
  refine wpAny_assign_Name (store_ok2 (v := V.ref L) I' hN hy (.inl hyl) rfl (fun s2 I2 ⟨a, sb, ha⟩ => ?_) (.inr hyl))
  obtain ⟨f0, f1, f2, f3, f4, f5⟩ := f
  have haC : C ≠ a := by
    rcases ha with z | z
    · rw [z]; exact f1
    · exact fun e => f4 y a z e.symm
  refine ⟨m, hn.sameBut sb haC, fun h3 sb3 => ?_⟩
  exact ⟨_, H', I2.turned (t' := s2.toks) (fun b o hb e => (sb3.2 b hb).trans e) f0 f1 f3 f4 f5, q⟩
private theorem sw_true {elt : Expr} {gs : List Comprehension} {scope : Scope} {pos py : Pos} {y : Str} {l : Nat} {env : Env} (hk : env.scope.kind = .function) (hy : env.scope.names.lookup y = some .local) (hl : (py.line == pos.line) = true)
    (ha : (scope.names.any fun (n, k) => n == y && (k == .local || k == .cell)) = false) : swapsWith (.ListComp elt gs scope pos) (some (.Name y py)) l env = pure true := by
  have ky : env.kindOf y = some .local := hy
  have hb : env.blockKind = .function := by unfold Env.blockKind; rw [hk]; rfl
  unfold swapsWith
  simp only [hb, ky, ha, Expr.pos, hl]
  rfl
end
private theorem lc_range {lo : Int} {n : Nat} {g : TG} {tt : TT} {te : TE} {vs : List Nat} {σ : St} {H1 : Hp} {D : Addr} {Qd : Hp → Prop} (Pv : Nat → Hp → Prop) (h0 : Pv 0 (upd H1 D (.lst [])))
    (hs : ∀ i H, i < n → Pv i H → g (.int (lo + i)) (wipe σ vs) H fun σ2 H2 => wipe σ2 vs = wipe σ vs ∧ tt σ2 H2 fun b H3 =>
      if b = true then te σ2 H3 fun y H4 => ∃ acc, H4 D = some (.lst acc) ∧ acc.length < sizeLine ∧ Pv (i + 1) (upd H4 D (.lst (acc ++ [y]))) else Pv (i + 1) H3) (hd : ∀ H, Pv n H → Qd H) :
    ∃ W : Nat → Nat → Hp → Prop, (∃ m, W 0 m (upd H1 D (.lst []))) ∧ ∀ i m H, W i m H →
      ((Itr lo n).stop i H ∧ Qd H) ∨ ((Itr lo n).go i H ∧ ∃ Nx : Hp → Prop, (∀ H', Nx H' → ∃ m', m' < m ∧ W (i + 1) m' H') ∧ ∀ x H', (Itr lo n).yld i H x H' → g x (wipe σ vs) H' fun σ2 H2 => wipe σ2 vs = wipe σ vs ∧ tt σ2 H2 fun b H3 =>
        if b = true then te σ2 H3 fun y H4 => ∃ acc, H4 D = some (.lst acc) ∧ acc.length < sizeLine ∧ Nx (upd H4 D (.lst (acc ++ [y]))) else Nx H3) := by
  refine ⟨fun i m H => m = n - i ∧ i ≤ n ∧ Pv i H, ⟨n, by simp, Nat.zero_le _, h0⟩, ?_⟩
  rintro i m H ⟨rfl, hi, p⟩
  by_cases hlt : i < n
  · refine .inr ⟨hlt, Pv (i + 1), fun H' p' => ⟨n - (i + 1), by omega, rfl, hlt, p'⟩, fun x H' y => ?_⟩
    obtain ⟨e, y⟩ := y
    subst e y
    exact hs i _ hlt p
  · have e : i = n := by omega
    subst e
    exact .inl ⟨Nat.le_refl _, hd H p⟩
private theorem lc_list {K : PySem.W.Frag} {a : Addr} {xs : List V} {g : TG} {tt : TT} {te : TE} {vs : List Nat} {σ : St} {H1 : Hp} {D : Addr} {Qd : Hp → Prop} (Pv : Nat → Hp → Prop) (h0 : Pv 0 (upd H1 D (.lst []))) (hl : ∀ i H, i ≤ xs.length → Pv i H → SqL K H a xs)
    (hs : ∀ i x H, xs[i]? = some x → Pv i H → g x (wipe σ vs) H fun σ2 H2 => wipe σ2 vs = wipe σ vs ∧ tt σ2 H2 fun b H3 =>
      if b = true then te σ2 H3 fun y H4 => ∃ acc, H4 D = some (.lst acc) ∧ acc.length < sizeLine ∧ Pv (i + 1) (upd H4 D (.lst (acc ++ [y]))) else Pv (i + 1) H3) (hd : ∀ H, Pv xs.length H → Qd H) :
    ∃ W : Nat → Nat → Hp → Prop, (∃ m, W 0 m (upd H1 D (.lst []))) ∧ ∀ i m H, W i m H →
      ((Itl K a).stop i H ∧ Qd H) ∨ ((Itl K a).go i H ∧ ∃ Nx : Hp → Prop, (∀ H', Nx H' → ∃ m', m' < m ∧ W (i + 1) m' H') ∧ ∀ x H', (Itl K a).yld i H x H' → g x (wipe σ vs) H' fun σ2 H2 => wipe σ2 vs = wipe σ vs ∧ tt σ2 H2 fun b H3 =>
        if b = true then te σ2 H3 fun y H4 => ∃ acc, H4 D = some (.lst acc) ∧ acc.length < sizeLine ∧ Nx (upd H4 D (.lst (acc ++ [y]))) else Nx H3) := by
  refine ⟨fun i m H => m = xs.length - i ∧ i ≤ xs.length ∧ Pv i H, ⟨xs.length, by simp, Nat.zero_le _, h0⟩, ?_⟩
  rintro i m H ⟨rfl, hi, p⟩
  have q := hl i H hi p
  by_cases hlt : i < xs.length
  · refine .inr ⟨⟨xs, xs[i], q, by simp [hlt]⟩, Pv (i + 1), fun H' p' => ⟨xs.length - (i + 1), by omega, rfl, hlt, p'⟩, fun x H' y => ?_⟩
    obtain ⟨e, y⟩ := y
    subst e
    exact hs i x _ (y xs q) p
  · have e : i = xs.length := by omega
    subst e
    exact .inl ⟨⟨xs, q, Nat.le_refl _⟩, hd H p⟩
private theorem lc_tup {K : PySem.W.Frag} {a : Addr} {xs : List V} {g : TG} {tt : TT} {te : TE} {vs : List Nat} {σ : St} {H1 : Hp} {D : Addr} {Qd : Hp → Prop} (Pv : Nat → Hp → Prop) (h0 : Pv 0 (upd H1 D (.lst []))) (hl : ∀ i H, i ≤ xs.length → Pv i H → SqT K H a xs)
    (hs : ∀ i x H, xs[i]? = some x → Pv i H → g x (wipe σ vs) H fun σ2 H2 => wipe σ2 vs = wipe σ vs ∧ tt σ2 H2 fun b H3 =>
      if b = true then te σ2 H3 fun y H4 => ∃ acc, H4 D = some (.lst acc) ∧ acc.length < sizeLine ∧ Pv (i + 1) (upd H4 D (.lst (acc ++ [y]))) else Pv (i + 1) H3) (hd : ∀ H, Pv xs.length H → Qd H) :
    ∃ W : Nat → Nat → Hp → Prop, (∃ m, W 0 m (upd H1 D (.lst []))) ∧ ∀ i m H, W i m H →
      ((Itt K a).stop i H ∧ Qd H) ∨ ((Itt K a).go i H ∧ ∃ Nx : Hp → Prop, (∀ H', Nx H' → ∃ m', m' < m ∧ W (i + 1) m' H') ∧ ∀ x H', (Itt K a).yld i H x H' → g x (wipe σ vs) H' fun σ2 H2 => wipe σ2 vs = wipe σ vs ∧ tt σ2 H2 fun b H3 =>
        if b = true then te σ2 H3 fun y H4 => ∃ acc, H4 D = some (.lst acc) ∧ acc.length < sizeLine ∧ Nx (upd H4 D (.lst (acc ++ [y]))) else Nx H3) := by
  refine ⟨fun i m H => m = xs.length - i ∧ i ≤ xs.length ∧ Pv i H, ⟨xs.length, by simp, Nat.zero_le _, h0⟩, ?_⟩
  rintro i m H ⟨rfl, hi, p⟩
  have q := hl i H hi p
  by_cases hlt : i < xs.length
  · refine .inr ⟨⟨xs, xs[i], q, by simp [hlt]⟩, Pv (i + 1), fun H' p' => ⟨xs.length - (i + 1), by omega, rfl, hlt, p'⟩, fun x H' y => ?_⟩
    obtain ⟨e, y⟩ := y
    subst e
    exact hs i x _ (y xs q) p
  · have e : i = xs.length := by omega
    subst e
    exact .inl ⟨⟨xs, q, Nat.le_refl _⟩, hd H p⟩
noncomputable def blkC (N : List Str) (sc scope : Scope) (own : List (Str × Nat)) : Bool :=
  (match scope.kind with | .function => true | _ => false) && (scope.names.all fun y => decide (scope.names.lookup y.1 = some y.2)) && (own.all fun p => decide (N[p.2]? = some p.1)) &&
    (scope.names.all fun y => match y.2 with
      | .free => (match sc.names.lookup y.1 with | some .cell => true | some .free => true | _ => false)
      | .local => decide (y.1 ∈ own.map (·.1)) || decide (y.1 ∉ N)
      | .cell => decide (y.1 ∈ own.map (·.1)) || decide (y.1 ∉ N)
      | _ => true)
private theorem blkOk_by {N : List Str} {sc scope : Scope} {own : List (Str × Nat)} (h : blkC N sc scope own = true) : BlkOk N sc scope own := by
  unfold blkC at h
  simp only [Bool.and_eq_true, List.all_eq_true, decide_eq_true_eq] at h
  obtain ⟨⟨⟨h1, h2⟩, h3⟩, h4⟩ := h
  refine ⟨?_, h2, h3, fun y hy e => ?_, fun y hy e => ?_⟩
  · split at h1
    · assumption
    · cases h1
  · have q := h4 y hy
    simp only [e] at q
    split at q <;> first | exact .inl (by assumption) | exact .inr (by assumption) | cases q
  · have q := h4 y hy
    rcases e with e | e <;> (simp only [e, Bool.or_eq_true, decide_eq_true_eq] at q; exact q)
end L2
namespace L2
open PySem PySem.Spec PyProof.Rows
section
variable {prog : Program} {w : World} {A : Around} {R : Result → Shared → Prop} {s : Shared} {elt t0 i0 t1 i1 : Expr} {ifs0 ifs1 : List Expr} {scope : Scope} {pos : Pos} {it acc : Value} {env : Env}
end
section
variable {X : Cx}
end
end L2
namespace L2
open PySem PySem.Spec PyProof.Rows
section
variable {κ : Type} [DecidableEq κ]
noncomputable def valV (kvs : List (κ × V)) (k : κ) : Option V := (kvs.find? fun kv => decide (kv.1 = k)).map (·.2)
noncomputable def putK (kvs : List (κ × V)) (k : κ) (v : V) : List (κ × V) :=
  if (kvs.any fun kv => decide (kv.1 = k)) = true then kvs.map (fun kv => if kv.1 = k then (kv.1, v) else kv) else kvs ++ [(k, v)]
private theorem valV_pos {p : κ × V} {r : List (κ × V)} {k : κ} (e : p.1 = k) : valV (p :: r) k = some p.2 := by simp [valV, List.find?_cons, e]
private theorem valV_neg {p : κ × V} {r : List (κ × V)} {k : κ} (e : ¬ p.1 = k) : valV (p :: r) k = valV r k := by simp [valV, List.find?_cons, e]
private theorem valV_any (k : κ) : ∀ kvs : List (κ × V), (kvs.any fun kv => decide (kv.1 = k)) = (valV kvs k).isSome
  | [] => rfl
  | p :: r => by
    rw [List.any_cons]
    by_cases e : p.1 = k
    · simp only [valV_pos e, decide_eq_true e, Bool.true_or, Option.isSome_some]
    · rw [valV_neg e, decide_eq_false e, Bool.false_or]; exact valV_any k r
private theorem valV_map (k j : κ) (y : V) : ∀ kvs : List (κ × V), valV (kvs.map fun kv => if kv.1 = k then (kv.1, y) else kv) j = (valV kvs j).map fun x => if j = k then y else x
  | [] => rfl
  | p :: r => by
    have ih := valV_map k j y r
    rw [List.map_cons]
    by_cases h : p.1 = k
    · rw [if_pos h]
      by_cases e : p.1 = j
      · rw [valV_pos (p := (p.1, y)) e, valV_pos e, Option.map_some, if_pos (e.symm.trans h)]
      · rw [valV_neg (p := (p.1, y)) e, valV_neg e, ih]
    · rw [if_neg h]
      by_cases e : p.1 = j
      · rw [valV_pos (p := p) e, valV_pos e, Option.map_some, if_neg (fun z => h (e.trans z))]
      · rw [valV_neg (p := p) e, valV_neg e, ih]
private theorem valV_snoc (k j : κ) (y : V) : ∀ kvs : List (κ × V), valV kvs k = none → valV (kvs ++ [(k, y)]) j = if j = k then some y else valV kvs j
  | [], _ => by
    by_cases e : k = j
    · rw [if_pos e.symm]; exact valV_pos (p := (k, y)) e
    · rw [if_neg (fun z => e z.symm)]; exact valV_neg (p := (k, y)) e
  | p :: r, hn => by
    rw [List.cons_append]
    have hk : ¬ p.1 = k := fun z => by rw [valV_pos z] at hn; cases hn
    rw [valV_neg hk] at hn
    have ih := valV_snoc k j y r hn
    by_cases e : p.1 = j
    · rw [valV_pos e, valV_pos e, if_neg (fun z => hk (e.trans z))]
    · rw [valV_neg e, valV_neg e, ih]
private theorem valV_put (kvs : List (κ × V)) (k j : κ) (y : V) : valV (putK kvs k y) j = if j = k then some y else valV kvs j := by
  unfold putK
  by_cases a : (kvs.any fun kv => decide (kv.1 = k)) = true
  · rw [if_pos a, valV_map]
    rw [valV_any] at a
    by_cases e : j = k
    · obtain ⟨x, hx⟩ := Option.isSome_iff_exists.mp a
      rw [if_pos e, e, hx, Option.map_some, if_pos rfl]
    · rw [if_neg e]
      cases valV kvs j with
      | none => rfl
      | some x => rw [Option.map_some, if_neg e]
  · rw [if_neg a]
    refine valV_snoc k j y kvs ?_
    rw [valV_any] at a
    cases q : valV kvs k with
    | none => rfl
    | some x => rw [q] at a; exact (a rfl).elim
private theorem length_putK (kvs : List (κ × V)) (k : κ) (v : V) : (putK kvs k v).length ≤ kvs.length + 1 := by
  unfold putK
  split
  · rw [List.length_map]; omega
  · rw [List.length_append, List.length_cons, List.length_nil]; omega
private theorem RelO.isSome_eq {o : Option V} {u : Option Value} (r : RelO o u) : o.isSome = u.isSome := by
  cases o with
  | none => cases u with
    | none => rfl
    | some _ => exact (show False from r).elim
  | some _ => cases u with
    | none => exact (show False from r).elim
    | some _ => rfl
private theorem KV.val {kvs : List (κ × V)} {vs : List (κ × Value)} (r : KV kvs vs) (k : κ) : RelO (valV kvs k) (valueAt vs k) := by
  unfold KV at r
  induction r with
  | nil => exact True.intro
  | @cons p q ps qs h t ih =>
    obtain ⟨h1, h2⟩ := h
    by_cases e : p.1 = k
    · have e' : q.1 = k := h1.symm.trans e
      have b : valueAt (q :: qs) k = some q.2 := by simp [valueAt, List.find?_cons, e']
      rw [valV_pos e, b]; exact h2
    · have e' : ¬ q.1 = k := fun z => e (h1.trans z)
      have b : valueAt (q :: qs) k = valueAt qs k := by simp [valueAt, List.find?_cons, e']
      rw [valV_neg e, b]; exact ih
private theorem KV.any {kvs : List (κ × V)} {vs : List (κ × Value)} (r : KV kvs vs) (k : κ) : (kvs.any fun kv => decide (kv.1 = k)) = vs.any fun kv => decide (kv.1 = k) := by
  unfold KV at r
  induction r with
  | nil => rfl
  | cons h t ih => rw [List.any_cons, List.any_cons, ih, h.1]
private theorem KV.repl {kvs : List (κ × V)} {vs : List (κ × Value)} (r : KV kvs vs) (k : κ) {y : V} {u : Value} (ry : RelV y u) :
    KV (kvs.map fun kv => if kv.1 = k then (kv.1, y) else kv) (vs.map fun kv => if kv.1 = k then (kv.1, u) else kv) := by
  unfold KV at r ⊢
  induction r with
  | nil => exact .nil
  | @cons p q ps qs h t ih =>
    rw [List.map_cons, List.map_cons]
    refine .cons ?_ ih
    obtain ⟨h1, h2⟩ := h
    by_cases e : p.1 = k
    · rw [if_pos e, if_pos (h1.symm.trans e)]; exact ⟨h1, ry⟩
    · rw [if_neg e, if_neg (fun z => e (h1.trans z))]; exact ⟨h1, h2⟩
private theorem KV.put {kvs : List (κ × V)} {vs : List (κ × Value)} (r : KV kvs vs) (k : κ) {y : V} {u : Value} (ry : RelV y u) : KV (putK kvs k y) (stored vs k u) := by
  unfold putK stored
  rw [r.any k]
  by_cases e : (vs.any fun kv => decide (kv.1 = k)) = true
  · rw [if_pos e, if_pos e]; exact r.repl k ry
  · rw [if_neg e, if_neg e]; exact Paired.snoc r ⟨rfl, ry⟩
private theorem KV.length {kvs : List (κ × V)} {vs : List (κ × Value)} (r : KV kvs vs) : kvs.length = vs.length := Paired.length r
end
private theorem kV_is {P : Program} {w : World} {k : Key} {u : Value} (r : RelV (kV k) u) : (mixKind P w).is k u = true := by
  cases k with
  | inl i => obtain ⟨t, e⟩ := (show ∃ t, u = Value.int i t from r); subst e; exact mixKind_int P w i t
  | inr x => obtain ⟨t, e⟩ := (show ∃ t, u = Value.str x t from r); subst e; exact mixKind_str P w x t
private theorem items_are {P : Program} {w : World} : ∀ {ks : List Key} {us : List Value}, Vals (ks.map kV) us → ItemsAre (mixKind P w) ks us
  | [], _, r => by rw [List.map_nil] at r; cases r; exact .nil
  | k :: ks, _, r => by
    rw [List.map_cons] at r
    cases r with
    | cons h t => exact .cons (kV_is h) (items_are t)
noncomputable abbrev KT (H : Hp) : List (List Key × V) → List (List Key × Addr × Value) → Prop := Paired fun p q => p.1 = q.1 ∧ H q.2.1 = some (.tup (p.1.map kV)) ∧ RelV p.2 q.2.2
private theorem KT.val {H : Hp} {kvs : List (List Key × V)} {xs : List (List Key × Addr × Value)} (r : KT H kvs xs) (k : List Key) : RelO (valV kvs k) ((atKey xs k).map (·.2)) := by
  induction r with
  | nil => exact True.intro
  | @cons p q ps qs h t ih =>
    obtain ⟨h1, _, h2⟩ := h
    by_cases e : p.1 = k
    · have e' : q.1 = k := h1.symm.trans e
      have b : atKey (q :: qs) k = some q.2 := by simp [atKey, List.find?_cons, e']
      rw [valV_pos e, b]; exact h2
    · have e' : ¬ q.1 = k := fun z => e (h1.trans z)
      have b : atKey (q :: qs) k = atKey qs k := by simp [atKey, List.find?_cons, e']
      rw [valV_neg e, b]; exact ih
private theorem KT.repl {H : Hp} {kvs : List (List Key × V)} {xs : List (List Key × Addr × Value)} (r : KT H kvs xs) (k : List Key) {y : V} {u : Value} (ry : RelV y u) :
    KT H (kvs.map fun kv => if kv.1 = k then (kv.1, y) else kv) (xs.map (putAt k u)) := by
  induction r with
  | nil => exact .nil
  | @cons p q ps qs h t ih =>
    rw [List.map_cons, List.map_cons]
    refine .cons ?_ ih
    obtain ⟨h1, h2, h3⟩ := h
    unfold putAt
    by_cases e : p.1 = k
    · rw [if_pos e, if_pos (h1.symm.trans e)]; exact ⟨h1, h2, ry⟩
    · rw [if_neg e, if_neg (fun z => e (h1.trans z))]; exact ⟨h1, h2, h3⟩
private theorem KT.put {H : Hp} {kvs : List (List Key × V)} {xs : List (List Key × Addr × Value)} (r : KT H kvs xs) (k : List Key) {b : Addr} {y : V} {u : Value} (hb : H b = some (.tup (k.map kV))) (ry : RelV y u) :
    KT H (putK kvs k y) (storedH xs k b u) := by
  have e : (kvs.any fun kv => decide (kv.1 = k)) = (atKey xs k).isSome := by
    rw [valV_any, (r.val k).isSome_eq, Option.isSome_map]
  unfold putK storedH
  rw [e]
  by_cases q : (atKey xs k).isSome = true
  · rw [if_pos q, if_pos q]; exact r.repl k ry
  · rw [if_neg q, if_neg q]; exact Paired.snoc r ⟨rfl, hb, ry⟩
private theorem KT.keeps {H H' : Hp} {kvs : List (List Key × V)} {xs : List (List Key × Addr × Value)} (r : KT H kvs xs) (ht : ∀ b ys, H b = some (.tup ys) → H' b = some (.tup ys)) : KT H' kvs xs :=
  Paired.mapP r fun _ _ z => ⟨z.1, ht _ _ z.2.1, z.2.2⟩
section
variable {P : Program} {w : World} {H : Hp} {h : Heap} {a : Addr}
private theorem rd_of {u : HO} (ok : HOk P w H h) (e : Rd H a u) : ObjOk P w H h a u := e.ok ok
private theorem dk_rd {kvs : List (Key × V)} (ok : HOk P w H h) (e : Rd H a (.dK kvs)) : kvs.length ≤ sizeLine ∧ (a == sysModules) = false ∧ ∃ vs, KV kvs vs ∧ h.DictOf (mixKind P w) a vs :=
  show ObjOk P w H h a (.dK kvs) from rd_of ok e
private theorem dk_of {kvs : List (Key × V)} (ok : HOk P w H h) (e : H a = some (.dK kvs)) : kvs.length ≤ sizeLine ∧ (a == sysModules) = false ∧ ∃ vs, KV kvs vs ∧ h.DictOf (mixKind P w) a vs := dk_rd ok (.inl e)
private theorem key_of {ks : List Key} (ok : HOk P w H h) (e : H a = some (.tup (ks.map kV))) : (tupleKind (mixKind P w)).is h ks a := by
  obtain ⟨_, its, r, o, h1, h2, n, h3⟩ := (show ObjOk P w H h a (.tup (ks.map kV)) from ok a _ e)
  exact ⟨o, its.toArray, n, h1, h2, h3, by simpa using items_are r⟩
private theorem dt_rd {kvs : List (List Key × V)} (ok : HOk P w H h) (e : Rd H a (.dT kvs)) : kvs.length ≤ sizeLine ∧ (a == sysModules) = false ∧
    ∃ xs, KT H kvs xs ∧ h.DictOfH (tupleKind (mixKind P w)) a xs := by
  obtain ⟨z, y, xs, r, o, es, ep, h1, h2, h3, h4, h5⟩ := (show ObjOk P w H h a (.dT kvs) from rd_of ok e)
  refine ⟨z, y, xs, r, o, es, ep, h1, h2, h3, h4, fun x hx => ?_, h5⟩
  have all : ∀ {l : List (List Key × V)} {m : List (List Key × Addr × Value)}, KT H l m → ∀ x ∈ m, (tupleKind (mixKind P w)).is h x.1 x.2.1 := by
    intro l m q
    induction q with
    | nil => intro x hx; exact nomatch hx
    | @cons p q ps qs hq t ih =>
      intro x hx
      rcases List.mem_cons.mp hx with e | hx
      · subst e
        exact key_of ok (by rw [← hq.1]; exact hq.2.1)
      · exact ih x hx
  exact all r x hx
private theorem dt_of {kvs : List (List Key × V)} (ok : HOk P w H h) (e : H a = some (.dT kvs)) : kvs.length ≤ sizeLine ∧ (a == sysModules) = false ∧
    ∃ xs, KT H kvs xs ∧ h.DictOfH (tupleKind (mixKind P w)) a xs := dt_rd ok (.inl e)
end
noncomputable def DGet (H : Hp) (a : Addr) (y : V) (r : Option V) : Prop :=
  (∃ kvs k, Rd H a (.dK kvs) ∧ y = kV k ∧ r = valV kvs k) ∨ ∃ kvs k b, Rd H a (.dT kvs) ∧ y = .ref b ∧ H b = some (.tup (k.map kV)) ∧ r = valV kvs k
noncomputable def DPut (H : Hp) (a : Addr) (y v : V) (H' : Hp) : Prop :=
  (∃ kvs k, H a = some (.dK kvs) ∧ y = kV k ∧ kvs.length < sizeLine ∧ H' = upd H a (.dK (putK kvs k v))) ∨
  ∃ kvs k b, H a = some (.dT kvs) ∧ y = .ref b ∧ H b = some (.tup (k.map kV)) ∧ kvs.length < sizeLine ∧ H' = upd H a (.dT (putK kvs k v))
private theorem DGet.k {H : Hp} {a : Addr} {kvs : List (Key × V)} {k : Key} (e : H a = some (.dK kvs)) : DGet H a (kV k) (valV kvs k) := .inl ⟨kvs, k, .inl e, rfl, rfl⟩
private theorem DPut.k {H : Hp} {a : Addr} {kvs : List (Key × V)} {k : Key} {v : V} (e : H a = some (.dK kvs)) (hl : kvs.length < sizeLine) : DPut H a (kV k) v (upd H a (.dK (putK kvs k v))) := .inl ⟨kvs, k, e, rfl, hl, rfl⟩
private theorem DPut.t {H : Hp} {a b : Addr} {kvs : List (List Key × V)} {k : List Key} {v : V} (e : H a = some (.dT kvs)) (eb : H b = some (.tup (k.map kV))) (hl : kvs.length < sizeLine) :
    DPut H a (.ref b) v (upd H a (.dT (putK kvs k v))) := .inr ⟨kvs, k, b, e, rfl, eb, hl, rfl⟩
section
variable {X : Cx} {pins : List (Addr × Obj)} {σ : St} {H : Hp} {s : Shared} {a : Addr} {y v : V} {u r : Value} {o : Option V} {A : Around} {E : Value → Shared → Prop}
private theorem Inv.big (I : Inv X pins σ H s) : sysModules < s.heap.objs.size := by
  have h : mainGlobals < s.heap.objs.size := (I.mod.glob.keeps I.bk).lt
  exact Nat.lt_trans (by decide) h
private theorem d_getItem {Q : Value → Shared → Prop} (hu : A.units + 1 < cLine) (I : Inv X pins σ H s) (g : DGet H a y (some v)) (ry : RelV y u) (h : ∀ w' s', Inv X pins σ H s' → RelV v w' → Q w' s') :
    wpAny (model X.prog X.w) A (getItem (.ref a) u) Q E s := by
  rcases g with ⟨kvs, k, e, ey, l⟩ | ⟨kvs, k, b, e, ey, eb, l⟩
  · subst ey
    obtain ⟨z, hd, vs, rel, dd⟩ := dk_rd I.hok e
    obtain ⟨w', hw, rw'⟩ := RelO.some_of (v := v) (o := valueAt vs k) (by rw [l]; exact rel.val k)
    exact wpAny_getItem_of (kV_is ry) dd.mapOf hw (h w' _ (I.tok _) rw')
  · subst ey
    cases (show u = Value.ref b from ry)
    obtain ⟨z, hd, xs, rel, dd⟩ := dt_rd I.hok e
    obtain ⟨w', hw, rw'⟩ := RelO.some_of (v := v) (o := (atKey xs k).map (·.2)) (by rw [l]; exact rel.val k)
    obtain ⟨p, hp, hp2⟩ := Option.map_eq_some_iff.mp hw
    refine wpAny_getItem_heap (tupleKind_room_in1 hu) (key_of I.hok eb) dd hp ?_
    rw [hp2]
    exact h w' _ (I.tok _) rw'
private theorem d_write {h' : Heap} {t' : Nat} {ob : HO} (I : Inv X pins σ H s) (mu : Mut (H a)) (hs : Heap.SameBut a s.heap h') (he : ∃ q, h'.get? a = some q) (new : ObjOk X.prog X.w (upd H a ob) h' a ob) :
    Inv X pins σ (upd H a ob) { s with heap := h', toks := t' } :=
  I.write (x := a) (e := a) mu (.inl rfl) (fun b q hb z => (hs.2 b hb).trans z) he new
private theorem dk_new {P : Program} {w : World} {H' : Hp} {h' : Heap} {kvs : List (Key × V)} {vs : List (Key × Value)} (z : kvs.length ≤ sizeLine) (hd : (a == sysModules) = false) (rel : KV kvs vs) (dd : h'.DictOf (mixKind P w) a vs) :
    ObjOk P w H' h' a (.dK kvs) := ⟨z, hd, vs, rel, dd⟩
private theorem d_setItem {H' : Hp} {Q : Unit → Shared → Prop} (hu : A.units + 1 < cLine) (I : Inv X pins σ H s) (g : DPut H a y v H') (ry : RelV y u) (rv : RelV v r) (h : ∀ s', Inv X pins σ H' s' → Q () s') :
    wpAny (model X.prog X.w) A (setItem (.ref a) u r) Q E s := by
  rcases g with ⟨kvs, k, e, ey, l, eH⟩ | ⟨kvs, k, b, e, ey, eb, l, eH⟩
  · subst ey eH
    obtain ⟨z, hd, vs, rel, dd⟩ := dk_of I.hok e
    have hz : vs.length ≤ sizeLine := by rw [← rel.length]; exact z
    have hl : (putK kvs k v).length ≤ sizeLine := by have := length_putK kvs k v; omega
    refine wpAny_setItem_pairs (hsz := hz) (kV_is ry) dd fun h' dd' hs => h _ ?_
    have he : ∃ q, h'.get? a = some q := let ⟨q, _, _, hq, _⟩ := dd'; ⟨q, hq⟩
    exact d_write I (by rw [e]; exact True.intro) hs he (dk_new hl hd (rel.put k rv) dd')
  · subst ey eH
    cases (show u = Value.ref b from ry)
    obtain ⟨z, hd, xs, rel, dd⟩ := dt_of I.hok e
    have hz : xs.length ≤ sizeLine := by rw [← Paired.length rel]; exact z
    have hl : (putK kvs k v).length ≤ sizeLine := by have := length_putK kvs k v; omega
    refine wpAny_setItem_heap (hsz := hz) (tupleKind_room_in1 hu) (key_of I.hok eb) dd fun h' dd' hs => h _ ?_
    obtain ⟨q, es, ep, hq, h2, h3, h4, _, h5⟩ := dd'
    refine d_write I (by rw [e]; exact True.intro) hs ⟨q, hq⟩ ⟨hl, hd, _, (rel.put k eb rv).keeps fun c ys ec => ?_, q, es, ep, hq, h2, h3, h4, h5⟩
    rw [upd_ne (ne_of ec e (fun z => nomatch z))]
    exact ec
end
noncomputable def NoSl (i : Expr) : Prop := ∀ ov iv, subscripted i false ov iv = operate [ov, iv] (getItem ov iv)
private theorem subD_of {prog : Program} {w : World} {A : Around} {E : Value → Shared → Prop} {s : Shared} {env : Env} {value slice : Expr} {pos : Pos} {T id : String} {Q : Value → Shared → Prop}
    (hl : typeLookup (.type T) "__getitem__" = pure (some (.builtin id))) (hs : NoSl slice)
    (h : wpAny (model prog w) A (eval value env) (fun o s₁ => wpAny (model prog w) A (eval slice env) (fun i s₂ => s₂.TypeIs o T ∧ wpAny (model prog w) A (getItem o i) Q E s₂) E s₁) E s) :
    wpAny (model prog w) A (eval (.Subscript value slice pos) env) Q E s := by
  refine Subscript_ (wpAny_mono h (fun o s₁ h₁ => wpAny_mono h₁ (fun i s₂ h₂ => ?_) fun _ _ x => x) fun _ _ x => x)
  obtain ⟨hT, h₂⟩ := h₂
  unfold subscriptTail
  refine wpAny_bind ?_
  rw [getitemInPython_of_ne hT.not_modules]
  refine wpAny_bind (wpAny_specialOf hT hl ?_)
  have fin : wpAny (model prog w) A (subscripted slice false o i) (fun r s₃ => wpAny (model prog w) A (letTemporaryGo value o r >>= fun _ => pure r) Q E s₃) E s₂ := by
    rw [hs o i]
    exact wpAny_operating (wpAny_mono h₂ (fun r s₃ h₃ => wpAny_bind (wpAny_letTemporaryGo (wpAny_pure h₃))) fun _ _ x => x)
  first
    | exact wpAny_pure (wpAny_bind fin)
    | exact wpAny_bind (wpAny_pure (wpAny_bind fin))
    | exact wpAny_bind fin
private theorem dict_typeIs {X : Cx} {pins : List (Addr × Obj)} {σ : St} {H : Hp} {s : Shared} {a : Addr} {y : V} {o : Option V} (I : Inv X pins σ H s) (g : DGet H a y o) : s.TypeIs (.ref a) "dict" := by
  rcases g with ⟨kvs, k, e, _, _⟩ | ⟨kvs, k, b, e, _, _, _⟩
  · obtain ⟨_, _, vs, _, dd⟩ := dk_rd I.hok e
    exact dd.typeIs
  · obtain ⟨_, _, xs, _, dd⟩ := dt_rd I.hok e
    exact dd.typeIs
noncomputable def tDGet (td ty : TE) : TE := fun σ H Q => td σ H fun x H1 => ty σ H1 fun y H2 => ∃ a v, x = .ref a ∧ DGet H2 a y (some v) ∧ Q v H2
noncomputable def sDPut (td ty tv : TE) : TS := fun D σ H => tv σ H fun v H1 => td σ H1 fun x H2 => ty σ H2 fun y H3 => ∃ a H4, x = .ref a ∧ DPut H3 a y v H4 ∧ D.nx σ H4
section
variable {X : Cx} {o i e value : Expr} {pos pos' tpos : Pos} {td ty tv : TE}
private theorem pe_dget (hu : X.A.units + 1 < cLine) (ho : PE X o td) (hi : PE X i ty) (hs : NoSl i) : PE X (.Subscript o i pos) (tDGet td ty) := by
  intro pins s σ H Q I h
  refine subD_of PySem.F.slot_dict_getitem.lookup hs (thn (ho pins s σ H _ I h) fun u s1 ⟨x, H1, I1, rx, q1⟩ => thn (hi pins s1 σ H1 _ I1 q1) fun iv s2 ⟨y, H2, I2, ry, a, v, ex, g, q2⟩ => ?_)
  subst ex
  obtain rfl : u = Value.ref a := rx
  exact ⟨dict_typeIs I2 g, d_getItem hu I2 g ry fun w' s3 I3 rw' => ⟨v, H2, I3, rw', q2⟩⟩
private theorem ps_dput (hu : X.A.units + 1 < cLine) (ho : PE X o td) (hi : PE X i ty) (hv : PE X value tv) (hs : swapsWith value (some (.Subscript o i pos')) pos.line X.env = pure false) :
    PS X (.Assign [.Subscript o i pos'] value pos) (sDPut td ty tv) := by
  intro pins s σ H D I h
  refine wpAny_Assign_Subscript (thn (hv pins s σ H _ I h) fun r s1 ⟨v, H1, I1, rv, q1⟩ => thn (ho pins s1 σ H1 _ I1 q1) fun u s2 ⟨x, H2, I2, rx, q2⟩ => thn (hi pins s2 σ H2 _ I2 q2) fun iv s3 ⟨y, H3, I3, ry, a, H4, ex, g, q3⟩ => ?_) hs
  subst ex
  obtain rfl : u = Value.ref a := rx
  exact d_setItem hu I3 g ry rv fun s4 I4 => ⟨σ, H4, I4, q3⟩
end
private theorem dk_empty {P : Program} {w : World} {H : Hp} (h : Heap) (hb : sysModules < h.objs.size) : ObjOk P w H (h.push { cls := .type "dict", data := .dict #[] }) h.objs.size (.dK []) :=
  ⟨Nat.zero_le _, beq_eq_false_iff_ne.mpr (Ne.symm (Nat.ne_of_lt hb)), [], .nil, Heap.DictOf.new h⟩
private theorem dt_empty {P : Program} {w : World} {H : Hp} (h : Heap) (hb : sysModules < h.objs.size) : ObjOk P w H (h.push { cls := .type "dict", data := .dict #[] }) h.objs.size (.dT []) :=
  ⟨Nat.zero_le _, beq_eq_false_iff_ne.mpr (Ne.symm (Nat.ne_of_lt hb)), [], .nil, _, #[], 0, Heap.get?_push_size _ rfl, ⟨rfl, rfl, rfl⟩, rfl, rfl, List.nodup_nil⟩
noncomputable def tDNewK : TE := fun _ H Q => ∀ p, H p = none → Q (.ref p) (upd H p (.dK []))
noncomputable def tDNewT : TE := fun _ H Q => ∀ p, H p = none → Q (.ref p) (upd H p (.dT []))
section
variable {X : Cx} {pos : Pos}
private theorem pe_dnewK : PE X (.Dict [] [] pos) tDNewK := fun pins s σ H Q I h =>
  wpAny_Dict_empty ⟨.ref s.heap.objs.size, _, I.laid (a := s.heap.objs.size) (o := .dK []) (t' := s.toks) (fun _ _ q => Heap.get?_push_of_some _ q) (Nat.le_refl _) (dk_empty s.heap I.big), rfl, h _ (I.hok.fresh (Nat.le_refl _))⟩
private theorem pe_dnewT : PE X (.Dict [] [] pos) tDNewT := fun pins s σ H Q I h =>
  wpAny_Dict_empty ⟨.ref s.heap.objs.size, _, I.laid (a := s.heap.objs.size) (o := .dT []) (t' := s.toks) (fun _ _ q => Heap.get?_push_of_some _ q) (Nat.le_refl _) (dt_empty s.heap I.big), rfl, h _ (I.hok.fresh (Nat.le_refl _))⟩
end
end L2
namespace L2
open PySem PySem.Spec PyProof.Rows
private theorem boot_reversed5 : bootBuiltins "reversed" = some (.type "reversed") := by decide +kernel
section
variable {X : Cx}
private theorem pi_one {tg : Expr} {pins : List (Addr × Obj)} {σ : St} {H : Hp} {s : Shared} {R : It → Hp → Prop} {J : It} {tn : Nat → Heap → Prop} {tk : Nat} (I : Inv X pins σ H s) (o : Obj)
    (T : Turn X.prog X.w X.K tg J [s.heap.objs.size] s.heap.objs.size tn) (st : tn 0 (s.heap.push o)) (q : R J H) : PIE X pins σ tg R (.ref s.heap.objs.size) { s with heap := s.heap.push o, toks := tk } := by
  refine ⟨s.heap.objs.size, [s.heap.objs.size], tn, J, H, rfl, I.kept fun b ob e => Heap.get?_push_of_some _ e, T, st, fun b hb => ?_, q⟩
  have e : b = s.heap.objs.size := by simpa using hb
  subst e
  exact I.fpOk (Nat.le_refl _) (I.hok.fresh (Nat.le_refl _))
end
noncomputable def Itc (lo c : Int) (n : Nat) : It := ⟨fun i _ => i < n, fun i H x H' => H' = H ∧ x = .int (lo + (i : Nat) * c), fun i _ => n ≤ i⟩
private theorem turn_rangeC {P : Program} {w : World} {K : PySem.W.Frag} {tg : Expr} (it : Addr) (lo c : Int) (n : Nat) : Turn P w K tg (Itc lo c n) [it] it (fun i h => IsRangeIter h it (lo + (i : Nat) * c) ((n : Int) - (i : Nat)) c) where
  mem := by simp
  obj := fun i h st b hb => by
    have e : b = it := by simpa using hb
    subst e
    exact ⟨_, st, fun v z => nomatch z⟩
  keep := fun i h h' st k => k it (by simp) _ st
  item := by
    intro X hP hw hK hc i pins s σ H E I hf st hg
    subst hP hw hK
    obtain ⟨f0, f1, f2, f3, f4, f5⟩ := hf it (by simp)
    have W := Walks.range (prog := X.prog) (w := X.w) (I.ok.hd hc) it lo c n
    refine W.item i s _ _ hg st fun v h' tk hv st' kk => ?_
    obtain ⟨t, rfl⟩ := hv
    have I1 : Inv X pins σ H { s with heap := h', toks := tk } := I.turned (fun b o hb e => kk b o (by simpa using hb) e) f0 f1 f3 f4 f5
    exact ⟨_, rfl, go_of (s := { s with heap := h', toks := tk }) (n := "range_iterator") st' rfl rfl (by decide) ⟨.int (lo + (i : Nat) * c), H, I1, ⟨t, rfl⟩, ⟨rfl, rfl⟩, st', fun b hb => (hf b hb).1⟩⟩
  done := by
    intro X hP hw hK hc i pins s σ H E I hf st hg
    subst hP hw hK
    obtain ⟨f0, f1, f2, f3, f4, f5⟩ := hf it (by simp)
    exact wpAny_pyNext_range_end (I.ok.hd hc) st (by have : n ≤ i := hg; omega) fun h' eb => ⟨rfl, I.turned (t' := s.toks) (fun b o hb e => eb b o hb e) f0 f1 f3 f4 f5⟩
  self := fun A i s Q E st h => wpAny_pyIter_rangeiter st h
noncomputable def RgC (i j c : Int) (n : Nat) : Prop := c ≠ 0 ∧ c.natAbs < 1073741824 ∧ Builtin.Range.small i j c = true ∧ Builtin.Range.rangeSize i j c = n
noncomputable def iRng3 (ta : TA) : TI := fun σ H R => ta σ H fun vs H1 => ∃ (i j c : Int) (n : Nat), vs = [.int i, .int j, .int c] ∧ RgC i j c n ∧ R (Itc i c n) H1
section
variable {X : Cx} {tg : Expr}
private theorem pi_range3 {a b c : Expr} {ta : TA} {p pos : Pos} (hg : Gl X "range") (hm : X.mg "range" = none) (ha : PA X [a, b, c] ta)
    (hs : starEach [a, b, c] X.env = (false, eval a X.env) :: starEach [b, c] X.env := by rfl) (hpl : (backTo pos (starEach [b, c] X.env)).any (·.1) = false := by rfl) :
    PI X tg (.Call (.Name "range" p) [a, b, c] [] pos) (iRng3 ta) := by
  intro pins s σ H R I h
  refine Call_ (ld_blt I hg hm boot_range (PyProof.Rows.callWith_type1 (thn (ha pos pins s σ H _ I h) fun us s1 ⟨vs, H1, I1, r1, q1⟩ => ?_) hs hpl))
  obtain ⟨i, j, k, n, e, ⟨c0, c1, c2, c3⟩, q⟩ := q1
  subst e
  cases r1 with
  | cons r rr =>
    cases rr with
    | cons r' rr =>
      cases rr with
      | cons r'' rr =>
        cases rr
        obtain ⟨t, rfl⟩ := r
        obtain ⟨t', rfl⟩ := r'
        obtain ⟨t'', rfl⟩ := r''
        refine call_range_3 c0 ?_ (.inl (PyProof.noPylong_small c1))
        refine wpAny_pyIter_range (IsRange.new ..) c2 ?_
        have I2 : Inv X pins σ H1 { s1 with heap := s1.heap.push { cls := .type "range", data := .fields #[.int i t, .int j t', .int k t''] } } := I1.kept (t' := s1.toks) fun b o e => Heap.get?_push_of_some _ e
        refine pi_one (tk := s1.toks) I2 _ (turn_rangeC _ i k n) ?_ q
        have e1 : i + ((0 : Nat) : Int) * k = i := by simp
        have e2 : (n : Int) - ((0 : Nat) : Int) = Builtin.Range.rangeSize i j k := by rw [c3]; simp
        show IsRangeIter _ _ (i + ((0 : Nat) : Int) * k) ((n : Int) - ((0 : Nat) : Int)) k
        rw [e1, e2]
        exact Heap.get?_push_size _ rfl
end
private theorem for_rangeC {lo c : Int} {n : Nat} {g : TG} {tb : TS} {D : Ends} {σ : St} {H : Hp} (Pv : Nat → St → Hp → Prop) (h0 : Pv 0 σ H)
    (hs : ∀ i σ H, i < n → Pv i σ H → g (.int (lo + (i : Nat) * c)) σ H fun σ2 H2 => tb { D with nx := Pv (i + 1), ct := Pv (i + 1), bk := D.nx } σ2 H2) (hd : ∀ σ H, Pv n σ H → D.nx σ H) :
    ∃ W : Nat → Nat → St → Hp → Prop, (∃ m, W 0 m σ H) ∧ ∀ i m σ H, W i m σ H →
      ((Itc lo c n).stop i H ∧ D.nx σ H) ∨ ((Itc lo c n).go i H ∧ ∃ N : St → Hp → Prop, (∀ σ' H', N σ' H' → ∃ m', m' < m ∧ W (i + 1) m' σ' H') ∧ ∀ x H', (Itc lo c n).yld i H x H' → g x σ H' fun σ2 H2 => tb { D with nx := N, ct := N, bk := D.nx } σ2 H2) := by
  refine ⟨fun i m σ H => m = n - i ∧ i ≤ n ∧ Pv i σ H, ⟨n, by simp, Nat.zero_le _, h0⟩, ?_⟩
  rintro i m σ H ⟨rfl, hi, p⟩
  by_cases hlt : i < n
  · refine .inr ⟨hlt, Pv (i + 1), fun σ' H' p' => ⟨n - (i + 1), by omega, rfl, hlt, p'⟩, fun x H' y => ?_⟩
    obtain ⟨e, y⟩ := y
    subst e y
    exact hs i σ _ hlt p
  · have e : i = n := by omega
    subst e
    exact .inl ⟨Nat.le_refl _, hd σ H p⟩
noncomputable def Itv (K : PySem.W.Frag) (a : Addr) (n : Nat) : It :=
  ⟨fun i H => i < n ∧ ∃ (xs : List V) (x : V), SqL K H a xs ∧ xs[n - 1 - i]? = some x, fun i H x H' => H' = H ∧ ∀ xs, SqL K H a xs → xs[n - 1 - i]? = some x, fun i _ => n ≤ i⟩
private theorem turn_rev {P : Program} {w : World} {K : PySem.W.Frag} {tg : Expr} (a it : Addr) (n : Nat) : Turn P w K tg (Itv K a n) [it] it (fun i h => i ≤ n ∧ h.IsRevIter it a ((n : Int) - 1 - (i : Nat))) where
  mem := by simp
  obj := fun i h st b hb => by
    have e : b = it := by simpa using hb
    subst e
    obtain ⟨_, o, e, c, d⟩ := st
    exact ⟨o, e, fun v z => by rw [d] at z; cases z⟩
  keep := fun i h h' st k => ⟨st.1, st.2.at fun o e => k it (by simp) o e⟩
  item := by
    intro X hP hw hK hc i pins s σ H E I hf st hg
    subst hP hw hK
    obtain ⟨hin, xs, x, hq, hx⟩ := hg
    obtain ⟨its, rv, p, hz⟩ := I.list hq
    obtain ⟨u, hu, ru⟩ := rv.get hx
    obtain ⟨f0, f1, f2, f3, f4, f5⟩ := hf it (by simp)
    obtain ⟨_, hit⟩ := st
    have e1 : (n : Int) - 1 - ((i : Nat) : Int) = ((n - 1 - i : Nat) : Int) := by omega
    rw [e1] at hit
    refine wpAny_pyNext_rev_item hit p.isList (x := u) (by simpa using hu) fun h' st' sb => ?_
    have e2 : ((n - 1 - i : Nat) : Int) - 1 = (n : Int) - 1 - ((i + 1 : Nat) : Int) := by omega
    rw [e2] at st'
    have I1 : Inv X pins σ H { s with heap := h' } := I.turned (t' := s.toks) (fun b o hb e => (sb.2 b hb).trans e) f0 f1 f3 f4 f5
    obtain ⟨o, e, c, d⟩ := id st'
    exact ⟨u, rfl, go_of (s := { s with heap := h' }) e c d (by decide) ⟨x, H, I1, ru, ⟨rfl, fun ys hy => by rw [I.list_inj hy hq]; exact hx⟩, ⟨hin, st'⟩, fun b hb => (hf b hb).1⟩⟩
  done := by
    intro X hP hw hK hc i pins s σ H E I hf st hg
    subst hP hw hK
    obtain ⟨f0, f1, f2, f3, f4, f5⟩ := hf it (by simp)
    obtain ⟨hin, hit⟩ := st
    have hge : n ≤ i := hg
    have e1 : (n : Int) - 1 - ((i : Nat) : Int) = -1 := by omega
    rw [e1] at hit
    exact wpAny_pyNext_rev_end (I.ok.hd hc) hit fun h' eb => ⟨rfl, I.turned (t' := s.toks) (fun b o hb e => eb b o hb e) f0 f1 f3 f4 f5⟩
  self := fun A i s Q E st h => wpAny_pyIter_revIter st.2 h
noncomputable def iRev (K : PySem.W.Frag) (ta : TA) : TI := fun σ H R => ta σ H fun vs H1 => ∃ (a : Addr) (xs : List V), vs = [.ref a] ∧ SqL K H1 a xs ∧ R (Itv K a xs.length) H1
section
variable {X : Cx} {tg : Expr}
private theorem pi_reversed {e : Expr} {ta : TA} {p pos : Pos} (hg : Gl X "reversed") (hm : X.mg "reversed" = none) (ha : PA X [e] ta) (hs : starEach [e] X.env = [(false, eval e X.env)] := by rfl) : PI X tg (.Call (.Name "reversed" p) [e] [] pos) (iRev X.K ta) := by
  intro pins s σ H R I h
  refine Call_ (ld_blt I hg hm boot_reversed5 (PyProof.Rows.callWith_type1 (thn (ha pos pins s σ H _ I h) fun us s1 ⟨vs, H1, I1, r1, q1⟩ => ?_) hs rfl))
  obtain ⟨a, xs, e, hq, q⟩ := q1
  subst e
  cases r1 with
  | cons r rr =>
    cases rr
    cases r
    obtain ⟨its, rv, p', hz⟩ := I1.list hq
    have hl := rv.length
    have e1 : ((its.toArray.size : Nat) : Int) - 1 = (xs.length : Int) - 1 - ((0 : Nat) : Int) := by simp only [List.size_toArray]; omega
    refine call_reversed_list p'.isList (wpAny_pyIter_revIter (l := a) (i := ((its.toArray.size : Nat) : Int) - 1) ⟨_, Heap.get?_push_size _ rfl, rfl, rfl⟩ ?_)
    refine pi_one (tk := s1.toks) I1 _ (turn_rev a _ xs.length) ⟨Nat.zero_le _, ?_⟩ q
    rw [← e1]
    exact ⟨_, Heap.get?_push_size _ rfl, rfl, rfl⟩
end
section
variable {prog : Program} {w : World} {A : Around} {E : Value → Shared → Prop} {s : Shared}
private theorem iter_keys {d : Addr} {o : Obj} {es : Array DictEntry} {ep : Nat} {Q : Value → Shared → Prop} (hd : (d == sysModules) = false) (ho : s.heap.get? d = some o) (hc : o.ExactDict) (hdat : o.data = .dict es ep)
    (hQ : Q (.ref s.heap.objs.size) { s with heap := s.heap.push { cls := .type "dict_keyiterator", data := .fields #[.ref d, .int 0 0, .int es.size 0, .int ep 0] } }) :
    wpAny (model prog w) A (pyIter (.ref d)) Q E s := by
  have hT : s.TypeIs (.ref d) "dict" := ⟨o, ho, hc.1⟩
  refine wpAny_pyIter_slot hT F.slot_dict_iter (wpAny_call_entry F.slot_dict_iter hT F.entry_dict_iter ?_ (F.args_dict_iter_1 _))
  unfold Builtin.«dict.__iter__»
  refine wpAny_bind ?_
  unfold Builtin.Dict.dictSlotNone
  refine wpAny_bind (wpAny_notOrdered_dict hT ?_)
  show wpAny _ _ (pure (Value.ref d)) _ _ s
  refine wpAny_pure ?_
  show wpAny _ _ (Builtin.Dict.showsAll d >>= _) _ _ s
  unfold Builtin.Dict.showsAll
  rw [if_neg (by rw [hd]; exact Bool.false_ne_true)]
  refine wpAny_bind (wpAny_pure ?_)
  refine wpAny_bind (wpAny_dictEntries ho hdat ?_)
  refine wpAny_bind (wpAny_dictEpoch ho hdat ?_)
  refine wpAny_bind (wpAny_newObj_type (wpAny_pure ⟨_, rfl, "dict_keyiterator", _, ⟨_, Heap.get?_push_size _ rfl, rfl⟩, F.slot_dict_keyiterator_next.lookup, ?_⟩))
  simpa [rawInt] using hQ
private theorem next_key_item {it d : Addr} {i n ep : Nat} {od : Obj} {es : Array DictEntry} {en : DictEntry} {Q : Option Value → Shared → Prop} (hit : s.heap.IsKeyIter it d i n ep) (hod : s.heap.get? d = some od) (hdd : od.data = .dict es ep)
    (hsz : es.size = n) (hx : es[i]? = some en) (hQ : ∀ h', h'.IsKeyIter it d (i + 1) n ep → Heap.SameBut it s.heap h' → Q (some en.key) { s with heap := h' }) : wpAny (model prog w) A (pyNext (.ref it)) Q E s := by
  obtain ⟨o, ho, hc, hd⟩ := id hit
  unfold pyNext
  refine wpAny_bind (wpAny_attempt (wpAny_callSpecial?_slot (name := Str.ofString "__next__") hit.typeIs F.slot_dict_keyiterator_next
    (wpAny_call_entry F.slot_dict_keyiterator_next hit.typeIs F.entry_dict_keyiterator_next ?_ (F.args_dict_keyiterator_next_1 _))))
  refine wpAny_bind (wpAny_pure ?_)
  refine wpAny_bind ?_
  refine wpAny_bind ?_
  first | refine wpAny_bind (wpAny_typeNameOfWhole_keyiter hit.typeIs (wpAny_pure ?_)) | refine wpAny_bind (wpAny_typeNameOf_keyiter hit.typeIs (wpAny_pure ?_))
  refine wpAny_bind (wpAny_fieldsOf ho hd ?_)
  have hown : Builtin.Dict_items.ownsTuple "dict_keyiterator" = false := by decide
  simp only [hown, Bool.false_eq_true, if_false]
  show wpAny _ _ (if (Value.ref d == Value.none) = true then _ else _) _ _ s
  rw [if_neg (show ¬ ((Value.ref d == Value.none) = true) from Bool.false_ne_true)]
  refine wpAny_bind (wpAny_pure ?_)
  refine wpAny_bind (wpAny_dictEntries hod hdd ?_)
  rw [if_neg (by rw [hsz]; simp)]
  refine wpAny_bind (wpAny_pure ?_)
  refine wpAny_bind (wpAny_dictEpoch hod hdd ?_)
  rw [if_neg (by simp)]
  refine wpAny_pure ?_
  obtain ⟨hlt', hen⟩ := Array.getElem?_eq_some_iff.mp hx
  simp only [show ¬ ((i : Int) < 0) from by omega, if_false, Int.toNat_natCast, Array.getElem?_eq_getElem hlt']
  refine wpAny_bind ?_
  first | refine wpAny_bind (wpAny_typeNameOfWhole_keyiter hit.typeIs (wpAny_pure ?_)) | refine wpAny_bind (wpAny_typeNameOf_keyiter hit.typeIs (wpAny_pure ?_))
  refine wpAny_bind (wpAny_isOneOf_keyiter hit.typeIs ?_)
  show wpAny _ _ (setField (.ref it) 1 (rawInt ((i : Int) + 1)) >>= _) _ _ s
  refine wpAny_bind (wpAny_setField ho hd (by simp) ?_)
  have hit' : (s.heap.update it (Obj.mapFields (·.setIfInBounds 1 (rawInt ((i : Int) + 1))))).IsKeyIter it d (i + 1) n ep :=
    ⟨_, Heap.get?_update_self _ ho (Obj.isFreed_of_fields (Obj.data_mapFields hd _)), (Obj.cls_mapFields ..).trans hc, by rw [Obj.data_mapFields hd]; simp [rawInt]⟩
  refine wpAny_bind (wpAny_holding ?_)
  refine wpAny_bind (wpAny_isOneOf_keyiter (s := { s with heap := s.heap.update it (Obj.mapFields (·.setIfInBounds 1 (rawInt ((i : Int) + 1)))) }) hit'.typeIs ?_)
  show wpAny _ _ (pure es[i].key) _ _ _
  rw [hen]
  exact wpAny_pure (wpAny_pure ⟨_, rfl, wpAny_pure (hQ _ hit' (Heap.SameBut.update ..))⟩)
private theorem next_key_end {it d : Addr} {i n ep : Nat} {od : Obj} {es : Array DictEntry} {Q : Option Value → Shared → Prop} (hh : A.handled = none) (hit : s.heap.IsKeyIter it d i n ep) (hod : s.heap.get? d = some od) (hdd : od.data = .dict es ep)
    (hsz : es.size = n) (hge : n ≤ i) (hQ : ∀ h', Heap.ExtBut it s.heap h' → Q none { s with heap := h' }) : wpAny (model prog w) A (pyNext (.ref it)) Q E s := by
  obtain ⟨o, ho, hc, hd⟩ := id hit
  unfold pyNext
  refine wpAny_bind (wpAny_attempt (wpAny_callSpecial?_slot (name := Str.ofString "__next__") hit.typeIs F.slot_dict_keyiterator_next
    (wpAny_call_entry F.slot_dict_keyiterator_next hit.typeIs F.entry_dict_keyiterator_next ?_ (F.args_dict_keyiterator_next_1 _))))
  refine wpAny_bind (wpAny_pure ?_)
  refine wpAny_bind ?_
  refine wpAny_bind ?_
  first | refine wpAny_bind (wpAny_typeNameOfWhole_keyiter hit.typeIs (wpAny_pure ?_)) | refine wpAny_bind (wpAny_typeNameOf_keyiter hit.typeIs (wpAny_pure ?_))
  refine wpAny_bind (wpAny_fieldsOf ho hd ?_)
  have hown : Builtin.Dict_items.ownsTuple "dict_keyiterator" = false := by decide
  simp only [hown, Bool.false_eq_true, if_false]
  show wpAny _ _ (if (Value.ref d == Value.none) = true then _ else _) _ _ s
  rw [if_neg (show ¬ ((Value.ref d == Value.none) = true) from Bool.false_ne_true)]
  refine wpAny_bind (wpAny_pure ?_)
  refine wpAny_bind (wpAny_dictEntries hod hdd ?_)
  rw [if_neg (by rw [hsz]; simp)]
  refine wpAny_bind (wpAny_pure ?_)
  refine wpAny_bind (wpAny_dictEpoch hod hdd ?_)
  rw [if_neg (by simp)]
  refine wpAny_pure ?_
  have hge' : es.size ≤ i := by rw [hsz]; exact hge
  simp only [show ¬ ((i : Int) < 0) from by omega, if_false, Int.toNat_natCast, Array.getElem?_eq_none hge']
  refine wpAny_bind ?_
  first | refine wpAny_bind (wpAny_typeNameOfWhole_keyiter hit.typeIs (wpAny_pure ?_)) | refine wpAny_bind (wpAny_typeNameOf_keyiter hit.typeIs (wpAny_pure ?_))
  show wpAny _ _ (setField (.ref it) 0 .none >>= _) _ _ s
  refine wpAny_bind (wpAny_setField ho hd (by simp) ?_)
  show wpAny _ _ (newExc (.type "StopIteration") [] >>= _) _ _ _
  refine wpAny_bind ?_
  simp only [newExc, newTuple]
  refine wpAny_bind (wpAny_newObj_type ?_ (by size_fits))
  refine wpAny_bind (m := firstArgMember _ _) (wpAny_of_eq (a := Value.none) (by first | rfl | (simp only [firstArgMember]; rfl)) ?_)
  refine wpAny_newObj_type ?_ (by size_fits)
  simp only [raiseNew]
  refine wpAny_bind (wpAny_handled ?_)
  rw [show A.in1.handled = none from hh]
  refine wpAny_bind (wpAny_pure (wpAny_throw ?_))
  refine wpAny_bind (wpAny_isInstance (T := "StopIteration") (b := true) ⟨_, Heap.get?_push_size _ rfl, rfl⟩ isSubtype_stop ?_)
  exact wpAny_pure (hQ _ (((Heap.SameBut.update ..).extBut.push _).push _))
end
end L2
section 
end 
section 
namespace TL
open PySem PySem.Builtin PySem.Builtin.Str PySem.StrLaws
noncomputable def pre (S l : List Nat) : Bool := l.take S.length == S
noncomputable def spl (S : List Nat) : Nat → List Nat → List Nat → List (List Nat)
  | _, acc, [] => [acc]
  | 0, acc, c :: r => if pre S (c :: r) = true then acc :: spl S (S.length - 1) [] r else spl S 0 (acc ++ [c]) r
  | k + 1, acc, _ :: r => spl S k acc r
end TL
end 
namespace L2
open PySem PySem.Spec PyProof.Rows
section
variable {X : Cx}
end
end L2
namespace L2
open PySem PySem.Spec PyProof.Rows
end L2
namespace L2
open PySem PySem.Spec PyProof.Rows
noncomputable def defArgs (s : Stmt) : Arguments := match s with
  | .FunctionDef _ a _ _ _ _ _ _ _ _ => a
  | _ => { posonlyargs := [], args := [], vararg := none, kwonlyargs := [], kw_defaults := [], kwarg := none, defaults := [] }
noncomputable def defBody (s : Stmt) : List Stmt := match s with
  | .FunctionDef _ _ b _ _ _ _ _ _ _ => b
  | _ => []
noncomputable def defScope (s : Stmt) : Scope := match s with
  | .FunctionDef _ _ _ _ _ _ sc _ _ _ => sc
  | _ => { kind := .function, names := [], isGenerator := false, isCoroutine := false }
noncomputable abbrev CX0 : CXT := fun _ _ _ _ _ _ => False
noncomputable abbrev E0 : XK := fun _ _ _ => False
private theorem pass0 {X : Cx} : Passes CX0 X E0 := fun _ _ _ _ _ _ _ h => h.elim
structure Fun (K : PySem.W.Frag) (x qual : Str) (st : Stmt) (f : Addr) (fd : FuncData) : Prop where
  ex : ∃ (oc : Value) (od : Option Addr) (kV doc pm : Value) (an : Option Addr) (cdv ct : Value) (osl : Array (Option Value)),
    fd = PySem.W.fnOf x qual (defArgs st) (defBody st) (defScope st) .none kV doc pm an cdv ct ∧ K.lookup f = some ⟨oc, od, .func fd, osl⟩ ∧ PySem.W.codeIn K cdv qual = true
  kp : PySem.W.keepIn K (.ref f) = true
section
variable {P : Program} {w : World} {K : PySem.W.Frag} {mg : Str → Option Value} {base : Heap}
private theorem Fun.ok {x qual : Str} {st : Stmt} {f : Addr} {fd : FuncData} {N ps : List Str} {k : Nat} {sp : Sp} (F : Fun K x qual st f fd) (S : FnScope N ps (defScope st)) (len : ∀ vs H Q E, sp vs H Q E → vs.length = ps.length)
    (hbody : ∀ (cdv : Value) (A : Around) (outer : List Env) (s : Shared) (H : Hp) (vs : List V) (Q : VK) (E : XK), Room k (A.deeper (envOfC qual (defScope st) s.heap.objs.size f cdv)) → sp vs H Q E →
      ∃ t, PSs (cxOf CX0 P w K mg base N qual (defScope st) f cdv A outer s H E).nox (defBody st) t ∧ t { nx := fun _ H' => Q .non H', rt := Q } (start N vs) H) : FnOk P w K mg base CX0 (k + 1) f fd ps sp := by
  obtain ⟨oc, od, kV, doc, pm, an, cdv, ct, osl, rfl, lk, hcd⟩ := F.ex
  refine fn_of lk hcd S len fun A outer s H vs Q E hr hsp => ?_
  obtain ⟨t, h, q⟩ := hbody cdv A outer s H vs Q E hr hsp
  exact ⟨t, h.nox, q⟩
private theorem Fun.binds {x qual : Str} {st : Stmt} {f : Addr} {fd : FuncData} {ps : List Str} (F : Fun K x qual st f fd)
    (h : ∀ (kV doc pm : Value) (an : Option Addr) (cdv ct : Value) (us : List Value), us.length = ps.length → bindArgs (PySem.W.fnOf x qual (defArgs st) (defBody st) (defScope st) .none kV doc pm an cdv ct) ⟨us, []⟩ = pure (ps.zip us)) : Binds K fd ps [] := by
  obtain ⟨oc, od, kV, doc, pm, an, cdv, ct, osl, rfl, lk, hcd⟩ := F.ex
  exact .all (h kV doc pm an cdv ct)
private theorem fun_mk {x qual : Str} {st : Stmt} {f : Addr} {oc : Value} {od an : Option Addr} {osl : Array (Option Value)} {kV doc pm cdv ct : Value} (l : K.lookup f = some ⟨oc, od, .func (PySem.W.fnOf x qual (defArgs st) (defBody st) (defScope st) .none kV doc pm an cdv ct), osl⟩)
    (c : PySem.W.codeIn K cdv qual = true) (k : PySem.W.keepIn K (.ref f) = true) : Fun K x qual st f (PySem.W.fnOf x qual (defArgs st) (defBody st) (defScope st) .none kV doc pm an cdv ct) := ⟨⟨oc, od, kV, doc, pm, an, cdv, ct, osl, rfl, l, c⟩, k⟩
end
private theorem hu_of {A : Around} {k : Nat} (hr : Room k A) : A.units + 1 < cLine := Nat.lt_of_le_of_lt (Nat.add_le_add_left (by decide : 1 ≤ 64) _) hr.units
section
variable {X : Cx}
private theorem pv (i : Nat) {x : Str} {pos : Pos} (hN : X.N[i]? = some x := by rfl) (hv : Vis X.env.scope x := by first | exact Or.inl rfl | exact Or.inr (Or.inl rfl) | exact Or.inr (Or.inr rfl)) (hd : (x == ("__debug__" : Str)) = false := by decide)
    (hcd : (x == ("__classdict__" : Str)) = false := by decide) : PE X (.Name x pos) (tVar i) := pe_var hN hv hd hcd
end
private theorem ite2 {c A B : Prop} [Decidable c] (h1 : c → A) (h2 : ¬ c → B) : if c then A else B := by
  by_cases h : c
  · rw [if_pos h]
    exact h1 h
  · rw [if_neg h]
    exact h2 h
noncomputable def Same (H H' : Hp) : Prop := ∀ b o, H b = some o → H' b = some o
private theorem Same.refl (H : Hp) : Same H H := fun _ _ h => h
private theorem Same.trans {H H1 H2 : Hp} (a : Same H H1) (b : Same H1 H2) : Same H H2 := fun c o h => b c o (a c o h)
private theorem Same.free {H H' : Hp} (e : Same H H') {l : Addr} (h : H' l = Option.none) : H l = Option.none := by
  cases q : H l with
  | none => rfl
  | some o =>
    rw [e l o q] at h
    cases h
private theorem Same.seq {K : PySem.W.Frag} {H H' : Hp} {a : Addr} {xs : List V} (e : Same H H') (h : SqL K H a xs) : SqL K H' a xs := by
  rcases h with (h | ⟨o, h⟩) | h
  · exact .inl (.inl (e _ _ h))
  · exact .inl (.inr ⟨o, e _ _ h⟩)
  · exact .inr h
section
variable {κ : Type} [DecidableEq κ]
end
end L2

section
open QuireSeen
namespace Par
noncomputable def NoDig (r : List UInt8) : Prop := ∀ c s, r = c :: s → digit c = none
private theorem dig_eq {c : UInt8} {x : Nat} (h : digit c = some x) : x ≤ 9 ∧ c = UInt8.ofNat (48 + x) := by
  unfold digit at h
  split at h
  · rename_i hc
    have h1 : (48 : Nat) ≤ c.toNat := UInt8.le_iff_toNat_le.mp hc.1
    have h2 : c.toNat ≤ 57 := UInt8.le_iff_toNat_le.mp hc.2
    have e : c.toNat - 48 = x := Option.some.inj h
    refine ⟨by omega, ?_⟩
    rw [← e, show 48 + (c.toNat - 48) = c.toNat by omega]
    exact (UInt8.ofNat_toNat).symm
  · cases h
private theorem dec1 {x : Nat} (h : x < 10) : decimal x = [UInt8.ofNat (48 + x)] := by
  unfold decimal digits; rw [if_pos h]
private theorem dec2 {x y : Nat} (h0 : 0 < x) (h : x < 10) (hy : y < 10) : decimal (10 * x + y) = [UInt8.ofNat (48 + x), UInt8.ofNat (48 + y)] := by
  unfold decimal digits
  rw [if_neg (by omega), show (10 * x + y) / 10 = x by omega, show (10 * x + y) % 10 = y by omega]
  unfold digits; rw [if_pos h]; rfl
private theorem dec3 {x y z : Nat} (h0 : 0 < x) (h : x < 10) (hy : y < 10) (hz : z < 10) : decimal (10 * (10 * x + y) + z) = [UInt8.ofNat (48 + x), UInt8.ofNat (48 + y), UInt8.ofNat (48 + z)] := by
  unfold decimal digits
  rw [if_neg (by omega), show (10 * (10 * x + y) + z) / 10 = 10 * x + y by omega, show (10 * (10 * x + y) + z) % 10 = z by omega]
  unfold digits
  rw [if_neg (by omega), show (10 * x + y) / 10 = x by omega, show (10 * x + y) % 10 = y by omega]
  unfold digits; rw [if_pos h]; rfl
private theorem number_sound {p l q : Nat} {t r : List UInt8} (h : number p t = .ok (l, q, r)) : t = decimal l ++ r ∧ NoDig r := by
  cases t with
  | nil => cases h
  | cons c u =>
    unfold number at h
    simp only at h
    split at h
    · cases h
    · rename_i e
      obtain ⟨-, ec⟩ := dig_eq e
      cases u with
      | nil =>
        simp only at h
        cases h
        exact ⟨by rw [dec1 (by decide), ec]; rfl, fun c s e => nomatch e⟩
      | cons x v =>
        simp only at h
        split at h
        · cases h
        · rename_i hx
          cases h
          refine ⟨by rw [dec1 (by decide), ec]; rfl, fun c s e => ?_⟩
          injection e with e1 e2
          subst e1
          simpa using hx
    · rename_i x hx0 e
      obtain ⟨hx, ec⟩ := dig_eq e
      have h0 : 0 < x := by
        rcases Nat.eq_zero_or_pos x with z | z
        · subst z; exact absurd e (by simpa using hx0)
        · exact z
      cases u with
      | nil =>
        simp only [moreDigits] at h
        cases h
        exact ⟨by rw [dec1 (by omega), ec]; rfl, fun c s e => nomatch e⟩
      | cons c2 u2 =>
        simp only [moreDigits] at h
        split at h
        · rename_i n2
          cases h
          refine ⟨by rw [dec1 (by omega), ec]; rfl, fun c s e => ?_⟩
          injection e with e1 e2
          subst e1
          exact n2
        · rename_i y ey
          obtain ⟨hy, ey2⟩ := dig_eq ey
          cases u2 with
          | nil =>
            simp only [moreDigits] at h
            cases h
            exact ⟨by rw [dec2 h0 (by omega) (by omega), ec, ey2]; rfl, fun c s e => nomatch e⟩
          | cons c3 u3 =>
            simp only [moreDigits] at h
            split at h
            · rename_i n3
              cases h
              refine ⟨by rw [dec2 h0 (by omega) (by omega), ec, ey2]; rfl, fun c s e => ?_⟩
              injection e with e1 e2
              subst e1
              exact n3
            · rename_i z ez
              obtain ⟨hz, ez2⟩ := dig_eq ez
              cases u3 with
              | nil =>
                simp only [moreDigits] at h
                cases h
                exact ⟨by rw [dec3 h0 (by omega) (by omega) (by omega), ec, ey2, ez2]; rfl, fun c s e => nomatch e⟩
              | cons c4 u4 =>
                simp only [moreDigits] at h
                split at h
                · rename_i n4
                  cases h
                  refine ⟨by rw [dec3 h0 (by omega) (by omega) (by omega), ec, ey2, ez2]; rfl, fun c s e => ?_⟩
                  injection e with e1 e2
                  subst e1
                  exact n4
                · cases h
private theorem more_stop {f n p : Nat} {r : List UInt8} (h : NoDig r) : moreDigits f n p r = .ok (n, p, r) := by
  cases r with
  | nil => cases f <;> rfl
  | cons c s =>
    have e := h c s rfl
    unfold moreDigits
    rw [e]
private theorem number_complete {l p : Nat} {r : List UInt8} (hl : l ≤ 16) (h : NoDig r) : ∃ q, number p (decimal l ++ r) = .ok (l, q, r) := by
  have a1 : ∀ c : UInt8, ∀ x, digit c = some (x + 1) → number p (c :: r) = .ok (x + 1, p + 1, r) := fun c x e => by
    unfold number; simp only; rw [e]; exact more_stop h
  have a2 : ∀ c d : UInt8, ∀ x y, digit c = some (x + 1) → digit d = some y → number p (c :: d :: r) = .ok (10 * (x + 1) + y, p + 1 + 1, r) := fun c d x y e e2 => by
    unfold number; simp only; rw [e]; simp only; unfold moreDigits; rw [e2]; exact more_stop h
  rcases Nat.lt_or_ge l 10 with h1 | h1
  · rw [dec1 h1]
    rcases Nat.eq_zero_or_pos l with e | e
    · subst e
      refine ⟨p + 1, ?_⟩
      show number p (48 :: r) = _
      unfold number; simp only
      rw [show digit 48 = some 0 by decide]
      cases r with
      | nil => rfl
      | cons c s => simp only; rw [h c s rfl]; rfl
    · obtain ⟨x, rfl⟩ : ∃ x, l = x + 1 := ⟨l - 1, by omega⟩
      have hx : x < 9 := by omega
      have : ∀ x, x < 9 → digit (UInt8.ofNat (48 + (x + 1))) = some (x + 1) := by decide
      exact ⟨_, a1 _ _ (this x hx)⟩
  · obtain ⟨y, rfl⟩ : ∃ y, l = 10 * 1 + y := ⟨l - 10, by omega⟩
    rw [dec2 (by decide) (by decide) (by omega)]
    have : ∀ y, y < 7 → digit (UInt8.ofNat (48 + y)) = some y := by decide
    exact ⟨_, a2 _ _ 0 y (by decide) (this y (by omega))⟩
end Par
end
section
open QuireSeen
namespace Par
private theorem nodig_cons {c : UInt8} {r : List UInt8} (h : digit c = none) : NoDig (c :: r) := fun d s e => by
  injection e with e1 _
  rw [← e1]
  exact h
private theorem leaf_bound {n l : Nat} (h : isLeafOf n l = true) : 1 ≤ l ∧ l ≤ n := by
  unfold isLeafOf at h
  simpa using h
private theorem leafAt_sound {n p l q : Nat} {t r : List UInt8} (h : leafAt n p t = .ok (l, q, r)) : t = decimal l ++ r ∧ isLeafOf n l = true := by
  unfold leafAt at h
  split at h
  · cases h
  · rename_i l' q' r' e
    split at h
    · rename_i hl
      cases h
      exact ⟨(number_sound e).1, hl⟩
    · cases h
private theorem leafAt_complete {n p l : Nat} {r : List UInt8} (hn : n ≤ 16) (hl : isLeafOf n l = true) (h : NoDig r) : ∃ q, leafAt n p (decimal l ++ r) = .ok (l, q, r) := by
  obtain ⟨q, e⟩ := number_complete (p := p) (l := l) (by have := leaf_bound hl; omega) h
  refine ⟨q, ?_⟩
  unfold leafAt
  rw [e]
  simp only
  rw [if_pos hl]
private theorem sideAt_sound {n p q : Nat} {s : Side} {t r : List UInt8} (h : sideAt n p t = .ok (s, q, r)) : t = s.text ++ r ∧ isLeafOf n s.leaf = true := by
  unfold sideAt at h
  split at h
  · cases h
  · rename_i l q1 r1 e
    obtain ⟨e1, hl⟩ := leafAt_sound e
    split at h
    · cases h
    · rename_i b q2 r2 e2
      cases h
      cases r1 with
      | nil => cases e2
      | cons c v =>
        unfold letterAt at e2
        simp only at e2
        refine ⟨?_, hl⟩
        rw [e1]
        unfold Side.text
        split at e2
        · rename_i hc
          cases e2
          rw [hc]; simp
        · split at e2
          · rename_i hc
            cases e2
            rw [hc]; simp
          · cases e2
private theorem sideAt_complete {n p : Nat} {s : Side} {r : List UInt8} (hn : n ≤ 16) (hl : isLeafOf n s.leaf = true) : ∃ q, sideAt n p (s.text ++ r) = .ok (s, q, r) := by
  obtain ⟨l, b⟩ := s
  unfold Side.text
  rw [List.append_assoc]
  cases b with
  | false =>
    obtain ⟨q, e⟩ := leafAt_complete (n := n) (p := p) (l := l) (r := [97] ++ r) hn hl (nodig_cons (by decide))
    refine ⟨q + 1, ?_⟩
    unfold sideAt
    simp only [Bool.false_eq_true, if_false]
    rw [e]
    simp only [List.singleton_append, letterAt, if_true]
  | true =>
    obtain ⟨q, e⟩ := leafAt_complete (n := n) (p := p) (l := l) (r := [98] ++ r) hn hl (nodig_cons (by decide))
    refine ⟨q + 1, ?_⟩
    unfold sideAt
    simp only [if_true]
    rw [e]
    simp only [List.singleton_append, letterAt]
    rw [if_neg (by decide), if_pos trivial]
private theorem second_sound {α : Type} {rd : Nat → List UInt8 → Rd α} {fine : α → Bool} {p z : Nat} {x : α} {t u : List UInt8} (h : second rd fine p t = .ok (x, z, u)) :
    ∃ q r, t = 32 :: r ∧ rd q r = .ok (x, z, u) ∧ fine x = true := by
  unfold second at h
  split at h
  · cases h
  · rename_i q r e
    cases t with
    | nil => cases e
    | cons c v =>
      unfold charAt at e
      simp only at e
      split at e
      · rename_i hc
        cases e
        split at h
        · cases h
        · rename_i x' z' u' e2
          split at h
          · rename_i hf
            cases h
            exact ⟨_, _, by rw [hc], e2, hf⟩
          · cases h
      · cases e
private theorem second_complete {α : Type} {rd : Nat → List UInt8 → Rd α} {fine : α → Bool} {p : Nat} {x : α} {r u : List UInt8} (h : ∀ q, ∃ z, rd q r = .ok (x, z, u)) (hf : fine x = true) :
    ∃ z, second rd fine p (32 :: r) = .ok (x, z, u) := by
  obtain ⟨z, e⟩ := h (p + 1)
  refine ⟨z, ?_⟩
  unfold second charAt
  simp only [if_true]
  rw [e]
  simp only
  rw [if_pos hf]
noncomputable def rise {α : Type} (key : α → Nat) : Nat → List α → Bool
  | _, [] => true
  | last, x :: r => decide (last < key x) && rise key (key x) r
private theorem several_sound {α : Type} {rd : Nat → List UInt8 → Rd α} {key : α → Nat} {tx : α → List UInt8} {ok : α → Bool}
    (hrd : ∀ {p x q t r}, rd p t = .ok (x, q, r) → t = tx x ++ r ∧ ok x = true) :
    ∀ {f least last p t l q u}, several rd key f least last p t = .ok (l, q, u) →
      t = (l.flatMap fun x => 32 :: tx x) ++ u ∧ 1 ≤ l.length ∧ least ≤ l.length ∧ l.all ok = true ∧ rise key last l = true
  | 0, _, _, _, _, _, _, _, h => by cases h
  | f + 1, least, last, p, t, l, q, u, h => by
    unfold several at h
    split at h
    · cases h
    · rename_i x q1 u1 e
      obtain ⟨q0, r0, rfl, e1, hf⟩ := second_sound e
      obtain ⟨rfl, hok⟩ := hrd e1
      split at h
      · rename_i hc
        cases h
        refine ⟨by simp, by simp, by simp; omega, by simp [hok], ?_⟩
        unfold rise rise
        simpa using hf
      · split at h
        · cases h
        · rename_i l' q' u' e2
          cases h
          obtain ⟨e3, h1, h2, h3, h4⟩ := several_sound hrd e2
          refine ⟨by rw [e3]; simp, by simp, by simp; omega, by simp only [List.all_cons, hok, h3, Bool.and_self], ?_⟩
          unfold rise
          rw [h4, Bool.and_true]
          exact hf
private theorem several_complete {α : Type} {rd : Nat → List UInt8 → Rd α} {key : α → Nat} {tx : α → List UInt8} {ok : α → Bool}
    (hrd : ∀ {p x r}, ok x = true → NoDig r → ∃ q, rd p (tx x ++ r) = .ok (x, q, r)) {u : List UInt8} (hu : u.head? = some 10) :
    ∀ {f least last p} (l : List α), l.length ≤ f → 1 ≤ l.length → least ≤ l.length → l.all ok = true → rise key last l = true →
      ∃ q, several rd key f least last p ((l.flatMap fun x => 32 :: tx x) ++ u) = .ok (l, q, u)
  | _, _, _, _, [], _, h, _, _, _ => absurd h (by simp)
  | 0, _, _, _, _ :: _, h, _, _, _, _ => absurd h (by simp)
  | f + 1, least, last, p, [x], hf, _, h2, h3, h4 => by
    have nu : NoDig u := fun c s e => by
      subst e
      cases (Option.some.inj hu : c = 10)
      decide
    have hx : ok x = true := by simpa using h3
    have hk : decide (last < key x) = true := by
      unfold rise at h4
      simp only [Bool.and_eq_true] at h4
      exact h4.1
    obtain ⟨q, e⟩ := second_complete (rd := rd) (fine := fun x => decide (last < key x)) (p := p) (x := x) (r := tx x ++ u) (u := u) (fun q => hrd hx nu) hk
    refine ⟨q, ?_⟩
    unfold several
    rw [show (([x].flatMap fun x => 32 :: tx x) ++ u) = 32 :: (tx x ++ u) by simp, e]
    simp only
    rw [if_pos ⟨by simpa using h2, hu⟩]
  | f + 1, least, last, p, x :: y :: r, hf, _, h2, h3, h4 => by
    have hx : ok x = true := by
      simp only [List.all_cons, Bool.and_eq_true] at h3
      exact h3.1
    have h3' : (y :: r).all ok = true := by
      simp only [List.all_cons, Bool.and_eq_true] at h3 ⊢
      exact h3.2
    unfold rise at h4
    simp only [Bool.and_eq_true] at h4
    have nu : NoDig (((y :: r).flatMap fun x => 32 :: tx x) ++ u) := nodig_cons (by decide)
    obtain ⟨q, e⟩ := second_complete (rd := rd) (fine := fun x => decide (last < key x)) (p := p) (x := x) (r := tx x ++ (((y :: r).flatMap fun x => 32 :: tx x) ++ u)) (u := ((y :: r).flatMap fun x => 32 :: tx x) ++ u) (fun q => hrd hx nu) h4.1
    obtain ⟨q2, e2⟩ := several_complete hrd hu (f := f) (least := least - 1) (last := key x) (p := q) (y :: r) (by simp at hf ⊢; omega) (by simp) (by simp at h2 ⊢; omega) h3' h4.2
    refine ⟨q2, ?_⟩
    unfold several
    rw [show (((x :: y :: r).flatMap fun x => 32 :: tx x) ++ u) = 32 :: (tx x ++ (((y :: r).flatMap fun x => 32 :: tx x) ++ u)) by simp, e]
    simp only
    rw [if_neg (by rintro ⟨_, h⟩; simp at h), e2]
private theorem rise_rising : ∀ (l : List Nat) (last : Nat), (∀ x ∈ l, last < x) ∨ l = [] ∨ (∃ x r, l = x :: r ∧ last < x) → risingNats l = true → rise (fun x => x) last l = true
  | [], _, _, _ => rfl
  | [x], last, h, _ => by
    have : last < x := by
      rcases h with h | h | ⟨y, r, e, h⟩
      · exact h x (by simp)
      · cases h
      · cases e; exact h
    unfold rise rise
    simpa using this
  | x :: y :: r, last, h, hr => by
    have hx : last < x := by
      rcases h with h | h | ⟨y, r, e, h⟩
      · exact h x (by simp)
      · cases h
      · cases e; exact h
    unfold risingNats at hr
    simp only [Bool.and_eq_true, decide_eq_true_eq] at hr
    have := rise_rising (y :: r) x (Or.inr (Or.inr ⟨y, r, rfl, hr.1⟩)) hr.2
    unfold rise
    rw [this]
    simpa using hx
private theorem rising_rise : ∀ (l : List Nat) (last : Nat), rise (fun x => x) last l = true → risingNats l = true
  | [], _, _ => rfl
  | [x], _, _ => rfl
  | x :: y :: r, last, h => by
    unfold rise at h
    simp only [Bool.and_eq_true] at h
    have h2 := h.2
    have := rising_rise (y :: r) x h2
    unfold rise at h2
    simp only [Bool.and_eq_true] at h2
    unfold risingNats
    rw [this, Bool.and_true]
    exact h2.1
private theorem rise_map {α : Type} (key : α → Nat) : ∀ (l : List α) (last : Nat), rise key last l = rise (fun x => x) last (l.map key)
  | [], _ => rfl
  | x :: r, last => by
    unfold rise
    rw [rise_map key r]
    rfl
end Par
end
section
open QuireSeen
namespace Par
private theorem signBehind_sound {p q : Nat} {c : UInt8} {t u : List UInt8} (h : signBehind p t = .ok (c, q, u)) : t = 32 :: c :: u := by
  unfold signBehind at h
  cases t with
  | nil => cases h
  | cons a v =>
    unfold charAt at h
    simp only at h
    split at h
    · cases h
    · rename_i e
      split at e
      · rename_i ha
        cases e
        cases v with
        | nil => cases h
        | cons b w =>
          simp only at h
          cases h
          rw [ha]
      · cases e
private theorem signBehind_complete {p : Nat} {c : UInt8} {u : List UInt8} : signBehind p (32 :: c :: u) = .ok (c, p + 1, u) := rfl
private theorem ofSide_sound {n p q : Nat} {s : Side} {k : Core} {t u : List UInt8} (hs : isLeafOf n s.leaf = true) (h : ofSide n s p t = .ok (k, q, u)) : s.text ++ t = k.text ++ u ∧ k.ok n = true := by
  unfold ofSide at h
  split at h
  · cases h
  · rename_i c q1 u1 e
    have et := signBehind_sound e
    subst et
    split at h
    · rename_i hc
      subst hc
      split at h
      · cases h
      · rename_i x q2 u2 e2
        cases h
        obtain ⟨q3, r3, rfl, e3, hf⟩ := second_sound e2
        obtain ⟨rfl, hx⟩ := sideAt_sound e3
        refine ⟨by simp [Core.text, sign2], ?_⟩
        simp only [Core.ok, hs, hx, Bool.true_and]
        rw [bne_comm]
        exact hf
    · split at h
      · rename_i hc
        subst hc
        split at h
        · cases h
        · rename_i x q2 u2 e2
          cases h
          obtain ⟨q3, r3, rfl, e3, hf⟩ := second_sound e2
          obtain ⟨rfl, hx⟩ := sideAt_sound e3
          refine ⟨by simp [Core.text, sign2], ?_⟩
          simp only [Core.ok, hs, hx, Bool.true_and]
          rw [bne_comm]
          exact hf
      · split at h
        · rename_i hc
          subst hc
          cases h
          exact ⟨by simp [Core.text], hs⟩
        · cases h
private theorem ofLeaf_sound {n p q l : Nat} {k : Core} {t u : List UInt8} (hs : isLeafOf n l = true) (h : ofLeaf n l p t = .ok (k, q, u)) : decimal l ++ t = k.text ++ u ∧ k.ok n = true := by
  unfold ofLeaf at h
  split at h
  · cases h
  · rename_i c q1 u1 e
    have et := signBehind_sound e
    subst et
    split at h
    · rename_i hc
      subst hc
      split at h
      · cases h
      · rename_i x q2 u2 e2
        cases h
        obtain ⟨q3, r3, rfl, e3, hf⟩ := second_sound e2
        obtain ⟨rfl, _⟩ := number_sound e3
        split
        · rename_i hx
          subst hx
          refine ⟨by simp [Core.text, sign2, dec1], hs⟩
        · rename_i hx
          refine ⟨by simp [Core.text, sign2], ?_⟩
          have hf' : isLeafOf n x = true ∧ (x != l) = true := by
            simp only [Bool.or_eq_true, Bool.and_eq_true] at hf
            rcases hf with hf | hf
            · exact absurd (by simpa using hf) hx
            · exact hf
          simp only [Core.ok, hs, hf'.1, Bool.true_and]
          rw [bne_comm]
          exact hf'.2
    · split at h
      · rename_i hc
        subst hc
        split at h
        · cases h
        · rename_i x q2 u2 e2
          cases h
          obtain ⟨q3, r3, rfl, e3, hf⟩ := second_sound e2
          obtain ⟨rfl, hx⟩ := leafAt_sound e3
          refine ⟨by simp [Core.text, sign2], ?_⟩
          simp only [Core.ok, hs, hx, Bool.true_and]
          rw [bne_comm]
          exact hf
      · split at h
        · rename_i hc
          subst hc
          split at h
          · cases h
          · rename_i x q2 u2 e2
            cases h
            obtain ⟨q3, r3, rfl, e3, hf⟩ := second_sound e2
            obtain ⟨rfl, hx⟩ := leafAt_sound e3
            refine ⟨by simp [Core.text, sign2], ?_⟩
            simp only [Core.ok, hs, hx, Bool.true_and]
            rw [bne_comm]
            exact hf
        · cases h
private theorem coreAt_sound {n p q : Nat} {k : Core} {t u : List UInt8} (h : coreAt n p t = .ok (k, q, u)) : t = k.text ++ u ∧ k.ok n = true := by
  unfold coreAt at h
  cases t with
  | nil => cases h
  | cons c r =>
    simp only at h
    split at h
    · rename_i hc
      subst hc
      split at h
      · cases h
      · rename_i l q1 u1 e
        cases h
        obtain ⟨e1, h1, h2, h3, h4⟩ := several_sound (rd := leafAt n) (tx := decimal) (ok := isLeafOf n) (fun e => leafAt_sound e) e
        refine ⟨by simp only [Core.text, List.cons_append]; rw [e1], ?_⟩
        simp only [Core.ok, h3, Bool.true_and, Bool.and_eq_true, decide_eq_true_eq]
        exact ⟨h2, rising_rise _ _ h4⟩
    · split at h
      · rename_i hc
        subst hc
        split at h
        · cases h
        · rename_i l q1 u1 e
          cases h
          obtain ⟨e1, h1, h2, h3, h4⟩ := several_sound (rd := sideAt n) (tx := Side.text) (ok := fun s => isLeafOf n s.leaf) (fun e => sideAt_sound e) e
          refine ⟨by simp only [Core.text, List.cons_append]; rw [e1], ?_⟩
          rw [rise_map] at h4
          simp only [Core.ok, h3, Bool.true_and, Bool.and_eq_true, decide_eq_true_eq]
          exact ⟨h1, rising_rise _ _ h4⟩
      · split at h
        · cases h
        · rename_i l q1 u1 e
          obtain ⟨e1, hl⟩ := leafAt_sound e
          rw [e1]
          cases u1 with
          | nil => cases h
          | cons x v =>
            simp only at h
            split at h
            · rename_i hx
              subst hx
              have := ofSide_sound (s := ⟨l, false⟩) hl h
              simpa [Side.text] using this
            · split at h
              · rename_i hx
                subst hx
                have := ofSide_sound (s := ⟨l, true⟩) hl h
                simpa [Side.text] using this
              · exact ofLeaf_sound hl h
private theorem dec_head {l : Nat} (h1 : 1 ≤ l) (h2 : l ≤ 16) : ∃ c s, decimal l = c :: s ∧ c ≠ 111 ∧ c ≠ 104 ∧ c ≠ 33 := by
  have : ∀ l, l < 17 → 1 ≤ l → (∃ c s, decimal l = c :: s ∧ c ≠ 111 ∧ c ≠ 104 ∧ c ≠ 33) := by
    intro l h
    match l, h with
    | 0, _ => intro h; omega
    | 1, _ | 2, _ | 3, _ | 4, _ | 5, _ | 6, _ | 7, _ | 8, _ | 9, _ => intro _; exact ⟨_, _, dec1 (by decide), by decide, by decide, by decide⟩
    | 10, _ | 11, _ | 12, _ | 13, _ | 14, _ | 15, _ | 16, _ => intro _; exact ⟨_, _, rfl, by decide, by decide, by decide⟩
    | n + 17, h => omega
  exact this l (by omega) h1
private theorem coreAt_leaf {n p l : Nat} {r : List UInt8} (hn : n ≤ 16) (hl : isLeafOf n l = true) (hr : NoDig r) : ∃ q, coreAt n p (decimal l ++ r) = match r with
        | x :: v => if x = 97 then ofSide n ⟨l, false⟩ (q + 1) v else if x = 98 then ofSide n ⟨l, true⟩ (q + 1) v else ofLeaf n l q r
        | [] => .error q := by
  obtain ⟨q, e⟩ := leafAt_complete (p := p) hn hl hr
  have b := leaf_bound hl
  obtain ⟨c, s, ec, n1, n2, _⟩ := dec_head b.1 (by omega)
  refine ⟨q, ?_⟩
  rw [ec] at e ⊢
  unfold coreAt
  simp only [List.cons_append] at e ⊢
  rw [if_neg n1, if_neg n2, e]
  cases r <;> rfl
private theorem coreAt_side {n p : Nat} {s : Side} {r : List UInt8} (hn : n ≤ 16) (hl : isLeafOf n s.leaf = true) : ∃ q, coreAt n p (s.text ++ r) = ofSide n s q r := by
  obtain ⟨l, b⟩ := s
  unfold Side.text
  rw [List.append_assoc]
  cases b with
  | false =>
    obtain ⟨q, e⟩ := coreAt_leaf (p := p) (r := [97] ++ r) hn hl (nodig_cons (by decide))
    refine ⟨q + 1, ?_⟩
    simp only [Bool.false_eq_true, if_false]
    rw [e]
    simp
  | true =>
    obtain ⟨q, e⟩ := coreAt_leaf (p := p) (r := [98] ++ r) hn hl (nodig_cons (by decide))
    refine ⟨q + 1, ?_⟩
    simp only [if_true]
    rw [e]
    simp
private theorem coreAt_num {n p l : Nat} {r : List UInt8} (hn : n ≤ 16) (hl : isLeafOf n l = true) : ∃ q, coreAt n p (decimal l ++ 32 :: r) = ofLeaf n l q (32 :: r) := by
  obtain ⟨q, e⟩ := coreAt_leaf (p := p) (r := 32 :: r) hn hl (nodig_cons (by decide))
  refine ⟨q, ?_⟩
  rw [e]
  simp
private theorem coreAt_complete {n p : Nat} {k : Core} {u : List UInt8} (hn : n ≤ 16) (hk : k.ok n = true) (hu : u.head? = some 10) : ∃ q, coreAt n p (k.text ++ u) = .ok (k, q, u) := by
  have nu : NoDig u := fun c s e => by
    subst e
    cases (Option.some.inj hu : c = 10)
    decide
  cases k with
  | next s t =>
    simp only [Core.ok, Bool.and_eq_true] at hk
    obtain ⟨q, e⟩ := coreAt_side (p := p) (r := 32 :: 62 :: 32 :: (t.text ++ u)) hn hk.1
    obtain ⟨z, e2⟩ := second_complete (rd := sideAt n) (fine := fun (x : Side) => x != s) (p := q + 1 + 1) (x := t) (r := t.text ++ u) (u := u) (fun q => sideAt_complete hn hk.2.1) (by rw [bne_comm]; exact hk.2.2)
    refine ⟨z, ?_⟩
    rw [show (Core.next s t).text ++ u = s.text ++ 32 :: 62 :: 32 :: (t.text ++ u) by simp [Core.text, sign2], e]
    unfold ofSide
    rw [signBehind_complete]
    simp only [if_true]
    rw [e2]
  | faces s t =>
    simp only [Core.ok, Bool.and_eq_true] at hk
    obtain ⟨q, e⟩ := coreAt_side (p := p) (r := 32 :: 124 :: 32 :: (t.text ++ u)) hn hk.1
    obtain ⟨z, e2⟩ := second_complete (rd := sideAt n) (fine := fun (x : Side) => x.leaf != s.leaf) (p := q + 1 + 1) (x := t) (r := t.text ++ u) (u := u) (fun q => sideAt_complete hn hk.2.1) (by rw [bne_comm]; exact hk.2.2)
    refine ⟨z, ?_⟩
    rw [show (Core.faces s t).text ++ u = s.text ++ 32 :: 124 :: 32 :: (t.text ++ u) by simp [Core.text, sign2], e]
    unfold ofSide
    rw [signBehind_complete]
    simp only [if_true]
    rw [if_neg (by decide), e2]
  | front s =>
    simp only [Core.ok] at hk
    obtain ⟨q, e⟩ := coreAt_side (p := p) (r := 32 :: 94 :: u) hn hk
    refine ⟨q + 1 + 1, ?_⟩
    rw [show (Core.front s).text ++ u = s.text ++ 32 :: 94 :: u by simp [Core.text], e]
    unfold ofSide
    rw [signBehind_complete]
    simp only
    rw [if_neg (by decide), if_neg (by decide), if_pos trivial]
  | sheet l m =>
    simp only [Core.ok, Bool.and_eq_true] at hk
    have bm := leaf_bound hk.2.1
    obtain ⟨q, e⟩ := coreAt_num (p := p) (r := 61 :: 32 :: (decimal m ++ u)) hn hk.1
    obtain ⟨z, e2⟩ := second_complete (rd := number) (fine := fun (x : Nat) => x == 0 || (isLeafOf n x && x != l)) (p := q + 1 + 1) (x := m) (r := decimal m ++ u) (u := u) (fun q => number_complete (by omega) nu) (by rw [hk.2.1, bne_comm, hk.2.2]; simp)
    refine ⟨z, ?_⟩
    rw [show (Core.sheet l m).text ++ u = decimal l ++ 32 :: 61 :: 32 :: (decimal m ++ u) by simp [Core.text, sign2], e]
    unfold ofLeaf
    rw [signBehind_complete]
    simp only [if_true]
    rw [e2]
    simp only
    rw [if_neg (by omega)]
  | alone l =>
    simp only [Core.ok] at hk
    obtain ⟨q, e⟩ := coreAt_num (p := p) (r := 61 :: 32 :: (decimal 0 ++ u)) hn hk
    obtain ⟨z, e2⟩ := second_complete (rd := number) (fine := fun (x : Nat) => x == 0 || (isLeafOf n x && x != l)) (p := q + 1 + 1) (x := 0) (r := decimal 0 ++ u) (u := u) (fun q => number_complete (by omega) nu) (by simp)
    refine ⟨z, ?_⟩
    rw [show (Core.alone l).text ++ u = decimal l ++ 32 :: 61 :: 32 :: (decimal 0 ++ u) by simp [Core.text, sign2, dec1], e]
    unfold ofLeaf
    rw [signBehind_complete]
    simp only [if_true]
    rw [e2]
    simp only
    rw [if_pos trivial]
  | before l m =>
    simp only [Core.ok, Bool.and_eq_true] at hk
    obtain ⟨q, e⟩ := coreAt_num (p := p) (r := 60 :: 32 :: (decimal m ++ u)) hn hk.1
    obtain ⟨z, e2⟩ := second_complete (rd := leafAt n) (fine := fun (x : Nat) => x != l) (p := q + 1 + 1) (x := m) (r := decimal m ++ u) (u := u) (fun q => leafAt_complete hn hk.2.1 nu) (by rw [bne_comm]; exact hk.2.2)
    refine ⟨z, ?_⟩
    rw [show (Core.before l m).text ++ u = decimal l ++ 32 :: 60 :: 32 :: (decimal m ++ u) by simp [Core.text, sign2], e]
    unfold ofLeaf
    rw [signBehind_complete]
    simp only [if_true]
    rw [if_neg (by decide), e2]
  | together l m =>
    simp only [Core.ok, Bool.and_eq_true] at hk
    obtain ⟨q, e⟩ := coreAt_num (p := p) (r := 126 :: 32 :: (decimal m ++ u)) hn hk.1
    obtain ⟨z, e2⟩ := second_complete (rd := leafAt n) (fine := fun (x : Nat) => x != l) (p := q + 1 + 1) (x := m) (r := decimal m ++ u) (u := u) (fun q => leafAt_complete hn hk.2.1 nu) (by rw [bne_comm]; exact hk.2.2)
    refine ⟨z, ?_⟩
    rw [show (Core.together l m).text ++ u = decimal l ++ 32 :: 126 :: 32 :: (decimal m ++ u) by simp [Core.text, sign2], e]
    unfold ofLeaf
    rw [signBehind_complete]
    simp only [if_true]
    rw [if_neg (by decide), if_neg (by decide), e2]
  | hole l =>
    simp only [Core.ok, Bool.and_eq_true, decide_eq_true_eq] at hk
    obtain ⟨h2, h3, h4⟩ := hk
    have r0 : rise (fun x => x) 0 l = true := rise_rising l 0 (Or.inl fun x hx => (leaf_bound (List.all_eq_true.mp h3 x hx)).1) h4
    obtain ⟨q, e⟩ := several_complete (rd := leafAt n) (key := fun x => x) (tx := decimal) (ok := isLeafOf n) (fun ho hd => leafAt_complete hn ho hd) hu (f := ((l.flatMap fun x => 32 :: decimal x) ++ u).length + 1) (least := 2) (last := 0) (p := p + 1) l
      (by
        have : ∀ l : List Nat, l.length ≤ (l.flatMap fun x => (32 : UInt8) :: decimal x).length := by
          intro l
          induction l with
          | nil => simp
          | cons a r ih => simp only [List.flatMap_cons, List.length_append, List.length_cons]; omega
        have := this l
        simp only [List.length_append]
        omega) (by omega) h2 h3 r0
    refine ⟨q, ?_⟩
    show coreAt n p (111 :: ((l.flatMap fun x => 32 :: decimal x) ++ u)) = _
    unfold coreAt
    simp only [if_true]
    rw [e]
  | hair l =>
    simp only [Core.ok, Bool.and_eq_true, decide_eq_true_eq] at hk
    obtain ⟨h2, h3, h4⟩ := hk
    have r0 : rise Side.key 0 l = true := by
      rw [rise_map]
      refine rise_rising _ 0 (Or.inl fun x hx => ?_) h4
      obtain ⟨s, hs, rfl⟩ := List.mem_map.mp hx
      have := leaf_bound (List.all_eq_true.mp h3 s hs)
      unfold Side.key
      omega
    obtain ⟨q, e⟩ := several_complete (rd := sideAt n) (key := Side.key) (tx := Side.text) (ok := fun s => isLeafOf n s.leaf) (fun ho hd => sideAt_complete hn ho) hu (f := ((l.flatMap fun x => 32 :: x.text) ++ u).length + 1) (least := 1) (last := 0) (p := p + 1) l
      (by
        have : ∀ l : List Side, l.length ≤ (l.flatMap fun x => (32 : UInt8) :: x.text).length := by
          intro l
          induction l with
          | nil => simp
          | cons a r ih => simp only [List.flatMap_cons, List.length_append, List.length_cons]; omega
        have := this l
        simp only [List.length_append]
        omega) h2 h2 h3 r0
    refine ⟨q, ?_⟩
    show coreAt n p (104 :: ((l.flatMap fun x => 32 :: x.text) ++ u)) = _
    unfold coreAt
    simp only
    rw [if_neg (by decide), if_pos trivial, e]
end Par
end
section
open QuireSeen
namespace Par
private theorem findingAt_sound {n p q : Nat} {f : Finding} {t u : List UInt8} (h : findingAt n p t = .ok (f, q, u)) : t = f.text ++ 10 :: u ∧ f.core.ok n = true := by
  unfold findingAt at h
  simp only at h
  have tail : ∀ {q0 : Nat} {u0 : List UInt8} {no : Bool}, (match coreAt n q0 u0 with
    | .error e => .error e
    | .ok (c, q, u) => match charAt 10 q u with
      | .error e => .error e
      | .ok (_, q, u) => .ok (⟨no, c⟩, q, u) : Rd Finding) = .ok (f, q, u) → u0 = f.core.text ++ 10 :: u ∧ f.core.ok n = true ∧ f.no = no := by
    intro q0 u0 no h
    split at h
    · cases h
    · rename_i c q1 u1 e1
      obtain ⟨rfl, hk⟩ := coreAt_sound e1
      split at h
      · cases h
      · rename_i q2 u2 e2
        cases h
        cases u1 with
        | nil => cases e2
        | cons a v =>
          unfold charAt at e2
          simp only at e2
          split at e2
          · rename_i ha
            cases e2
            exact ⟨by rw [ha], hk, rfl⟩
          · cases e2
  split at h
  · cases h
  · rename_i q0 u0 e
    obtain ⟨e1, hk, hno⟩ := tail h
    refine ⟨?_, hk⟩
    unfold Finding.text
    rw [hno]
    cases t with
    | nil => cases e; cases h
    | cons a v =>
      by_cases ha : a = 33
      · subst ha
        simp only [List.head?_cons, beq_self_eq_true, if_true, List.drop_one, List.tail_cons] at e ⊢
        cases v with
        | nil => cases e
        | cons b w =>
          unfold charAt at e
          simp only at e
          split at e
          · rename_i hb
            cases e
            rw [hb, e1]
            simp
          · cases e
      · have : (some a == some (33 : UInt8)) = false := by simpa using ha
        simp only [List.head?_cons, this, Bool.false_eq_true, if_false] at e ⊢
        cases e
        simpa using e1
private theorem core_head {n : Nat} {k : Core} {u : List UInt8} (hn : n ≤ 16) (hk : k.ok n = true) : ∃ c r, k.text ++ u = c :: r ∧ c ≠ 33 := by
  have nu : ∀ {l : Nat} {r : List UInt8}, isLeafOf n l = true → ∃ c s, decimal l ++ r = c :: s ∧ c ≠ 33 := by
    intro l r hl
    have b := leaf_bound hl
    obtain ⟨c, s, ec, _, _, n3⟩ := dec_head b.1 (by omega)
    exact ⟨c, s ++ r, by rw [ec]; rfl, n3⟩
  cases k with
  | next s t | faces s t =>
    simp only [Core.ok, Bool.and_eq_true] at hk
    simp only [Core.text, sign2, Side.text, List.append_assoc]
    exact nu hk.1
  | front s =>
    simp only [Core.ok] at hk
    simp only [Core.text, Side.text, List.append_assoc]
    exact nu hk
  | sheet l m | before l m | together l m =>
    simp only [Core.ok, Bool.and_eq_true] at hk
    simp only [Core.text, sign2, List.append_assoc]
    exact nu hk.1
  | alone l =>
    simp only [Core.ok] at hk
    simp only [Core.text, sign2, List.append_assoc]
    exact nu hk
  | hole l => exact ⟨_, _, rfl, by decide⟩
  | hair l => exact ⟨_, _, rfl, by decide⟩
private theorem findingAt_complete {n p : Nat} {f : Finding} {u : List UInt8} (hn : n ≤ 16) (hk : f.core.ok n = true) : ∃ q, findingAt n p (f.text ++ 10 :: u) = .ok (f, q, u) := by
  obtain ⟨no, k⟩ := f
  cases no with
  | true =>
    obtain ⟨q, e⟩ := coreAt_complete (p := p + 1 + 1) (u := 10 :: u) hn hk rfl
    refine ⟨q + 1, ?_⟩
    unfold findingAt Finding.text
    simp only [if_true, List.cons_append, List.nil_append, List.head?_cons, beq_self_eq_true, List.drop_one, List.tail_cons, charAt]
    rw [e]
    rfl
  | false =>
    obtain ⟨q, e⟩ := coreAt_complete (p := p) (u := 10 :: u) hn hk rfl
    obtain ⟨c, r, ec, n3⟩ := core_head (u := 10 :: u) hn hk
    refine ⟨q + 1, ?_⟩
    unfold findingAt Finding.text
    simp only [Bool.false_eq_true, if_false, List.nil_append]
    have : ((k.text ++ 10 :: u).head? == some (33 : UInt8)) = false := by rw [ec]; simpa using n3
    rw [this]
    simp only [Bool.false_eq_true, if_false]
    rw [e]
    rfl
private theorem findingsAt_sound {n : Nat} : ∀ {f left p : Nat} {t : List UInt8} {l : List Finding}, findingsAt n f left p t = .ok l →
    t = (l.flatMap fun (f : Finding) => f.text ++ [10]) ∧ l.length ≤ left ∧ (l.all fun f => f.core.ok n) = true
  | _, _, _, [], l, h => by
    unfold findingsAt at h
    cases h
    exact ⟨rfl, Nat.zero_le _, rfl⟩
  | 0, _, _, _ :: _, l, h => by cases h
  | f + 1, left, p, a :: v, l, h => by
    unfold findingsAt at h
    split at h
    · cases h
    · rename_i hleft
      split at h
      · cases h
      · rename_i x q u e
        obtain ⟨e1, hk⟩ := findingAt_sound e
        split at h
        · cases h
        · rename_i l' e2
          cases h
          obtain ⟨e3, h1, h2⟩ := findingsAt_sound e2
          refine ⟨?_, by simp only [List.length_cons]; omega, by simp only [List.all_cons, hk, h2, Bool.and_self]⟩
          rw [e1, List.flatMap_cons, ← e3]
          simp
private theorem findingsAt_complete {n : Nat} (hn : n ≤ 16) : ∀ {f left p : Nat} (l : List Finding), l.length ≤ f → l.length ≤ left → (l.all fun f => f.core.ok n) = true →
    findingsAt n f left p (l.flatMap fun (f : Finding) => f.text ++ [10]) = .ok l
  | f, _, _, [], _, _, _ => by cases f <;> rfl
  | 0, _, _, _ :: _, h, _, _ => absurd h (by simp)
  | f + 1, left, p, x :: r, h1, h2, h3 => by
    simp only [List.all_cons, Bool.and_eq_true] at h3
    obtain ⟨q, e⟩ := findingAt_complete (p := p) (u := r.flatMap fun (f : Finding) => f.text ++ [10]) hn h3.1
    have ih := findingsAt_complete hn (f := f) (left := left - 1) (p := q) r (by simp at h1; omega) (by simp at h2; omega) h3.2
    have e0 : ((x :: r).flatMap fun (f : Finding) => f.text ++ [10]) = x.text ++ 10 :: (r.flatMap fun (f : Finding) => f.text ++ [10]) := by simp
    rw [e0]
    have : ∃ a v, x.text ++ 10 :: (r.flatMap fun (f : Finding) => f.text ++ [10]) = a :: v := by
      cases hx : x.text with
      | nil => exact ⟨_, _, rfl⟩
      | cons a v => exact ⟨_, _, rfl⟩
    obtain ⟨a, v, ea⟩ := this
    rw [ea] at e ⊢
    unfold findingsAt
    rw [if_neg (by simp at h2; omega), e]
    simp only
    rw [ih]
private theorem read_sound {t : List UInt8} {F : Findings} (h : readFindings t = .ok F) : t = F.text ∧ F.ok = true := by
  unfold readFindings at h
  split at h
  · cases h
  · rename_i n q u e
    obtain ⟨rfl, _⟩ := number_sound e
    split at h
    · cases h
    · rename_i hn
      split at h
      · cases h
      · rename_i q1 u1 e1
        split at h
        · cases h
        · rename_i l e2
          cases h
          obtain ⟨e3, h1, h2⟩ := findingsAt_sound e2
          cases u with
          | nil => cases e1
          | cons a v =>
            unfold charAt at e1
            simp only at e1
            split at e1
            · rename_i ha
              cases e1
              refine ⟨?_, ?_⟩
              · unfold Findings.text
                simp only
                rw [ha, ← e3]
              · unfold Findings.ok
                simp only [h2, Bool.and_true, Bool.and_eq_true, decide_eq_true_eq]
                refine ⟨by omega, by omega, h1⟩
            · cases e1
private theorem read_complete {F : Findings} (h : F.ok = true) : readFindings F.text = .ok F := by
  obtain ⟨n, l⟩ := F
  unfold Findings.ok at h
  simp only [Bool.and_eq_true, decide_eq_true_eq] at h
  obtain ⟨h1, h2, h3, h4⟩ := h
  unfold LEAVES at h2
  obtain ⟨q, e⟩ := number_complete (p := 0) (l := n) (r := 10 :: l.flatMap fun (f : Finding) => f.text ++ [10]) (by omega) (nodig_cons (by decide))
  unfold readFindings Findings.text
  simp only
  rw [e]
  simp only
  rw [if_neg (by unfold LEAVES; omega)]
  unfold charAt
  simp only [if_true]
  rw [findingsAt_complete h2 l ?_ h3 h4]
  have : ∀ l : List Finding, l.length ≤ (l.flatMap fun (f : Finding) => f.text ++ [10]).length := by
    intro l
    induction l with
    | nil => simp
    | cons a r ih => simp only [List.flatMap_cons, List.length_append, List.length_cons, List.length_nil]; omega
  have := this l
  omega
end Par
end
section
open QuireSeen
namespace M
noncomputable abbrev MF := Bool × Nat × List Nat
noncomputable def numText (k : Nat) : List Nat := if k < 10 then [48 + k] else [48 + k / 10, 48 + k % 10]
noncomputable def sideText (s : Nat) : List Nat := numText (s / 2) ++ [97 + s % 2]
noncomputable def spl (m : Nat) : List Nat → List (List Nat)
  | [] => [[]]
  | c :: r => if c = m then [] :: spl m r else match spl m r with
    | [] => [[c]]
    | p :: ps => (c :: p) :: ps
noncomputable def readNumber (most : Nat) (w : List Nat) : Nat := (((List.range most).map (· + 1)).find? fun k => decide (w = numText k)).getD 0
noncomputable def readSide (n : Nat) (w : List Nat) : Nat := (((List.range (2 * n)).map (· + 2)).find? fun k => decide (w = sideText k)).getD 0
noncomputable def rising : Nat → List Nat → Bool
  | _, [] => true
  | last, x :: r => if x ≤ last then false else rising x r
noncomputable def sidesPair (n k : Nat) (a c : List Nat) : List Nat :=
  let s := readSide n a
  let t := readSide n c
  if s = 0 ∨ t = 0 ∨ s = t then [] else if k = 124 ∧ s / 2 = t / 2 then [] else [s, t]
noncomputable def leavesPair (n k : Nat) (a c : List Nat) : List Nat :=
  let s := readNumber n a
  let t := readNumber n c
  if s = 0 ∨ s = t then [] else if t = 0 ∧ (k ≠ 61 ∨ c ≠ [48]) then [] else [s, t]
noncomputable def readThree (n : Nat) (a b c : List Nat) : Option (Nat × List Nat) :=
  match [62, 124, 61, 60, 126].filter fun k => decide (b = [k]) with
  | [] => none
  | k :: _ =>
    let ps := if k = 62 ∨ k = 124 then sidesPair n k a c else leavesPair n k a c
    if ps = [] then none else some (k, ps)
noncomputable def readPlain (n : Nat) (ws : List (List Nat)) : Option (Nat × List Nat) :=
  if 2 < ws.length ∧ ws.getD 0 [] = [111] then
    (if rising 0 ((ws.drop 1).map (readNumber n)) = true then some (111, (ws.drop 1).map (readNumber n)) else none)
  else if 1 < ws.length ∧ ws.getD 0 [] = [104] then
    (if rising 0 ((ws.drop 1).map (readSide n)) = true then some (104, (ws.drop 1).map (readSide n)) else none)
  else if ws.length = 2 ∧ ws.getD 1 [] = [94] then
    (if readSide n (ws.getD 0 []) ≠ 0 then some (94, [readSide n (ws.getD 0 [])]) else none)
  else if ws.length = 3 then readThree n (ws.getD 0 []) (ws.getD 1 []) (ws.getD 2 [])
  else none
noncomputable def readFinding (n : Nat) (line : List Nat) : Option MF :=
  let ws := spl 32 line
  let plain := decide (ws.getD 0 [] ≠ [33])
  (readPlain n (if plain = true then ws else ws.drop 1)).map fun x => (plain, x.1, x.2)
noncomputable def readAll (n : Nat) : List (List Nat) → Option (List MF)
  | [] => some []
  | l :: r => match readFinding n l with
    | none => none
    | some f => (readAll n r).map fun fs => f :: fs
noncomputable def readFindings (t : List Nat) : Option (Nat × List MF) :=
  let lines := spl 10 t
  if lines.getLast? ≠ some [] ∨ 66 < lines.length then none else
  let n := readNumber 16 (lines.getD 0 [])
  if n = 0 then none else (readAll n (lines.drop 1).dropLast).map fun fs => (n, fs)

noncomputable def joinW (m : Nat) : List (List Nat) → List Nat
  | [] => []
  | [w] => w
  | w :: v :: r => w ++ m :: joinW m (v :: r)
private theorem spl_ne (m : Nat) : ∀ t, spl m t ≠ []
  | [] => by simp [spl]
  | c :: r => by
    unfold spl
    split
    · simp
    · split <;> simp
private theorem join_spl (m : Nat) : ∀ t, joinW m (spl m t) = t
  | [] => rfl
  | c :: r => by
    have ih := join_spl m r
    have ne := spl_ne m r
    unfold spl
    split
    · rename_i h
      subst h
      cases e : spl c r with
      | nil => exact absurd e ne
      | cons p ps =>
        rw [e] at ih
        show [] ++ c :: joinW c (p :: ps) = _
        rw [ih]
        rfl
    · cases e : spl m r with
      | nil => exact absurd e ne
      | cons p ps =>
        rw [e] at ih
        simp only
        cases ps with
        | nil => exact congrArg (c :: ·) ih
        | cons p2 ps2 =>
          show c :: p ++ m :: joinW m (p2 :: ps2) = c :: r
          rw [← ih]
          rfl
private theorem spl_word (m : Nat) : ∀ w : List Nat, m ∉ w → spl m w = [w]
  | [], _ => rfl
  | c :: r, h => by
    simp only [List.mem_cons, not_or] at h
    unfold spl
    rw [if_neg (fun e => h.1 e.symm), spl_word m r h.2]
private theorem spl_app (m : Nat) : ∀ (w t : List Nat), m ∉ w → spl m (w ++ m :: t) = w :: spl m t
  | [], t, _ => by
    show spl m (m :: t) = _
    rw [spl, if_pos rfl]
  | c :: r, t, h => by
    simp only [List.mem_cons, not_or] at h
    show spl m (c :: (r ++ m :: t)) = _
    rw [spl, if_neg (fun e => h.1 e.symm), spl_app m r t h.2]
private theorem spl_join (m : Nat) : ∀ ws : List (List Nat), ws ≠ [] → (∀ w ∈ ws, m ∉ w) → spl m (joinW m ws) = ws
  | [], h, _ => absurd rfl h
  | [w], _, h => spl_word m w (h w (by simp))
  | w :: v :: r, _, h => by
    show spl m (w ++ m :: joinW m (v :: r)) = _
    rw [spl_app m _ _ (h w (by simp)), spl_join m (v :: r) (by simp) fun x hx => h x (by simp only [List.mem_cons] at hx ⊢; exact Or.inr hx)]
private theorem numText_inj {a b : Nat} (ha : a < 100) (hb : b < 100) (h : numText a = numText b) : a = b := by
  unfold numText at h
  split at h <;> split at h <;> simp only [List.cons.injEq, List.cons_ne_nil, reduceCtorEq, and_true, and_false] at h <;> omega
private theorem find_first {α : Type} {p : α → Bool} : ∀ {l : List α} {x : α}, x ∈ l → p x = true → (∀ y ∈ l, p y = true → y = x) → l.find? p = some x
  | [], _, h, _, _ => nomatch h
  | y :: r, x, h, hp, hu => by
    by_cases hy : p y = true
    · have := hu y (by simp) hy
      subst this
      exact List.find?_cons_of_pos hy
    · rw [List.find?_cons_of_neg hy]
      simp only [List.mem_cons] at h
      rcases h with h | h
      · subst h; exact absurd hp hy
      · exact find_first h hp fun z hz => hu z (by simp [hz])
private theorem readNumber_of {most k : Nat} (h1 : 1 ≤ k) (h2 : k ≤ most) (h3 : most ≤ 16) : readNumber most (numText k) = k := by
  unfold readNumber
  rw [find_first (x := k)]
  · rfl
  · simp only [List.mem_map, List.mem_range]
    exact ⟨k - 1, by omega, by omega⟩
  · simp
  · intro y hy hd
    simp only [List.mem_map, List.mem_range] at hy
    obtain ⟨z, hz, rfl⟩ := hy
    exact (numText_inj (by omega) (by omega) (of_decide_eq_true hd)).symm
private theorem readNumber_pos {most : Nat} {w : List Nat} (h : readNumber most w ≠ 0) : 1 ≤ readNumber most w ∧ readNumber most w ≤ most ∧ w = numText (readNumber most w) := by
  unfold readNumber at h ⊢
  cases e : ((List.range most).map (· + 1)).find? fun k => decide (w = numText k) with
  | none => rw [e] at h; exact absurd rfl h
  | some k =>
    have h1 := List.find?_some e
    have h2 := List.mem_of_find?_eq_some e
    simp only [List.mem_map, List.mem_range] at h2
    obtain ⟨z, hz, rfl⟩ := h2
    simp only [Option.getD_some]
    exact ⟨by omega, by omega, of_decide_eq_true h1⟩
private theorem sideText_inj {a b : Nat} (ha : a < 200) (hb : b < 200) (h : sideText a = sideText b) : a = b := by
  unfold sideText at h
  have h1 := List.append_inj' h rfl
  have h2 := numText_inj (by omega) (by omega) h1.1
  have h3 := h1.2
  simp only [List.cons.injEq, and_true] at h3
  omega
private theorem readSide_of {n k : Nat} (h1 : 2 ≤ k) (h2 : k < 2 * n + 2) (h3 : n ≤ 16) : readSide n (sideText k) = k := by
  unfold readSide
  rw [find_first (x := k)]
  · rfl
  · simp only [List.mem_map, List.mem_range]
    exact ⟨k - 2, by omega, by omega⟩
  · simp
  · intro y hy hd
    simp only [List.mem_map, List.mem_range] at hy
    obtain ⟨z, hz, rfl⟩ := hy
    exact (sideText_inj (by omega) (by omega) (of_decide_eq_true hd)).symm
private theorem readSide_pos {n : Nat} {w : List Nat} (h : readSide n w ≠ 0) : 2 ≤ readSide n w ∧ readSide n w < 2 * n + 2 ∧ w = sideText (readSide n w) := by
  unfold readSide at h ⊢
  cases e : ((List.range (2 * n)).map (· + 2)).find? fun k => decide (w = sideText k) with
  | none => rw [e] at h; exact absurd rfl h
  | some k =>
    have h1 := List.find?_some e
    have h2 := List.mem_of_find?_eq_some e
    simp only [List.mem_map, List.mem_range] at h2
    obtain ⟨z, hz, rfl⟩ := h2
    simp only [Option.getD_some]
    exact ⟨by omega, by omega, of_decide_eq_true h1⟩
noncomputable def tn (u : List UInt8) : List Nat := u.map UInt8.toNat
private theorem tn_inj {u v : List UInt8} (h : tn u = tn v) : u = v := by
  unfold tn at h
  induction u generalizing v with
  | nil =>
    cases v with
    | nil => rfl
    | cons a r => cases h
  | cons a r ih =>
    cases v with
    | nil => cases h
    | cons b s =>
      simp only [List.map_cons, List.cons.injEq] at h
      rw [UInt8.toNat.inj h.1, ih h.2]
private theorem tn_append (u v : List UInt8) : tn (u ++ v) = tn u ++ tn v := List.map_append
private theorem tn_cons (a : UInt8) (v : List UInt8) : tn (a :: v) = a.toNat :: tn v := rfl
private theorem tn_dec {k : Nat} (h : k < 100) : tn (decimal k) = numText k := by
  unfold numText
  have t8 : ∀ x, x < 10 → (UInt8.ofNat (48 + x)).toNat = 48 + x := by decide
  split
  · rename_i h1
    rw [Par.dec1 h1]
    simp only [tn, List.map_cons, List.map_nil, t8 k h1]
  · rename_i h1
    have e : k = 10 * (k / 10) + k % 10 := by omega
    rw [show decimal k = decimal (10 * (k / 10) + k % 10) by rw [← e], Par.dec2 (by omega) (by omega) (by omega)]
    simp only [tn, List.map_cons, List.map_nil, t8 (k / 10) (by omega), t8 (k % 10) (by omega)]
private theorem tn_side {s : Side} (h : s.leaf < 100) : tn s.text = sideText s.key := by
  obtain ⟨l, b⟩ := s
  unfold Side.text sideText Side.key
  cases b with
  | false =>
    simp only [Bool.false_eq_true, if_false, tn_append, Nat.add_zero]
    rw [tn_dec h, show 2 * l / 2 = l by omega, show 2 * l % 2 = 0 by omega]
    rfl
  | true =>
    simp only [if_true, tn_append]
    rw [tn_dec h, show (2 * l + 1) / 2 = l by omega, show (2 * l + 1) % 2 = 1 by omega]
    rfl
private theorem key_inj {s t : Side} (h : s.key = t.key) : s = t := by
  obtain ⟨l, b⟩ := s
  obtain ⟨m, c⟩ := t
  unfold Side.key at h
  simp only at h
  cases b <;> cases c <;> simp only [Bool.false_eq_true, if_false, if_true] at h
  · rw [show l = m by omega]
  · omega
  · omega
  · rw [show l = m by omega]
noncomputable def sideOf (k : Nat) : Side := ⟨k / 2, k % 2 == 1⟩
private theorem key_sideOf (k : Nat) : (sideOf k).key = k := by
  unfold sideOf Side.key
  simp only [beq_iff_eq]
  split <;> omega
private theorem num_no {k m : Nat} (hm : m < 48 ∨ 57 < m) (hk : k < 100) : m ∉ numText k := by
  unfold numText
  split <;> simp only [List.mem_cons, List.not_mem_nil, or_false, not_or] <;> omega
private theorem side_no {k m : Nat} (hm : m < 48) (hk : k < 200) : m ∉ sideText k := by
  unfold sideText
  simp only [List.mem_append, not_or, List.mem_cons, List.not_mem_nil, or_false]
  exact ⟨num_no (Or.inl hm) (by omega), by omega⟩
end M
end
section
open QuireSeen
namespace M
noncomputable def convC : Core → Nat × List Nat
  | .next s t => (62, [s.key, t.key])
  | .faces s t => (124, [s.key, t.key])
  | .front s => (94, [s.key])
  | .sheet l m => (61, [l, m])
  | .alone l => (61, [l, 0])
  | .before l m => (60, [l, m])
  | .together l m => (126, [l, m])
  | .hole l => (111, l)
  | .hair l => (104, l.map Side.key)
noncomputable def conv (f : Finding) : MF := (!f.no, convC f.core)
noncomputable def wordsC : Core → List (List Nat)
  | .next s t => [sideText s.key, [62], sideText t.key]
  | .faces s t => [sideText s.key, [124], sideText t.key]
  | .front s => [sideText s.key, [94]]
  | .sheet l m => [numText l, [61], numText m]
  | .alone l => [numText l, [61], [48]]
  | .before l m => [numText l, [60], numText m]
  | .together l m => [numText l, [126], numText m]
  | .hole l => [111] :: l.map numText
  | .hair l => [104] :: l.map fun s => sideText s.key
private theorem leaf_key {n : Nat} {s : Side} (h : isLeafOf n s.leaf = true) : 2 ≤ s.key ∧ s.key < 2 * n + 2 := by
  have := Par.leaf_bound h
  unfold Side.key
  split <;> omega
private theorem join_cons {m : Nat} {w : List Nat} : ∀ {ws : List (List Nat)}, joinW m (w :: ws) = w ++ ws.flatMap fun v => m :: v
  | [] => by simp [joinW]
  | v :: r => by
    show w ++ m :: joinW m (v :: r) = _
    rw [join_cons (w := v) (ws := r)]
    simp
private theorem join_words {n : Nat} (hn : n ≤ 16) {k : Core} (hk : k.ok n = true) : joinW 32 (wordsC k) = tn k.text := by
  have ld : ∀ {l : Nat}, isLeafOf n l = true → tn (decimal l) = numText l := fun h => tn_dec (by have := Par.leaf_bound h; omega)
  have sd : ∀ {s : Side}, isLeafOf n s.leaf = true → tn s.text = sideText s.key := fun h => tn_side (by have := Par.leaf_bound h; omega)
  cases k with
  | next s t | faces s t =>
    simp only [Core.ok, Bool.and_eq_true] at hk
    simp only [wordsC, joinW, Core.text, sign2, tn_append, tn_cons, sd hk.1, sd hk.2.1]
    rfl
  | front s =>
    simp only [Core.ok] at hk
    simp only [wordsC, joinW, Core.text, tn_append, tn_cons, sd hk]
    rfl
  | sheet l m | before l m | together l m =>
    simp only [Core.ok, Bool.and_eq_true] at hk
    simp only [wordsC, joinW, Core.text, sign2, tn_append, tn_cons, ld hk.1, ld hk.2.1]
    rfl
  | alone l =>
    simp only [Core.ok] at hk
    simp only [wordsC, joinW, Core.text, sign2, tn_append, tn_cons, ld hk]
    rfl
  | hole l =>
    simp only [Core.ok, Bool.and_eq_true] at hk
    simp only [wordsC, join_cons, Core.text, tn_cons]
    have : ∀ l : List Nat, l.all (isLeafOf n) = true → ((l.map numText).flatMap fun v => 32 :: v) = tn (l.flatMap fun x => 32 :: decimal x) := by
      intro l hl
      induction l with
      | nil => rfl
      | cons a r ih =>
        simp only [List.all_cons, Bool.and_eq_true] at hl
        simp only [List.map_cons, List.flatMap_cons, tn_append, tn_cons, ld hl.1, ih hl.2]
        rfl
    rw [this l hk.2.1]
    rfl
  | hair l =>
    simp only [Core.ok, Bool.and_eq_true] at hk
    simp only [wordsC, join_cons, Core.text, tn_cons]
    have : ∀ l : List Side, l.all (fun s => isLeafOf n s.leaf) = true → ((l.map fun s => sideText s.key).flatMap fun v => 32 :: v) = tn (l.flatMap fun x => 32 :: x.text) := by
      intro l hl
      induction l with
      | nil => rfl
      | cons a r ih =>
        simp only [List.all_cons, Bool.and_eq_true] at hl
        simp only [List.map_cons, List.flatMap_cons, tn_append, tn_cons, sd hl.1, ih hl.2]
        rfl
    rw [this l hk.2.1]
    rfl
private theorem words_no {n m : Nat} (hn : n ≤ 16) (hm : m < 48) (hm2 : m = 32 ∨ m = 10) {k : Core} (hk : k.ok n = true) : ∀ w ∈ wordsC k, m ∉ w := by
  have ld : ∀ {l : Nat}, isLeafOf n l = true → m ∉ numText l := fun h => num_no (Or.inl hm) (by have := Par.leaf_bound h; omega)
  have sd : ∀ {s : Side}, isLeafOf n s.leaf = true → m ∉ sideText s.key := fun h => side_no hm (by have := leaf_key h; omega)
  have o1 : ∀ c, 33 ≤ c → m ∉ [c] := fun c hc => by simp only [List.mem_cons, List.not_mem_nil, or_false]; omega
  intro w hw
  cases k with
  | next s t | faces s t =>
    simp only [Core.ok, Bool.and_eq_true] at hk
    simp only [wordsC, List.mem_cons, List.not_mem_nil, or_false] at hw
    rcases hw with rfl | rfl | rfl
    · exact sd hk.1
    · exact o1 _ (by decide)
    · exact sd hk.2.1
  | front s =>
    simp only [Core.ok] at hk
    simp only [wordsC, List.mem_cons, List.not_mem_nil, or_false] at hw
    rcases hw with rfl | rfl
    · exact sd hk
    · exact o1 _ (by decide)
  | sheet l m | before l m | together l m =>
    simp only [Core.ok, Bool.and_eq_true] at hk
    simp only [wordsC, List.mem_cons, List.not_mem_nil, or_false] at hw
    rcases hw with rfl | rfl | rfl
    · exact ld hk.1
    · exact o1 _ (by decide)
    · exact ld hk.2.1
  | alone l =>
    simp only [Core.ok] at hk
    simp only [wordsC, List.mem_cons, List.not_mem_nil, or_false] at hw
    rcases hw with rfl | rfl | rfl
    · exact ld hk
    · exact o1 _ (by decide)
    · exact o1 _ (by decide)
  | hole l =>
    simp only [Core.ok, Bool.and_eq_true] at hk
    simp only [wordsC, List.mem_cons, List.mem_map] at hw
    rcases hw with rfl | ⟨x, hx, rfl⟩
    · exact o1 _ (by decide)
    · exact ld (List.all_eq_true.mp hk.2.1 x hx)
  | hair l =>
    simp only [Core.ok, Bool.and_eq_true] at hk
    simp only [wordsC, List.mem_cons, List.mem_map] at hw
    rcases hw with rfl | ⟨x, hx, rfl⟩
    · exact o1 _ (by decide)
    · exact sd (List.all_eq_true.mp hk.2.1 x hx)
private theorem wordsC_ne (k : Core) : wordsC k ≠ [] := by cases k <;> simp [wordsC]
private theorem rising_rise : ∀ (l : List Nat) (last : Nat), rising last l = Par.rise (fun x => x) last l
  | [], _ => rfl
  | x :: r, last => by
    unfold rising Par.rise
    rw [rising_rise r x]
    by_cases h : x ≤ last
    · rw [if_pos h, decide_eq_false (by omega), Bool.false_and]
    · rw [if_neg h, decide_eq_true (by omega), Bool.true_and]
private theorem num_ne {l : Nat} (h : l < 100) (c : Nat) (hc : c < 48 ∨ 57 < c) : numText l ≠ [c] := fun e => num_no hc h (by rw [e]; simp)
private theorem side_ne {l : Nat} (c : Nat) : sideText l ≠ [c] := fun e => by
  have := congrArg List.length e
  unfold sideText numText at this
  split at this <;> simp at this
private theorem map_readNumber {n : Nat} (hn : n ≤ 16) : ∀ l : List Nat, l.all (isLeafOf n) = true → (l.map numText).map (readNumber n) = l
  | [], _ => rfl
  | a :: r, h => by
    simp only [List.all_cons, Bool.and_eq_true] at h
    have := Par.leaf_bound h.1
    simp only [List.map_cons, readNumber_of this.1 this.2 hn, map_readNumber hn r h.2]
private theorem map_readSide {n : Nat} (hn : n ≤ 16) : ∀ l : List Side, l.all (fun s => isLeafOf n s.leaf) = true → (l.map fun s => sideText s.key).map (readSide n) = l.map Side.key
  | [], _ => rfl
  | a :: r, h => by
    simp only [List.all_cons, Bool.and_eq_true] at h
    have := leaf_key h.1
    simp only [List.map_cons, readSide_of this.1 this.2 hn, map_readSide hn r h.2]
private theorem plain_complete {n : Nat} (hn : n ≤ 16) {k : Core} (hk : k.ok n = true) : readPlain n (wordsC k) = some (convC k) := by
  have rn : ∀ {l : Nat}, isLeafOf n l = true → readNumber n (numText l) = l := fun h => by
    have := Par.leaf_bound h
    exact readNumber_of this.1 this.2 hn
  have rs : ∀ {s : Side}, isLeafOf n s.leaf = true → readSide n (sideText s.key) = s.key := fun h => by
    have := leaf_key h
    exact readSide_of this.1 this.2 hn
  cases k with
  | next s t =>
    simp only [Core.ok, Bool.and_eq_true] at hk
    have b1 := leaf_key hk.1
    have b2 := leaf_key hk.2.1
    have ne : s.key ≠ t.key := fun e => by
      have := key_inj e
      subst this
      simp at hk
    simp only [wordsC, readPlain, List.length_cons, List.length_nil, List.getD_cons_zero, List.getD_cons_succ]
    rw [if_neg (by rintro ⟨_, h⟩; exact side_ne _ h), if_neg (by rintro ⟨_, h⟩; exact side_ne _ h), if_neg (by rintro ⟨h, _⟩; omega), if_pos trivial]
    unfold readThree
    simp only [show ([62, 124, 61, 60, 126].filter fun k => decide (([62] : List Nat) = [k])) = [62] by decide]
    have e0 : sidesPair n 62 (sideText s.key) (sideText t.key) = [s.key, t.key] := by
      unfold sidesPair
      simp only [rs hk.1, rs hk.2.1]
      rw [if_neg (by omega), if_neg (by omega)]
    rw [if_pos (Or.inl trivial), e0]
    rfl
  | faces s t =>
    simp only [Core.ok, Bool.and_eq_true] at hk
    have b1 := leaf_key hk.1
    have b2 := leaf_key hk.2.1
    have ne : s.leaf ≠ t.leaf := by simpa using hk.2.2
    have ne2 : ¬ s.key / 2 = t.key / 2 := by
      unfold Side.key
      split <;> split <;> omega
    simp only [wordsC, readPlain, List.length_cons, List.length_nil, List.getD_cons_zero, List.getD_cons_succ]
    rw [if_neg (by rintro ⟨_, h⟩; exact side_ne _ h), if_neg (by rintro ⟨_, h⟩; exact side_ne _ h), if_neg (by rintro ⟨h, _⟩; omega), if_pos trivial]
    unfold readThree
    simp only [show ([62, 124, 61, 60, 126].filter fun k => decide (([124] : List Nat) = [k])) = [124] by decide]
    have e0 : sidesPair n 124 (sideText s.key) (sideText t.key) = [s.key, t.key] := by
      unfold sidesPair
      simp only [rs hk.1, rs hk.2.1]
      rw [if_neg (by omega), if_neg (by omega)]
    rw [if_pos (Or.inr trivial), e0]
    rfl
  | front s =>
    simp only [Core.ok] at hk
    have b1 := leaf_key hk
    simp only [wordsC, readPlain, List.length_cons, List.length_nil, List.getD_cons_zero, List.getD_cons_succ]
    rw [if_neg (by rintro ⟨_, h⟩; exact side_ne _ h), if_neg (by rintro ⟨_, h⟩; exact side_ne _ h), if_pos ⟨trivial, trivial⟩, rs hk, if_pos (by omega)]
    rfl
  | sheet l m =>
    simp only [Core.ok, Bool.and_eq_true] at hk
    have b1 := Par.leaf_bound hk.1
    have b2 := Par.leaf_bound hk.2.1
    have ne : l ≠ m := by simpa using hk.2.2
    simp only [wordsC, readPlain, List.length_cons, List.length_nil, List.getD_cons_zero, List.getD_cons_succ]
    rw [if_neg (by rintro ⟨_, h⟩; exact num_ne (by omega) _ (by omega) h), if_neg (by rintro ⟨_, h⟩; exact num_ne (by omega) _ (by omega) h), if_neg (by rintro ⟨h, _⟩; omega), if_pos trivial]
    unfold readThree
    simp only [show ([62, 124, 61, 60, 126].filter fun k => decide (([61] : List Nat) = [k])) = [61] by decide]
    have e0 : leavesPair n 61 (numText l) (numText m) = [l, m] := by
      unfold leavesPair
      simp only [rn hk.1, rn hk.2.1]
      rw [if_neg (by omega), if_neg (by omega)]
    rw [if_neg (show ¬ (61 = 62 ∨ 61 = 124) by decide), e0]
    rfl
  | alone l =>
    simp only [Core.ok] at hk
    have b1 := Par.leaf_bound hk
    have r0 : readNumber n [48] = 0 := by
      have e : ¬ readNumber n [48] ≠ 0 := fun h => by
        obtain ⟨h1, h2, h3⟩ := readNumber_pos h
        unfold numText at h3
        split at h3 <;> simp at h3 <;> omega
      omega
    simp only [wordsC, readPlain, List.length_cons, List.length_nil, List.getD_cons_zero, List.getD_cons_succ]
    rw [if_neg (by rintro ⟨_, h⟩; exact num_ne (by omega) _ (by omega) h), if_neg (by rintro ⟨_, h⟩; exact num_ne (by omega) _ (by omega) h), if_neg (by rintro ⟨h, _⟩; omega), if_pos trivial]
    unfold readThree
    simp only [show ([62, 124, 61, 60, 126].filter fun k => decide (([61] : List Nat) = [k])) = [61] by decide]
    have e0 : leavesPair n 61 (numText l) [48] = [l, 0] := by
      unfold leavesPair
      simp only [rn hk, r0]
      rw [if_neg (by omega), if_neg (by simp)]
    rw [if_neg (show ¬ (61 = 62 ∨ 61 = 124) by decide), e0]
    rfl
  | before l m =>
    simp only [Core.ok, Bool.and_eq_true] at hk
    have b1 := Par.leaf_bound hk.1
    have b2 := Par.leaf_bound hk.2.1
    have ne : l ≠ m := by simpa using hk.2.2
    simp only [wordsC, readPlain, List.length_cons, List.length_nil, List.getD_cons_zero, List.getD_cons_succ]
    rw [if_neg (by rintro ⟨_, h⟩; exact num_ne (by omega) _ (by omega) h), if_neg (by rintro ⟨_, h⟩; exact num_ne (by omega) _ (by omega) h), if_neg (by rintro ⟨h, _⟩; omega), if_pos trivial]
    unfold readThree
    simp only [show ([62, 124, 61, 60, 126].filter fun k => decide (([60] : List Nat) = [k])) = [60] by decide]
    have e0 : leavesPair n 60 (numText l) (numText m) = [l, m] := by
      unfold leavesPair
      simp only [rn hk.1, rn hk.2.1]
      rw [if_neg (by omega), if_neg (by omega)]
    rw [if_neg (show ¬ (60 = 62 ∨ 60 = 124) by decide), e0]
    rfl
  | together l m =>
    simp only [Core.ok, Bool.and_eq_true] at hk
    have b1 := Par.leaf_bound hk.1
    have b2 := Par.leaf_bound hk.2.1
    have ne : l ≠ m := by simpa using hk.2.2
    simp only [wordsC, readPlain, List.length_cons, List.length_nil, List.getD_cons_zero, List.getD_cons_succ]
    rw [if_neg (by rintro ⟨_, h⟩; exact num_ne (by omega) _ (by omega) h), if_neg (by rintro ⟨_, h⟩; exact num_ne (by omega) _ (by omega) h), if_neg (by rintro ⟨h, _⟩; omega), if_pos trivial]
    unfold readThree
    simp only [show ([62, 124, 61, 60, 126].filter fun k => decide (([126] : List Nat) = [k])) = [126] by decide]
    have e0 : leavesPair n 126 (numText l) (numText m) = [l, m] := by
      unfold leavesPair
      simp only [rn hk.1, rn hk.2.1]
      rw [if_neg (by omega), if_neg (by omega)]
    rw [if_neg (show ¬ (126 = 62 ∨ 126 = 124) by decide), e0]
    rfl
  | hole l =>
    simp only [Core.ok, Bool.and_eq_true, decide_eq_true_eq] at hk
    obtain ⟨h2, h3, h4⟩ := hk
    have r0 : rising 0 l = true := by
      rw [rising_rise]
      exact Par.rise_rising l 0 (Or.inl fun x hx => (Par.leaf_bound (List.all_eq_true.mp h3 x hx)).1) h4
    simp only [wordsC, readPlain, List.length_cons, List.getD_cons_zero, List.drop_one, List.tail_cons, List.length_map, map_readNumber hn l h3, r0]
    rw [if_pos ⟨by omega, trivial⟩]
    rfl
  | hair l =>
    simp only [Core.ok, Bool.and_eq_true, decide_eq_true_eq] at hk
    obtain ⟨h2, h3, h4⟩ := hk
    have r0 : rising 0 (l.map Side.key) = true := by
      rw [rising_rise]
      refine Par.rise_rising _ 0 (Or.inl fun x hx => ?_) h4
      obtain ⟨s, hs, rfl⟩ := List.mem_map.mp hx
      have := leaf_key (List.all_eq_true.mp h3 s hs)
      omega
    simp only [wordsC, readPlain, List.length_cons, List.getD_cons_zero, List.drop_one, List.tail_cons, List.length_map, map_readSide hn l h3, r0]
    rw [if_neg (by rintro ⟨_, h⟩; simp at h), if_pos ⟨by omega, trivial⟩]
    rfl
end M
end
section
open QuireSeen
namespace M
private theorem leafOf {n l : Nat} (h1 : 1 ≤ l) (h2 : l ≤ n) : isLeafOf n l = true := by
  unfold isLeafOf
  rw [decide_eq_true h1, decide_eq_true h2]
  rfl
private theorem sideOf_leaf {n k : Nat} (h1 : 2 ≤ k) (h2 : k < 2 * n + 2) : isLeafOf n (sideOf k).leaf = true := leafOf (by unfold sideOf; simp only; omega) (by unfold sideOf; simp only; omega)
private theorem three_sound {n : Nat} (hn : n ≤ 16) {a b c : List Nat} {x : Nat × List Nat} (h : readThree n a b c = some x) : ∃ k : Core, k.ok n = true ∧ wordsC k = [a, b, c] ∧ convC k = x := by
  unfold readThree at h
  have cases5 : ∀ {k r}, ([62, 124, 61, 60, 126].filter fun k => decide (b = [k])) = k :: r → b = [k] ∧ (k = 62 ∨ k = 124 ∨ k = 61 ∨ k = 60 ∨ k = 126) := by
    intro k r e
    have : k ∈ ([62, 124, 61, 60, 126].filter fun k => decide (b = [k])) := by rw [e]; simp
    simp only [List.mem_filter, List.mem_cons, List.not_mem_nil, or_false, decide_eq_true_eq] at this
    exact ⟨this.2, this.1⟩
  split at h
  · cases h
  · rename_i k r e
    obtain ⟨rfl, hk⟩ := cases5 e
    simp only at h
    by_cases h2 : k = 62 ∨ k = 124
    · rw [if_pos h2] at h
      by_cases hne : sidesPair n k a c = []
      · rw [if_pos hne] at h
        cases h
      · rw [if_neg hne] at h
        cases h
        unfold sidesPair at hne ⊢
        simp only at hne ⊢
        split at hne
        · exact absurd rfl hne
        · rename_i h3
          rw [if_neg h3]
          split at hne
          · exact absurd rfl hne
          · rename_i h4
            rw [if_neg h4]
            simp only [not_or] at h3
            obtain ⟨p1, p2, p3⟩ := readSide_pos h3.1
            obtain ⟨q1, q2, q3⟩ := readSide_pos h3.2.1
            rcases h2 with rfl | rfl
            · refine ⟨.next (sideOf (readSide n a)) (sideOf (readSide n c)), ?_, ?_, ?_⟩
              · simp only [Core.ok, sideOf_leaf p1 p2, sideOf_leaf q1 q2, Bool.true_and]
                simp only [bne_iff_ne, ne_eq]
                intro e
                exact h3.2.2 (by rw [← key_sideOf (readSide n a), e, key_sideOf])
              · simp only [wordsC, key_sideOf, ← p3, ← q3]
              · simp only [convC, key_sideOf]
            · refine ⟨.faces (sideOf (readSide n a)) (sideOf (readSide n c)), ?_, ?_, ?_⟩
              · simp only [Core.ok, sideOf_leaf p1 p2, sideOf_leaf q1 q2, Bool.true_and]
                simp only [bne_iff_ne, ne_eq]
                intro e
                exact h4 ⟨rfl, e⟩
              · simp only [wordsC, key_sideOf, ← p3, ← q3]
              · simp only [convC, key_sideOf]
    · rw [if_neg h2] at h
      by_cases hne : leavesPair n k a c = []
      · rw [if_pos hne] at h
        cases h
      · rw [if_neg hne] at h
        cases h
        unfold leavesPair at hne ⊢
        simp only at hne ⊢
        split at hne
        · exact absurd rfl hne
        · rename_i h3
          rw [if_neg h3]
          split at hne
          · exact absurd rfl hne
          · rename_i h4
            rw [if_neg h4]
            simp only [not_or] at h3
            obtain ⟨p1, p2, p3⟩ := readNumber_pos h3.1
            have hk' : k = 61 ∨ k = 60 ∨ k = 126 := by omega
            by_cases h5 : readNumber n c = 0
            · have h6 : k = 61 ∧ c = [48] := by
                refine ⟨Decidable.byContradiction fun z => h4 ⟨h5, Or.inl z⟩, Decidable.byContradiction fun z => h4 ⟨h5, Or.inr z⟩⟩
              obtain ⟨rfl, rfl⟩ := h6
              refine ⟨.alone (readNumber n a), leafOf p1 p2, ?_, ?_⟩
              · simp only [wordsC, ← p3]
              · simp only [convC, h5]
            · obtain ⟨q1, q2, q3⟩ := readNumber_pos h5
              have ok2 : (isLeafOf n (readNumber n a) && (isLeafOf n (readNumber n c) && readNumber n a != readNumber n c)) = true := by
                rw [leafOf p1 p2, leafOf q1 q2]
                simp only [Bool.true_and, bne_iff_ne, ne_eq]
                exact h3.2
              rcases hk' with rfl | rfl | rfl
              · exact ⟨.sheet (readNumber n a) (readNumber n c), ok2, by simp only [wordsC, ← p3, ← q3], rfl⟩
              · exact ⟨.before (readNumber n a) (readNumber n c), ok2, by simp only [wordsC, ← p3, ← q3], rfl⟩
              · exact ⟨.together (readNumber n a) (readNumber n c), ok2, by simp only [wordsC, ← p3, ← q3], rfl⟩
private theorem rise_all : ∀ (l : List Nat) (last : Nat), rising last l = true → ∀ x ∈ l, last < x
  | [], _, _, _, h => nomatch h
  | a :: r, last, h, x, hx => by
    unfold rising at h
    split at h
    · cases h
    · rename_i ha
      simp only [List.mem_cons] at hx
      rcases hx with rfl | hx
      · omega
      · have := rise_all r a h x hx
        omega
private theorem plain_sound {n : Nat} (hn : n ≤ 16) {ws : List (List Nat)} {x : Nat × List Nat} (h : readPlain n ws = some x) : ∃ k : Core, k.ok n = true ∧ wordsC k = ws ∧ convC k = x := by
  unfold readPlain at h
  split at h
  · rename_i h1
    split at h
    · rename_i h2
      cases h
      match ws, h1 with
      | w :: r, h1 =>
        simp only [List.getD_cons_zero, List.length_cons, List.drop_one, List.tail_cons] at h1 h2 ⊢
        have pos : ∀ y ∈ r, 1 ≤ readNumber n y ∧ readNumber n y ≤ n ∧ y = numText (readNumber n y) := fun y hy =>
          readNumber_pos (by have := rise_all _ _ h2 (readNumber n y) (List.mem_map.mpr ⟨y, hy, rfl⟩); omega)
        refine ⟨.hole (r.map (readNumber n)), ?_, ?_, rfl⟩
        · simp only [Core.ok, List.length_map, Bool.and_eq_true, decide_eq_true_eq]
          refine ⟨by omega, ?_, ?_⟩
          · rw [List.all_eq_true]
            intro z hz
            obtain ⟨y, hy, rfl⟩ := List.mem_map.mp hz
            exact leafOf (pos y hy).1 (pos y hy).2.1
          · rw [rising_rise] at h2
            exact Par.rising_rise _ _ h2
        · simp only [wordsC, h1.2, List.map_map]
          congr 1
          have : ∀ r : List (List Nat), (∀ y ∈ r, y = numText (readNumber n y)) → r.map (numText ∘ readNumber n) = r := by
            intro r
            induction r with
            | nil => intro _; rfl
            | cons a r ih =>
              intro hr
              simp only [List.map_cons, Function.comp]
              rw [← hr a (by simp)]
              congr 1
              exact ih fun y hy => hr y (by simp [hy])
          exact this r fun y hy => (pos y hy).2.2
    · cases h
  · split at h
    · rename_i h1
      split at h
      · rename_i h2
        cases h
        match ws, h1 with
        | w :: r, h1 =>
          simp only [List.getD_cons_zero, List.length_cons, List.drop_one, List.tail_cons] at h1 h2 ⊢
          have pos : ∀ y ∈ r, 2 ≤ readSide n y ∧ readSide n y < 2 * n + 2 ∧ y = sideText (readSide n y) := fun y hy =>
            readSide_pos (by have := rise_all _ _ h2 (readSide n y) (List.mem_map.mpr ⟨y, hy, rfl⟩); omega)
          have ek : (r.map fun y => sideOf (readSide n y)).map Side.key = r.map (readSide n) := by
            rw [List.map_map]
            congr 1
            funext y
            exact key_sideOf _
          refine ⟨.hair (r.map fun y => sideOf (readSide n y)), ?_, ?_, ?_⟩
          · simp only [Core.ok, List.length_map, Bool.and_eq_true, decide_eq_true_eq]
            refine ⟨by omega, ?_, ?_⟩
            · rw [List.all_eq_true]
              intro z hz
              obtain ⟨y, hy, rfl⟩ := List.mem_map.mp hz
              exact sideOf_leaf (pos y hy).1 (pos y hy).2.1
            · rw [ek]
              rw [rising_rise] at h2
              exact Par.rising_rise _ _ h2
          · simp only [wordsC, h1.2, List.map_map]
            congr 1
            have : ∀ r : List (List Nat), (∀ y ∈ r, y = sideText (readSide n y)) → r.map ((fun s => sideText s.key) ∘ fun y => sideOf (readSide n y)) = r := by
              intro r
              induction r with
              | nil => intro _; rfl
              | cons a r ih =>
                intro hr
                simp only [List.map_cons, Function.comp, key_sideOf]
                rw [← hr a (by simp)]
                congr 1
                have := ih fun y hy => hr y (by simp [hy])
                simpa only [Function.comp_def, key_sideOf] using this
            exact this r fun y hy => (pos y hy).2.2
          · simp only [convC, ek]
      · cases h
    · split at h
      · rename_i h1
        split at h
        · rename_i h2
          cases h
          match ws, h1 with
          | [a, b], h1 =>
            simp only [List.getD_cons_zero, List.getD_cons_succ] at h1 h2 ⊢
            obtain ⟨p1, p2, p3⟩ := readSide_pos h2
            refine ⟨.front (sideOf (readSide n a)), sideOf_leaf p1 p2, ?_, ?_⟩
            · simp only [wordsC, key_sideOf, ← p3, h1.2]
            · simp only [convC, key_sideOf]
        · cases h
      · split at h
        · rename_i h1
          match ws, h1 with
          | [a, b, c], _ => exact three_sound hn h
        · cases h
private theorem words_head {n : Nat} (hn : n ≤ 16) {k : Core} (hk : k.ok n = true) : (wordsC k).getD 0 [] ≠ [33] := by
  cases k with
  | next s t | faces s t | front s => exact side_ne _
  | sheet l m | before l m | together l m =>
    simp only [Core.ok, Bool.and_eq_true] at hk
    have := Par.leaf_bound hk.1
    exact num_ne (by omega) _ (by omega)
  | alone l =>
    have := Par.leaf_bound hk
    exact num_ne (by omega) _ (by omega)
  | hole l => simp [wordsC]
  | hair l => simp [wordsC]
private theorem finding_complete {n : Nat} (hn : n ≤ 16) {f : Finding} (hk : f.core.ok n = true) : readFinding n (tn f.text) = some (conv f) := by
  obtain ⟨no, k⟩ := f
  have e1 : spl 32 (tn k.text) = wordsC k := by
    rw [← join_words hn hk]
    exact spl_join 32 _ (wordsC_ne k) (words_no hn (by decide) (Or.inl rfl) hk)
  cases no with
  | false =>
    unfold readFinding Finding.text
    simp only [Bool.false_eq_true, if_false, List.nil_append, e1]
    rw [decide_eq_true (words_head hn hk)]
    simp only [if_true, plain_complete hn hk]
    rfl
  | true =>
    have e2 : spl 32 (tn (([33, 32] : List UInt8) ++ k.text)) = [33] :: wordsC k := by
      rw [← e1]
      exact spl_app 32 [33] (tn k.text) (by decide)
    unfold readFinding Finding.text
    simp only [if_true, e2, List.getD_cons_zero, ne_eq, not_true, decide_false, Bool.false_eq_true, if_false, List.drop_one, List.tail_cons, plain_complete hn hk]
    rfl
private theorem finding_sound {n : Nat} (hn : n ≤ 16) {line : List Nat} {x : MF} (h : readFinding n line = some x) : ∃ f : Finding, f.core.ok n = true ∧ line = tn f.text ∧ x = conv f := by
  unfold readFinding at h
  simp only at h
  have ne := spl_ne 32 line
  have ej := join_spl 32 line
  by_cases hp : (spl 32 line).getD 0 [] = [33]
  · rw [decide_eq_false (by simpa using hp)] at h
    simp only [Bool.false_eq_true, if_false] at h
    cases e : readPlain n ((spl 32 line).drop 1) with
    | none => rw [e] at h; cases h
    | some y =>
      rw [e] at h
      cases h
      obtain ⟨k, hk, ew, ec⟩ := plain_sound hn e
      refine ⟨⟨true, k⟩, hk, ?_, ?_⟩
      · match es : spl 32 line, ne with
        | w :: r, _ =>
          rw [es] at hp ew ej
          simp only [List.getD_cons_zero, List.drop_one, List.tail_cons] at hp ew
          subst hp
          subst ew
          rw [← ej]
          cases ew2 : wordsC k with
          | nil => exact absurd ew2 (wordsC_ne k)
          | cons v r =>
            show [33] ++ 32 :: joinW 32 (v :: r) = _
            rw [← ew2, join_words hn hk]
            rfl
      · simp only [conv, ec]
        rfl
  · rw [decide_eq_true hp] at h
    simp only [if_true] at h
    cases e : readPlain n (spl 32 line) with
    | none => rw [e] at h; cases h
    | some y =>
      rw [e] at h
      cases h
      obtain ⟨k, hk, ew, ec⟩ := plain_sound hn e
      refine ⟨⟨false, k⟩, hk, ?_, ?_⟩
      · rw [← ej, ← ew, join_words hn hk]
        rfl
      · simp only [conv, ec]
        rfl
private theorem all_complete {n : Nat} (hn : n ≤ 16) : ∀ l : List Finding, (l.all fun f => f.core.ok n) = true → readAll n (l.map fun f => tn f.text) = some (l.map conv)
  | [], _ => rfl
  | f :: r, h => by
    simp only [List.all_cons, Bool.and_eq_true] at h
    simp only [List.map_cons, readAll, finding_complete hn h.1, all_complete hn r h.2]
    rfl
private theorem all_sound {n : Nat} (hn : n ≤ 16) : ∀ (ls : List (List Nat)) (fs : List MF), readAll n ls = some fs → ∃ l : List Finding, (l.all fun f => f.core.ok n) = true ∧ ls = l.map (fun f => tn f.text) ∧ fs = l.map conv
  | [], fs, h => by
    cases h
    exact ⟨[], rfl, rfl, rfl⟩
  | a :: r, fs, h => by
    unfold readAll at h
    split at h
    · cases h
    · rename_i f e
      obtain ⟨g, hg, e1, e2⟩ := finding_sound hn e
      cases e3 : readAll n r with
      | none => rw [e3] at h; cases h
      | some gs =>
        rw [e3] at h
        cases h
        obtain ⟨l, hl, e4, e5⟩ := all_sound hn r gs e3
        exact ⟨g :: l, by simp only [List.all_cons, hg, hl, Bool.and_self], by rw [List.map_cons, ← e1, ← e4], by rw [List.map_cons, ← e2, ← e5]⟩
noncomputable def linesOf (F : Findings) : List (List Nat) := numText F.n :: (F.l.map (fun f => tn f.text) ++ [[]])
private theorem lines_text {F : Findings} (h : F.n < 100) : joinW 10 (linesOf F) = tn F.text := by
  unfold linesOf Findings.text
  rw [join_cons, tn_append, tn_dec h, tn_cons]
  congr 1
  have : ∀ l : List Finding, ((l.map (fun (f : Finding) => tn f.text) ++ [[]]).flatMap fun v => 10 :: v) = 10 :: tn (l.flatMap fun (f : Finding) => f.text ++ [10]) := by
    intro l
    induction l with
    | nil => rfl
    | cons a r ih =>
      simp only [List.map_cons, List.cons_append, List.flatMap_cons, ih, tn_append, tn_cons]
      simp [tn]
  exact this F.l
private theorem ftext_no {n : Nat} (hn : n ≤ 16) {f : Finding} (h : f.core.ok n = true) : 10 ∉ tn f.text := by
  have e := words_no hn (m := 10) (by decide) (Or.inr rfl) h
  have j := join_words hn h
  have : 10 ∉ tn f.core.text := by
    rw [← j]
    have : ∀ ws : List (List Nat), (∀ w ∈ ws, 10 ∉ w) → 10 ∉ joinW 32 ws := by
      intro ws
      induction ws with
      | nil => intro _; simp [joinW]
      | cons w r ih =>
        intro hw
        cases r with
        | nil => exact hw w (by simp)
        | cons v r =>
          show 10 ∉ w ++ 32 :: joinW 32 (v :: r)
          simp only [List.mem_append, List.mem_cons, not_or]
          exact ⟨hw w (by simp), by decide, ih fun x hx => hw x (by simp only [List.mem_cons] at hx ⊢; exact Or.inr hx)⟩
    exact this _ e
  unfold Finding.text
  rw [tn_append]
  simp only [List.mem_append, not_or]
  refine ⟨?_, this⟩
  split <;> decide
private theorem read_complete {F : Findings} (h : F.ok = true) : readFindings (tn F.text) = some (F.n, F.l.map conv) := by
  unfold Findings.ok LEAVES FINDINGS at h
  simp only [Bool.and_eq_true, decide_eq_true_eq] at h
  obtain ⟨h1, h2, h3, h4⟩ := h
  have e1 : spl 10 (tn F.text) = linesOf F := by
    rw [← lines_text (by omega)]
    refine spl_join 10 _ (by simp [linesOf]) fun w hw => ?_
    unfold linesOf at hw
    simp only [List.mem_cons, List.mem_append, List.mem_map, List.not_mem_nil, or_false] at hw
    rcases hw with rfl | ⟨f, hf, rfl⟩ | rfl
    · exact num_no (Or.inl (by decide)) (by omega)
    · exact ftext_no h2 (List.all_eq_true.mp h4 f hf)
    · simp
  unfold readFindings
  simp only [e1]
  rw [if_neg]
  · simp only [linesOf, List.getD_cons_zero, List.drop_one, List.tail_cons, List.dropLast_concat, readNumber_of h1 h2 (Nat.le_refl 16)]
    rw [if_neg (by omega), all_complete h2 F.l h4]
    rfl
  · simp only [linesOf, not_or, List.length_cons, List.length_append, List.length_map, List.length_nil]
    refine ⟨?_, by omega⟩
    rw [← List.cons_append]
    simp only [Decidable.not_not, ne_eq, List.getLast?_concat]
private theorem read_sound {t : List Nat} {n : Nat} {fs : List MF} (h : readFindings t = some (n, fs)) : ∃ F : Findings, F.ok = true ∧ t = tn F.text ∧ F.n = n ∧ F.l.map conv = fs := by
  unfold readFindings at h
  simp only at h
  have ne := spl_ne 10 t
  have ej := join_spl 10 t
  split at h
  · cases h
  · rename_i h1
    simp only [not_or, Nat.not_lt, ne_eq, Decidable.not_not] at h1
    split at h
    · cases h
    · rename_i h2
      obtain ⟨p1, p2, p3⟩ := readNumber_pos h2
      cases e : readAll (readNumber 16 ((spl 10 t).getD 0 [])) ((spl 10 t).drop 1).dropLast with
      | none => rw [e] at h; cases h
      | some gs =>
        rw [e] at h
        cases h
        obtain ⟨l, hl, e1, e2⟩ := all_sound p2 _ _ e
        match es : spl 10 t, ne with
        | w :: r, _ =>
          rw [es] at h1 p1 p2 p3 ej e1 hl
          simp only [List.getD_cons_zero, List.drop_one, List.tail_cons, List.length_cons] at h1 p1 p2 p3 e1 hl ⊢
          have hr : r ≠ [] := by
            intro z
            subst z
            simp only [List.getLast?_singleton, Option.some.injEq] at h1
            have h11 := h1.1
            subst h11
            unfold numText at p3
            split at p3 <;> cases p3
          have er : r = r.dropLast ++ [[]] := by
            have h11 := h1.1
            have h12 := List.getLast?_eq_some_getLast hr
            rw [List.getLast?_cons, h12] at h11
            simp only [Option.getD_some, Option.some.injEq] at h11
            have := (List.dropLast_concat_getLast hr).symm
            rw [h11] at this
            exact this
          have len : l.length ≤ 64 := by
            have a1 := congrArg List.length e1
            simp only [List.length_dropLast, List.length_map] at a1
            omega
          refine ⟨⟨readNumber 16 w, l⟩, ?_, ?_, rfl, e2.symm⟩
          · unfold Findings.ok LEAVES FINDINGS
            simp only [hl, Bool.and_true, Bool.and_eq_true, decide_eq_true_eq]
            exact ⟨p1, p2, len⟩
          · rw [← lines_text (by simp only; omega), ← ej]
            unfold linesOf
            simp only
            rw [← e1, ← er, ← p3]
private theorem read_same (t : List UInt8) : (∃ F, QuireSeen.readFindings t = .ok F ∧ F.ok = true ∧ readFindings (tn t) = some (F.n, F.l.map conv)) ∨ ((∃ e, QuireSeen.readFindings t = .error e) ∧ readFindings (tn t) = none) := by
  cases e : QuireSeen.readFindings t with
  | ok F =>
    obtain ⟨e1, ok⟩ := Par.read_sound e
    refine Or.inl ⟨F, rfl, ok, ?_⟩
    rw [e1]
    exact read_complete ok
  | error p =>
    refine Or.inr ⟨⟨p, rfl⟩, ?_⟩
    cases e2 : readFindings (tn t) with
    | none => rfl
    | some x =>
      obtain ⟨n, fs⟩ := x
      obtain ⟨F, ok, e3, _⟩ := read_sound e2
      have := tn_inj e3
      subst this
      rw [Par.read_complete ok] at e
      cases e
private theorem finding_same {n : Nat} (hn : n ≤ 16) (t : List UInt8) : (∃ f, QuireBack.readFinding n t = some f ∧ f.core.ok n = true ∧ readFinding n (tn t) = some (conv f)) ∨ (QuireBack.readFinding n t = none ∧ (readFinding n (tn t) = none ∨ 10 ∈ t)) := by
  unfold QuireBack.readFinding
  cases e : findingAt n 0 (t ++ [10]) with
  | ok x =>
    obtain ⟨f, q, u⟩ := x
    obtain ⟨e1, hk⟩ := Par.findingAt_sound e
    cases u with
    | nil =>
      have := List.append_inj_left' e1 rfl
      subst this
      exact Or.inl ⟨f, rfl, hk, finding_complete hn hk⟩
    | cons a v =>
      refine Or.inr ⟨rfl, Or.inr ?_⟩
      have : t = f.text ++ 10 :: (a :: v).dropLast := by
        have e3 : f.text ++ 10 :: a :: v = (f.text ++ 10 :: (a :: v).dropLast) ++ [(a :: v).getLast (by simp)] := by
          rw [List.append_assoc, List.cons_append, List.dropLast_concat_getLast]
        rw [e3] at e1
        exact List.append_inj_left' e1 rfl
      rw [this]
      simp
  | error p =>
    refine Or.inr ⟨rfl, ?_⟩
    cases e2 : readFinding n (tn t) with
    | none => exact Or.inl rfl
    | some x =>
      obtain ⟨f, hk, e3, _⟩ := finding_sound hn e2
      have := tn_inj e3
      subst this
      obtain ⟨q, e4⟩ := Par.findingAt_complete (p := 0) (u := []) hn hk
      rw [e4] at e
      cases e
end M
end
section
namespace M
noncomputable abbrev Leaf := Bool × Nat × Nat
noncomputable abbrev PBook := List Leaf
noncomputable def used (b : PBook) : List Nat := b.map fun x => x.2.1 / 2
noncomputable def freeFronts (n : Nat) (b : PBook) : List Nat := ((List.range (2 * n)).map (· + 2)).filter fun s => !(used b).contains (s / 2)
noncomputable def signsOf (b : PBook) : List Nat := b.map fun x => x.2.2
noncomputable def depth (b : PBook) : Nat := (signsOf b).count 40 - (signsOf b).count 41
noncomputable def nextWays (n : Nat) (b : PBook) : List (Bool × List Nat) :=
  let d := depth b
  let left := n - b.length
  let opening := if d + 2 ≤ left then [40] else []
  let alone := if d + 1 ≤ left then [124] else []
  let closing := if 0 < d then [41] else []
  (if b = [] then [] else [(false, opening)]) ++ ((if d = 0 then [(true, opening), (true, alone)] else []) ++ (if b = [] then [] else [(false, alone ++ closing)]))
noncomputable def leavesOf (ws : List (Bool × List Nat)) (fs : List Nat) : List Leaf := ws.flatMap fun w => fs.flatMap fun f => w.2.map fun s => (w.1, f, s)
noncomputable def nextLeaves (n : Nat) (b : PBook) : List Leaf := leavesOf (nextWays n b) (freeFronts n b)
noncomputable def under (n : Nat) : Nat → PBook → List PBook
  | 0, b => [b]
  | f + 1, b => (nextLeaves n b).flatMap fun x => under n f (b ++ [x])
noncomputable def sepOf (t : List Nat) (x : Leaf) : List Nat := if t = [] then [] else if x.1 = true then [32, 47, 32] else [32]
noncomputable def leafText (x : Leaf) : List Nat := (if x.2.2 = 40 then [40] else []) ++ (sideText x.2.1 ++ (if x.2.2 = 41 then [41] else []))
noncomputable def bookText : List Nat → PBook → List Nat
  | t, [] => t
  | t, x :: r => bookText (t ++ (sepOf t x ++ leafText x)) r
noncomputable def ltText : List Nat → List Nat → Bool
  | [], _ :: _ => true
  | _, [] => false
  | a :: r, b :: s => Nat.blt a b || (Nat.beq a b && ltText r s)
noncomputable def sortedT : List (List Nat) → Bool
  | a :: b :: r => ltText a b && sortedT (b :: r)
  | _ => true
private theorem sort1 : sortedT ((under 1 1 []).map (bookText [])) = true := by decide +kernel
private theorem sort2 : sortedT ((under 2 2 []).map (bookText [])) = true := by decide +kernel
private theorem sort3 : sortedT ((under 3 3 []).map (bookText [])) = true := by decide +kernel
private theorem len1 : (under 1 1 []).length = (QuireBack.booksOf 1).length := by decide +kernel
private theorem len2 : (under 2 2 []).length = (QuireBack.booksOf 2).length := by decide +kernel
private theorem len3 : (under 3 3 []).length = (QuireBack.booksOf 3).length := by decide +kernel
end M
end
section
namespace M
private theorem sortedT_glue : ∀ {L R : List (List Nat)} {a h : List Nat}, sortedT (a :: L) = true → L.getLast? = some h → sortedT (h :: R) = true → sortedT (a :: (L ++ R)) = true
  | [], _, _, _, _, e, _ => by cases e
  | [b], R, a, h, h1, e, h2 => by
    have e : b = h := Option.some.inj e
    subst e
    simp only [sortedT, Bool.and_eq_true] at h1
    show (ltText a b && sortedT (b :: R)) = true
    rw [h1.1, h2]
    rfl
  | b :: c :: L, R, a, h, h1, e, h2 => by
    have h1' : (ltText a b && sortedT (b :: c :: L)) = true := h1
    rw [Bool.and_eq_true] at h1'
    have e' : (c :: L).getLast? = some h := by
      rw [List.getLast?_cons_cons] at e
      exact e
    have ih := sortedT_glue (L := c :: L) (R := R) (a := b) h1'.2 e' h2
    show (ltText a b && sortedT (b :: (c :: L ++ R))) = true
    rw [h1'.1, ih]
    rfl
private theorem sorted_tail {a : List Nat} : ∀ {l : List (List Nat)}, sortedT (a :: l) = true → sortedT l = true
  | [], _ => rfl
  | b :: r, h => by
    have h' : (ltText a b && sortedT (b :: r)) = true := h
    rw [Bool.and_eq_true] at h'
    exact h'.2
noncomputable def chk4 (lo hi : List Nat) (k : Nat) (L : List (List Nat)) : Bool := sortedT (lo :: L) && (Nat.beq L.length k && decide (L.getLast? = some hi))
private theorem pc0 : chk4 [] [40, 49, 97, 32, 52, 98, 41, 32, 51, 98, 32, 50, 98] 480 ((under 4 3 [(true, 2, 40)]).map (bookText [])) = true := by decide +kernel
private theorem pc1 : chk4 [40, 49, 97, 32, 52, 98, 41, 32, 51, 98, 32, 50, 98] [40, 49, 98, 32, 52, 98, 41, 32, 51, 98, 32, 50, 98] 480 ((under 4 3 [(true, 3, 40)]).map (bookText [])) = true := by decide +kernel
private theorem pc2 : chk4 [40, 49, 98, 32, 52, 98, 41, 32, 51, 98, 32, 50, 98] [40, 50, 97, 32, 52, 98, 41, 32, 51, 98, 32, 49, 98] 480 ((under 4 3 [(true, 4, 40)]).map (bookText [])) = true := by decide +kernel
private theorem pc3 : chk4 [40, 50, 97, 32, 52, 98, 41, 32, 51, 98, 32, 49, 98] [40, 50, 98, 32, 52, 98, 41, 32, 51, 98, 32, 49, 98] 480 ((under 4 3 [(true, 5, 40)]).map (bookText [])) = true := by decide +kernel
private theorem pc4 : chk4 [40, 50, 98, 32, 52, 98, 41, 32, 51, 98, 32, 49, 98] [40, 51, 97, 32, 52, 98, 41, 32, 50, 98, 32, 49, 98] 480 ((under 4 3 [(true, 6, 40)]).map (bookText [])) = true := by decide +kernel
private theorem pc5 : chk4 [40, 51, 97, 32, 52, 98, 41, 32, 50, 98, 32, 49, 98] [40, 51, 98, 32, 52, 98, 41, 32, 50, 98, 32, 49, 98] 480 ((under 4 3 [(true, 7, 40)]).map (bookText [])) = true := by decide +kernel
private theorem pc6 : chk4 [40, 51, 98, 32, 52, 98, 41, 32, 50, 98, 32, 49, 98] [40, 52, 97, 32, 51, 98, 41, 32, 50, 98, 32, 49, 98] 480 ((under 4 3 [(true, 8, 40)]).map (bookText [])) = true := by decide +kernel
private theorem pc7 : chk4 [40, 52, 97, 32, 51, 98, 41, 32, 50, 98, 32, 49, 98] [40, 52, 98, 32, 51, 98, 41, 32, 50, 98, 32, 49, 98] 480 ((under 4 3 [(true, 9, 40)]).map (bookText [])) = true := by decide +kernel
private theorem pc8 : chk4 [40, 52, 98, 32, 51, 98, 41, 32, 50, 98, 32, 49, 98] [49, 97, 32, 52, 98, 32, 51, 98, 32, 50, 98] 864 ((under 4 3 [(true, 2, 124)]).map (bookText [])) = true := by decide +kernel
private theorem pc9 : chk4 [49, 97, 32, 52, 98, 32, 51, 98, 32, 50, 98] [49, 98, 32, 52, 98, 32, 51, 98, 32, 50, 98] 864 ((under 4 3 [(true, 3, 124)]).map (bookText [])) = true := by decide +kernel
private theorem pc10 : chk4 [49, 98, 32, 52, 98, 32, 51, 98, 32, 50, 98] [50, 97, 32, 52, 98, 32, 51, 98, 32, 49, 98] 864 ((under 4 3 [(true, 4, 124)]).map (bookText [])) = true := by decide +kernel
private theorem pc11 : chk4 [50, 97, 32, 52, 98, 32, 51, 98, 32, 49, 98] [50, 98, 32, 52, 98, 32, 51, 98, 32, 49, 98] 864 ((under 4 3 [(true, 5, 124)]).map (bookText [])) = true := by decide +kernel
private theorem pc12 : chk4 [50, 98, 32, 52, 98, 32, 51, 98, 32, 49, 98] [51, 97, 32, 52, 98, 32, 50, 98, 32, 49, 98] 864 ((under 4 3 [(true, 6, 124)]).map (bookText [])) = true := by decide +kernel
private theorem pc13 : chk4 [51, 97, 32, 52, 98, 32, 50, 98, 32, 49, 98] [51, 98, 32, 52, 98, 32, 50, 98, 32, 49, 98] 864 ((under 4 3 [(true, 7, 124)]).map (bookText [])) = true := by decide +kernel
private theorem pc14 : chk4 [51, 98, 32, 52, 98, 32, 50, 98, 32, 49, 98] [52, 97, 32, 51, 98, 32, 50, 98, 32, 49, 98] 864 ((under 4 3 [(true, 8, 124)]).map (bookText [])) = true := by decide +kernel
private theorem pc15 : chk4 [52, 97, 32, 51, 98, 32, 50, 98, 32, 49, 98] [52, 98, 32, 51, 98, 32, 50, 98, 32, 49, 98] 864 ((under 4 3 [(true, 9, 124)]).map (bookText [])) = true := by decide +kernel
private theorem next4 : nextLeaves 4 [] = [(true, 2, 40), (true, 3, 40), (true, 4, 40), (true, 5, 40), (true, 6, 40), (true, 7, 40), (true, 8, 40), (true, 9, 40), (true, 2, 124), (true, 3, 124), (true, 4, 124), (true, 5, 124), (true, 6, 124), (true, 7, 124), (true, 8, 124), (true, 9, 124)] := by decide +kernel
private theorem chk4_of {lo hi : List Nat} {k : Nat} {L : List (List Nat)} (h : chk4 lo hi k L = true) : sortedT (lo :: L) = true ∧ L.length = k ∧ L.getLast? = some hi := by
  unfold chk4 at h
  simp only [Bool.and_eq_true, decide_eq_true_eq] at h
  exact ⟨h.1, Nat.eq_of_beq_eq_true h.2.1, h.2.2⟩
private theorem under4 : (under 4 4 []).map (bookText []) = (under 4 3 [(true, 2, 40)]).map (bookText []) ++ ((under 4 3 [(true, 3, 40)]).map (bookText []) ++ ((under 4 3 [(true, 4, 40)]).map (bookText []) ++ ((under 4 3 [(true, 5, 40)]).map (bookText []) ++ ((under 4 3 [(true, 6, 40)]).map (bookText []) ++ ((under 4 3 [(true, 7, 40)]).map (bookText []) ++ ((under 4 3 [(true, 8, 40)]).map (bookText []) ++ ((under 4 3 [(true, 9, 40)]).map (bookText []) ++ ((under 4 3 [(true, 2, 124)]).map (bookText []) ++ ((under 4 3 [(true, 3, 124)]).map (bookText []) ++ ((under 4 3 [(true, 4, 124)]).map (bookText []) ++ ((under 4 3 [(true, 5, 124)]).map (bookText []) ++ ((under 4 3 [(true, 6, 124)]).map (bookText []) ++ ((under 4 3 [(true, 7, 124)]).map (bookText []) ++ ((under 4 3 [(true, 8, 124)]).map (bookText []) ++ ((under 4 3 [(true, 9, 124)]).map (bookText [])))))))))))))))) := by
  show ((nextLeaves 4 []).flatMap fun x => under 4 3 ([] ++ [x])).map (bookText []) = _
  rw [next4]
  simp only [List.flatMap_cons, List.flatMap_nil, List.map_append, List.nil_append, List.append_nil]
private theorem sort4 : sortedT ((under 4 4 []).map (bookText [])) = true := by
  rw [under4]
  have s15 := (chk4_of pc15).1
  have s14 := sortedT_glue (chk4_of pc14).1 (chk4_of pc14).2.2 s15
  have s13 := sortedT_glue (chk4_of pc13).1 (chk4_of pc13).2.2 s14
  have s12 := sortedT_glue (chk4_of pc12).1 (chk4_of pc12).2.2 s13
  have s11 := sortedT_glue (chk4_of pc11).1 (chk4_of pc11).2.2 s12
  have s10 := sortedT_glue (chk4_of pc10).1 (chk4_of pc10).2.2 s11
  have s9 := sortedT_glue (chk4_of pc9).1 (chk4_of pc9).2.2 s10
  have s8 := sortedT_glue (chk4_of pc8).1 (chk4_of pc8).2.2 s9
  have s7 := sortedT_glue (chk4_of pc7).1 (chk4_of pc7).2.2 s8
  have s6 := sortedT_glue (chk4_of pc6).1 (chk4_of pc6).2.2 s7
  have s5 := sortedT_glue (chk4_of pc5).1 (chk4_of pc5).2.2 s6
  have s4 := sortedT_glue (chk4_of pc4).1 (chk4_of pc4).2.2 s5
  have s3 := sortedT_glue (chk4_of pc3).1 (chk4_of pc3).2.2 s4
  have s2 := sortedT_glue (chk4_of pc2).1 (chk4_of pc2).2.2 s3
  have s1 := sortedT_glue (chk4_of pc1).1 (chk4_of pc1).2.2 s2
  have s0 := sortedT_glue (chk4_of pc0).1 (chk4_of pc0).2.2 s1
  exact sorted_tail s0
private theorem len4 : (under 4 4 []).length = (QuireBack.booksOf 4).length := by
  have e : ((under 4 4 []).map (bookText [])).length = 10752 := by
    rw [under4]
    simp only [List.length_append, (chk4_of pc0).2.1, (chk4_of pc1).2.1, (chk4_of pc2).2.1, (chk4_of pc3).2.1, (chk4_of pc4).2.1, (chk4_of pc5).2.1, (chk4_of pc6).2.1, (chk4_of pc7).2.1, (chk4_of pc8).2.1, (chk4_of pc9).2.1, (chk4_of pc10).2.1, (chk4_of pc11).2.1, (chk4_of pc12).2.1, (chk4_of pc13).2.1, (chk4_of pc14).2.1, (chk4_of pc15).2.1]
  rw [List.length_map] at e
  rw [e]
  decide +kernel
end M
end
section
namespace M
open QuireSeen
noncomputable def begun : PBook → Bool
  | y :: _ => y.1
  | [] => true
noncomputable def groups : PBook → List PBook
  | [] => []
  | x :: r => match groups r with
    | [] => [[x]]
    | g :: gs => if begun g = true then [x] :: g :: gs else (x :: g) :: gs
private theorem groups_flat : ∀ b, (groups b).flatten = b
  | [] => rfl
  | x :: r => by
    have ih := groups_flat r
    unfold groups
    cases e : groups r with
    | nil => rw [e] at ih; simp at ih ⊢; exact ih
    | cons g gs =>
      rw [e] at ih
      simp only
      split
      · simp only [List.flatten_cons] at ih ⊢; rw [← ih]; rfl
      · simp only [List.flatten_cons] at ih ⊢; rw [← ih]; rfl
private theorem groups_ne : ∀ b, ∀ g ∈ groups b, g ≠ []
  | [], g, h => by cases h
  | x :: r, g, h => by
    have ih := groups_ne r
    unfold groups at h
    cases e : groups r with
    | nil => rw [e] at h; simp at h; simp [h]
    | cons g' gs =>
      rw [e] at h ih
      simp only at h
      split at h
      · simp only [List.mem_cons] at h
        rcases h with h | h | h
        · simp [h]
        · exact ih g (by simp [h])
        · exact ih g (by simp [h])
      · simp only [List.mem_cons] at h
        rcases h with h | h
        · simp [h]
        · exact ih g (by simp [h])
noncomputable def sg (s : Nat) : Quire.Sign := if s = 40 then .opens else if s = 41 then .closes else .alone
noncomputable def lie (x : Leaf) : Lies := ⟨x.2.1 / 2, x.2.1 % 2 == 1, sg x.2.2⟩
noncomputable def bk (b : PBook) : Book := (groups b).map fun g => g.map lie
private theorem bk_leaves (b : PBook) : (bk b).leaves = b.map lie := by
  unfold bk Book.leaves
  rw [← List.map_flatten, groups_flat]
noncomputable def walk : Nat → PBook → Option Nat
  | d, [] => some d
  | d, x :: r => if x.1 = true ∧ d ≠ 0 then none else if x.2.2 = 40 then walk (d + 1) r else if x.2.2 = 41 then (match d with | 0 => none | e + 1 => walk e r) else walk d r
private theorem walk_snoc : ∀ (b : PBook) (d : Nat) (x : Leaf), walk d (b ++ [x]) = (walk d b).bind fun e => walk e [x]
  | [], d, x => rfl
  | y :: r, d, x => by
    show walk d (y :: (r ++ [x])) = (walk d (y :: r)).bind _
    unfold walk
    split
    · rfl
    · split
      · exact walk_snoc r _ x
      · split
        · cases d with
          | zero => rfl
          | succ e => exact walk_snoc r _ x
        · exact walk_snoc r _ x
structure Pre (n : Nat) (b : PBook) : Prop where
  front : ∀ x ∈ b, 2 ≤ x.2.1 ∧ x.2.1 < 2 * n + 2
  sign : ∀ x ∈ b, x.2.2 = 40 ∨ x.2.2 = 41 ∨ x.2.2 = 124
  nd : (used b).Nodup
  walk : walk 0 b = some (depth b)
  le : (signsOf b).count 41 ≤ (signsOf b).count 40
  head : ∀ x r, b = x :: r → x.1 = true
  len : b.length + depth b ≤ n
private theorem Pre.nil (n : Nat) : Pre n [] := ⟨(fun _ h => nomatch h), (fun _ h => nomatch h), by simp [used], rfl, by simp [signsOf], (fun _ _ h => nomatch h), by simp [depth, signsOf]⟩
private theorem signs_snoc (b : PBook) (x : Leaf) : signsOf (b ++ [x]) = signsOf b ++ [x.2.2] := by simp [signsOf]
private theorem mem_next {n : Nat} {b : PBook} {x : Leaf} : x ∈ nextLeaves n b ↔ x.2.1 ∈ freeFronts n b ∧ ∃ w ∈ nextWays n b, x.1 = w.1 ∧ x.2.2 ∈ w.2 := by
  unfold nextLeaves leavesOf
  simp only [List.mem_flatMap, List.mem_map]
  constructor
  · rintro ⟨w, hw, f, hf, s, hs, rfl⟩
    exact ⟨hf, w, hw, rfl, hs⟩
  · rintro ⟨hf, w, hw, e, hs⟩
    exact ⟨w, hw, _, hf, _, hs, by rw [← e]⟩
private theorem mem_ways {n : Nat} {b : PBook} {w : Bool × List Nat} {s : Nat} (hw : w ∈ nextWays n b) (hs : s ∈ w.2) :
    (w.1 = true → depth b = 0) ∧ (w.1 = false → b ≠ []) ∧ ((s = 40 ∧ depth b + 2 ≤ n - b.length) ∨ (s = 124 ∧ depth b + 1 ≤ n - b.length) ∨ (s = 41 ∧ 0 < depth b ∧ w.1 = false)) := by
  unfold nextWays at hw
  simp only [List.mem_append] at hw
  rcases hw with hw | hw | hw
  · split at hw
    · cases hw
    · rename_i hb
      simp only [List.mem_singleton] at hw
      subst hw
      simp only at hs
      split at hs
      · simp only [List.mem_singleton] at hs
        exact ⟨nofun, fun _ => hb, Or.inl ⟨hs, by assumption⟩⟩
      · cases hs
  · split at hw
    · rename_i hd
      simp only [List.mem_cons, List.not_mem_nil, or_false] at hw
      rcases hw with rfl | rfl
      · simp only at hs
        split at hs
        · simp only [List.mem_singleton] at hs
          exact ⟨fun _ => hd, nofun, Or.inl ⟨hs, by assumption⟩⟩
        · cases hs
      · simp only at hs
        split at hs
        · simp only [List.mem_singleton] at hs
          exact ⟨fun _ => hd, nofun, Or.inr (Or.inl ⟨hs, by assumption⟩)⟩
        · cases hs
    · cases hw
  · split at hw
    · cases hw
    · rename_i hb
      simp only [List.mem_singleton] at hw
      subst hw
      simp only [List.mem_append] at hs
      rcases hs with hs | hs
      · split at hs
        · simp only [List.mem_singleton] at hs
          exact ⟨nofun, fun _ => hb, Or.inr (Or.inl ⟨hs, by assumption⟩)⟩
        · cases hs
      · split at hs
        · simp only [List.mem_singleton] at hs
          exact ⟨nofun, fun _ => hb, Or.inr (Or.inr ⟨hs, by assumption, rfl⟩)⟩
        · cases hs
private theorem mem_free {n : Nat} {b : PBook} {s : Nat} : s ∈ freeFronts n b ↔ (2 ≤ s ∧ s < 2 * n + 2) ∧ s / 2 ∉ used b := by
  unfold freeFronts
  simp only [List.mem_filter, List.mem_map, List.mem_range, Bool.not_eq_true', List.contains_eq_mem, decide_eq_false_iff_not]
  constructor
  · rintro ⟨⟨z, hz, rfl⟩, h⟩
    exact ⟨by omega, h⟩
  · rintro ⟨h1, h2⟩
    exact ⟨⟨s - 2, by omega, by omega⟩, h2⟩
private theorem Pre.snoc {n : Nat} {b : PBook} {x : Leaf} (h : Pre n b) (hx : x ∈ nextLeaves n b) : Pre n (b ++ [x]) := by
  obtain ⟨hf, w, hw, e1, hs⟩ := mem_next.mp hx
  obtain ⟨h1, h2, h3⟩ := mem_ways hw hs
  obtain ⟨f1, f2⟩ := mem_free.mp hf
  have ne : ¬ (x.1 = true ∧ depth b ≠ 0) := fun z => z.2 (h1 (by rw [← e1]; exact z.1))
  have len := h.len
  have le := h.le
  have hd : depth b = (signsOf b).count 40 - (signsOf b).count 41 := rfl
  refine ⟨?_, ?_, ?_, ?_, ?_, ?_, ?_⟩
  · intro y hy
    rcases List.mem_append.mp hy with hy | hy
    · exact h.front y hy
    · rw [List.mem_singleton.mp hy]; exact f1
  · intro y hy
    rcases List.mem_append.mp hy with hy | hy
    · exact h.sign y hy
    · rw [List.mem_singleton.mp hy]
      rcases h3 with h3 | h3 | h3
      · exact Or.inl h3.1
      · exact Or.inr (Or.inr h3.1)
      · exact Or.inr (Or.inl h3.1)
  · unfold used at f2 ⊢
    rw [List.map_append, List.nodup_append]
    refine ⟨h.nd, by simp, fun a ha c hc => ?_⟩
    simp only [List.map_cons, List.map_nil, List.mem_singleton] at hc
    subst hc
    intro e
    subst e
    exact f2 ha
  · rw [walk_snoc, h.walk]
    show M.walk (depth b) [x] = some (depth (b ++ [x]))
    unfold M.walk
    rw [if_neg ne]
    have hd2 : depth (b ++ [x]) = (signsOf b ++ [x.2.2]).count 40 - (signsOf b ++ [x.2.2]).count 41 := by unfold depth; rw [signs_snoc]
    rw [hd2]
    simp only [List.count_append, List.count_singleton, beq_iff_eq]
    rcases h3 with h3 | h3 | h3
    · rw [h3.1]; simp only [if_true, M.walk, show ¬ ((40 : Nat) = 41) by decide, if_false, Nat.add_zero]; congr 1; omega
    · rw [h3.1]; simp only [M.walk, show ¬ ((124 : Nat) = 41) by decide, show ¬ ((124 : Nat) = 40) by decide, if_false, Nat.add_zero]; rfl
    · rw [h3.1]
      obtain ⟨d, hd3⟩ : ∃ d, depth b = d + 1 := ⟨depth b - 1, by omega⟩
      rw [hd3]
      simp only [M.walk, show ¬ ((41 : Nat) = 40) by decide, if_true, if_false, Nat.add_zero]; congr 1; omega
  · rw [signs_snoc]
    simp only [List.count_append, List.count_singleton, beq_iff_eq]
    rcases h3 with h3 | h3 | h3
    · rw [h3.1]; simp only [show ¬ ((40 : Nat) = 41) by decide, if_true, if_false]; omega
    · rw [h3.1]; simp only [show ¬ ((124 : Nat) = 41) by decide, show ¬ ((124 : Nat) = 40) by decide, if_false]; omega
    · rw [h3.1]; simp only [show ¬ ((41 : Nat) = 40) by decide, if_true, if_false]; omega
  · intro y r e
    cases b with
    | nil =>
      cases e
      cases hw1 : w.1 with
      | true => rw [e1]; exact hw1
      | false => exact absurd rfl (h2 hw1)
    | cons z t =>
      cases e
      exact h.head _ _ rfl
  · have hd2 : depth (b ++ [x]) = (signsOf b ++ [x.2.2]).count 40 - (signsOf b ++ [x.2.2]).count 41 := by unfold depth; rw [signs_snoc]
    rw [hd2]
    simp only [List.count_append, List.count_singleton, beq_iff_eq, List.length_append, List.length_cons, List.length_nil]
    rcases h3 with h3 | h3 | h3
    · rw [h3.1]; simp only [show ¬ ((40 : Nat) = 41) by decide, if_true, if_false]; omega
    · rw [h3.1]; simp only [show ¬ ((124 : Nat) = 41) by decide, show ¬ ((124 : Nat) = 40) by decide, if_false]; omega
    · rw [h3.1]; simp only [show ¬ ((41 : Nat) = 40) by decide, if_true, if_false]; omega
private theorem under_pre {n : Nat} : ∀ (f : Nat) (b c : PBook), Pre n b → c ∈ under n f b → Pre n c ∧ c.length = b.length + f
  | 0, b, c, h, hc => by
    simp only [under, List.mem_singleton] at hc
    subst hc
    exact ⟨h, rfl⟩
  | f + 1, b, c, h, hc => by
    simp only [under, List.mem_flatMap] at hc
    obtain ⟨x, hx, hc⟩ := hc
    obtain ⟨h1, h2⟩ := under_pre f _ c (h.snoc hx) hc
    refine ⟨h1, ?_⟩
    rw [h2, List.length_append, List.length_singleton]
    omega
structure Whole (n : Nat) (b : PBook) : Prop where
  pre : Pre n b
  len : b.length = n
  dep : depth b = 0
private theorem whole_of {n : Nat} {b : PBook} (h : b ∈ under n n []) : Whole n b := by
  obtain ⟨h1, h2⟩ := under_pre n [] b (Pre.nil n) h
  simp only [List.length_nil, Nat.zero_add] at h2
  exact ⟨h1, h2, by have := h1.len; omega⟩
end M
end
section
namespace M
open QuireSeen QuireBack
private theorem perm_of {α : Type} [DecidableEq α] : ∀ {A B : List α}, A.Nodup → (∀ x ∈ A, x ∈ B) → B.length ≤ A.length → A.Perm B
  | [], B, _, _, h => by
    have : B = [] := List.length_eq_zero_iff.mp (by simpa using h)
    subst this
    exact List.Perm.refl _
  | x :: A, B, nd, hs, hl => by
    obtain ⟨h1, h2⟩ := List.nodup_cons.mp nd
    have hx : x ∈ B := hs x (by simp)
    have p := List.perm_cons_erase hx
    refine List.Perm.trans (List.Perm.cons x ?_) p.symm
    refine perm_of h2 (fun y hy => ?_) ?_
    · exact (List.mem_erase_of_ne (fun e => h1 (by rw [← e]; exact hy))).mpr (hs y (by simp [hy]))
    · have := List.length_erase_of_mem hx
      simp only [List.length_cons] at hl
      have := List.length_pos_of_mem hx
      omega
private theorem mem_picks {α : Type} [DecidableEq α] : ∀ {l : List α} {x : α}, x ∈ l → (x, l.erase x) ∈ picks l
  | y :: r, x, h => by
    unfold picks
    by_cases e : y = x
    · subst e
      simp
    · have : x ∈ r := by
        simp only [List.mem_cons] at h
        rcases h with h | h
        · exact absurd h.symm e
        · exact h
      rw [List.erase_cons_tail (by simpa using e)]
      exact List.mem_cons_of_mem _ (List.mem_map.mpr ⟨(x, r.erase x), mem_picks this, rfl⟩)
private theorem mem_orders {α : Type} [DecidableEq α] : ∀ (f : Nat) {l L : List α}, l.Perm L → L.length ≤ f → l ∈ orders f L
  | 0, l, L, p, h => by
    have : L = [] := List.length_eq_zero_iff.mp (by omega)
    subst this
    have := p.length_eq
    have : l = [] := List.length_eq_zero_iff.mp this
    subst this
    simp [orders]
  | f + 1, l, L, p, h => by
    unfold orders
    cases l with
    | nil =>
      have := p.length_eq
      have : L = [] := List.length_eq_zero_iff.mp this.symm
      subst this
      simp
    | cons x r =>
      have hx : x ∈ L := p.subset (by simp)
      have hne : L.isEmpty = false := by
        cases L with
        | nil => cases hx
        | cons _ _ => rfl
      rw [hne, if_neg Bool.false_ne_true]
      refine List.mem_flatMap.mpr ⟨(x, L.erase x), mem_picks hx, List.mem_map.mpr ⟨r, ?_, rfl⟩⟩
      refine mem_orders f ?_ ?_
      · exact List.Perm.cons_inv (p.trans (List.perm_cons_erase hx))
      · have := List.length_erase_of_mem hx
        show (L.erase x).length ≤ f
        omega
private theorem mem_sidesOf : ∀ (x : List (Nat × Bool)), x ∈ sidesOf (x.map (·.1))
  | [] => by simp [sidesOf]
  | (l, b) :: r => by
    simp only [List.map_cons, sidesOf]
    refine List.mem_flatMap.mpr ⟨r, mem_sidesOf r, ?_⟩
    cases b <;> simp
private theorem mem_rows : ∀ (w : Quire.Word), (∀ s ∈ w, s.leaf = true) → w ∈ rows w.length
  | [], _ => by simp [rows]
  | s :: r, h => by
    simp only [List.length_cons, rows]
    refine List.mem_flatMap.mpr ⟨r, mem_rows r (fun t ht => h t (by simp [ht])), ?_⟩
    have := h s (by simp)
    cases s <;> first | (exact absurd this (by decide)) | simp
private theorem mem_gatherings {w : Quire.Word} (h : ∀ s ∈ w, s.leaf = true) (hr : Quire.right w = true) : w ∈ gatherings w.length :=
  List.mem_filter.mpr ⟨mem_rows w h, hr⟩
private theorem mem_parted : ∀ (p : List Quire.Word) (f n : Nat), (∀ w ∈ p, w ≠ [] ∧ (∀ s ∈ w, s.leaf = true) ∧ Quire.right w = true) → p.flatten.length = n → n ≤ f → p ∈ parted f n
  | [], f, n, _, h, _ => by
    simp at h
    subst h
    cases f <;> simp [parted]
  | w :: p, f, n, hp, h, hf => by
    obtain ⟨h1, h2, h3⟩ := hp w (by simp)
    have hw : 0 < w.length := List.length_pos_iff.mpr h1
    rw [List.flatten_cons, List.length_append] at h
    cases f with
    | zero => omega
    | succ f =>
      unfold parted
      rw [if_neg (by omega)]
      refine List.mem_flatMap.mpr ⟨w.length - 1, List.mem_range.mpr (by omega), List.mem_flatMap.mpr ⟨w, ?_, List.mem_map.mpr ⟨p, ?_, rfl⟩⟩⟩
      · rw [show w.length - 1 + 1 = w.length by omega]
        exact mem_gatherings h2 h3
      · exact mem_parted p f _ (fun v hv => hp v (by simp [hv])) (by omega) (by omega)
noncomputable def lb (x : Lies) : Nat × Bool := (x.leaf, x.b)
private theorem zip_back : ∀ g : List Lies, ((g.map lb).zip (wordOf g)).map (fun (x : (Nat × Bool) × Quire.Sign) => (⟨x.1.1, x.1.2, x.2⟩ : Lies)) = g
  | [] => rfl
  | x :: r => by
    have := zip_back r
    unfold wordOf at this ⊢
    simp only [List.map_cons, List.zip_cons_cons, this]
    rfl
private theorem laid_back : ∀ B : Book, laid (B.map wordOf) (B.flatten.map lb) = B
  | [] => rfl
  | g :: B => by
    have e : (wordOf g).length = g.length := by simp [wordOf]
    simp only [List.map_cons, laid, List.flatten_cons, List.map_append, e]
    rw [List.take_append_of_le_length (by simp), List.drop_append_of_le_length (by simp)]
    rw [List.take_of_length_le (by simp), List.drop_of_length_le (by simp), List.nil_append, laid_back B, zip_back]
private theorem mem_books {n : Nat} {B : Book} (hp : (B.flatten.map (·.leaf)).Perm ((List.range n).map fun (i : Nat) => i + 1))
    (hw : ∀ w ∈ B.map wordOf, w ≠ [] ∧ (∀ s ∈ w, s.leaf = true) ∧ Quire.right w = true) : B ∈ booksOf n := by
  unfold booksOf
  have hl : B.flatten.length = n := by
    have := hp.length_eq
    rw [List.length_map, List.length_map, List.length_range] at this
    exact this
  refine List.mem_flatMap.mpr ⟨_, mem_orders n hp (by simp), List.mem_flatMap.mpr ⟨B.flatten.map lb, ?_, List.mem_map.mpr ⟨B.map wordOf, ?_, laid_back B⟩⟩⟩
  · have := mem_sidesOf (B.flatten.map lb)
    rw [List.map_map] at this
    exact this
  · refine mem_parted _ n n hw ?_ (Nat.le_refl _)
    rw [← hl]
    clear hp hw hl
    induction B with
    | nil => rfl
    | cons g B ih =>
      simp only [List.map_cons, List.flatten_cons, List.length_append, ih]
      simp [wordOf]
private theorem scan_alone {st : List Quire.Sign} {r : Quire.Word} : Quire.scan st (.alone :: r) = Quire.scan st r := by simp [Quire.scan]
private theorem scan_opens {st : List Quire.Sign} {r : Quire.Word} : Quire.scan st (.opens :: r) = Quire.scan (.opens :: st) r := by simp [Quire.scan, Quire.Sign.ahead]
private theorem scan_closes {st : List Quire.Sign} {r : Quire.Word} : Quire.scan (.opens :: st) (.closes :: r) = Quire.scan st r := by simp [Quire.scan, Quire.Sign.ahead]
private theorem groups_walk : ∀ (b : PBook) (d : Nat), (∀ x ∈ b, x.2.2 = 40 ∨ x.2.2 = 41 ∨ x.2.2 = 124) → (b ≠ [] → begun b = false ∨ d = 0) → walk d b = some 0 →
    ∀ g gs, groups b = g :: gs → Quire.scan (List.replicate d .opens) (wordOf (g.map lie)) = true ∧ ∀ h ∈ gs, Quire.scan [] (wordOf (h.map lie)) = true
  | [], d, _, _, _, g, gs, e => by cases e
  | x :: r, d, hs, hb, hw, g, gs, e => by
    have hne : ¬ (x.1 = true ∧ d ≠ 0) := fun ⟨z1, z2⟩ => by
      rcases hb (by simp) with h | h
      · have : x.1 = false := h
        rw [this] at z1; cases z1
      · exact z2 h
    have hx := hs x (by simp)
    have hr : ∀ y ∈ r, y.2.2 = 40 ∨ y.2.2 = 41 ∨ y.2.2 = 124 := fun y hy => hs y (by simp [hy])
    unfold walk at hw
    rw [if_neg hne] at hw
    -- the depth behind x, and what the scan does there
    have step : ∃ d', walk d' r = some 0 ∧ ∀ w, Quire.scan (List.replicate d .opens) ((lie x).sign :: w) = Quire.scan (List.replicate d' .opens) w := by
      rcases hx with h | h | h
      · rw [if_pos h] at hw
        refine ⟨d + 1, hw, fun w => ?_⟩
        have : (lie x).sign = .opens := by simp [lie, sg, h]
        rw [this, scan_opens]
        rfl
      · rw [if_neg (by omega), if_pos h] at hw
        cases d with
        | zero => cases hw
        | succ d =>
          refine ⟨d, hw, fun w => ?_⟩
          have : (lie x).sign = .closes := by simp [lie, sg, h]
          rw [this]
          exact scan_closes
      · rw [if_neg (by omega), if_neg (by omega)] at hw
        refine ⟨d, hw, fun w => ?_⟩
        have : (lie x).sign = .alone := by simp [lie, sg, h]
        rw [this, scan_alone]
    obtain ⟨d', hw', st⟩ := step
    unfold groups at e
    cases er : groups r with
    | nil =>
      rw [er] at e
      cases e
      have : r = [] := by
        have := groups_flat r
        rw [er] at this
        exact this.symm
      subst this
      have h0 : d' = 0 := by simpa [walk] using hw'
      subst h0
      refine ⟨?_, fun h hh => nomatch hh⟩
      show Quire.scan _ ((lie x).sign :: []) = true
      rw [st]
      rfl
    | cons g' gs' =>
      rw [er] at e
      have hg' : begun g' = begun r ∧ r ≠ [] := by
        have := groups_flat r
        rw [er] at this
        have ne := groups_ne r g' (by rw [er]; simp)
        cases g' with
        | nil => exact absurd rfl ne
        | cons y t => rw [← this]; exact ⟨rfl, by simp⟩
      simp only at e
      split at e
      · rename_i hbg
        cases e
        rw [hg'.1] at hbg
        have h0 : d' = 0 := by
          cases r with
          | nil => exact absurd rfl hg'.2
          | cons y t =>
            have hy : y.1 = true := hbg
            unfold walk at hw'
            by_cases z : d' = 0
            · exact z
            · rw [if_pos ⟨hy, z⟩] at hw'
              cases hw'
        subst h0
        obtain ⟨i1, i2⟩ := groups_walk r 0 hr (fun _ => Or.inr rfl) hw' g' gs' er
        refine ⟨?_, fun h hh => ?_⟩
        · show Quire.scan _ ((lie x).sign :: []) = true
          rw [st]
          rfl
        · simp only [List.mem_cons] at hh
          rcases hh with rfl | hh
          · exact i1
          · exact i2 h hh
      · rename_i hbg
        cases e
        rw [hg'.1] at hbg
        obtain ⟨i1, i2⟩ := groups_walk r d' hr (fun _ => Or.inl (by simpa using hbg)) hw' g' gs er
        refine ⟨?_, i2⟩
        show Quire.scan _ ((lie x).sign :: wordOf (g'.map lie)) = true
        rw [st]
        exact i1
private theorem sg_leaf (s : Nat) : (sg s).leaf = true := by
  unfold sg
  split
  · rfl
  · split <;> rfl
private theorem Whole.words {n : Nat} {b : PBook} (h : Whole n b) (hn : n ≤ 21) : ∀ w ∈ (bk b).map wordOf, w ≠ [] ∧ (∀ s ∈ w, s.leaf = true) ∧ Quire.right w = true := by
  intro w hw
  unfold bk at hw
  rw [List.map_map] at hw
  obtain ⟨g, hg, rfl⟩ := List.mem_map.mp hw
  have ne := groups_ne b g hg
  have hlen : g.length ≤ n := by
    rw [← h.len]
    have e := groups_flat b
    have : g.length ≤ (groups b).flatten.length := (List.sublist_flatten_of_mem hg).length_le
    rw [e] at this
    exact this
  refine ⟨?_, ?_, ?_⟩
  · cases g with
    | nil => exact absurd rfl ne
    | cons x r => exact List.cons_ne_nil _ _
  · intro s hs
    simp only [Function.comp, wordOf, List.map_map] at hs
    obtain ⟨x, _, rfl⟩ := List.mem_map.mp hs
    exact sg_leaf _
  · unfold Quire.right
    rw [Bool.and_eq_true]
    refine ⟨decide_eq_true ?_, ?_⟩
    · simp only [Function.comp, wordOf, List.length_map]
      show g.length ≤ 21
      omega
    · show Quire.scan [] _ = true
      cases e : groups b with
      | nil => rw [e] at hg; cases hg
      | cons g0 gs =>
        have hw0 : walk 0 b = some 0 := by rw [h.pre.walk, h.dep]
        obtain ⟨i1, i2⟩ := groups_walk b 0 h.pre.sign (fun _ => Or.inr rfl) hw0 g0 gs e
        rw [e] at hg
        simp only [List.mem_cons] at hg
        rcases hg with rfl | hg
        · exact i1
        · exact i2 g hg
private theorem Whole.leaves {n : Nat} {b : PBook} (h : Whole n b) : ((bk b).flatten.map (·.leaf)).Perm ((List.range n).map fun (i : Nat) => i + 1) := by
  have e : (bk b).flatten.map (·.leaf) = used b := by
    have := bk_leaves b
    unfold Book.leaves at this
    rw [this, List.map_map]
    rfl
  rw [e]
  refine perm_of h.pre.nd (fun l hl => ?_) ?_
  · obtain ⟨x, hx, rfl⟩ := List.mem_map.mp hl
    have := h.pre.front x hx
    exact List.mem_map.mpr ⟨x.2.1 / 2 - 1, List.mem_range.mpr (by omega), by omega⟩
  · simp only [List.length_map, List.length_range, used, h.len]
    exact Nat.le_refl _
private theorem Whole.mem {n : Nat} {b : PBook} (h : Whole n b) (hn : n ≤ 21) : bk b ∈ booksOf n := mem_books h.leaves (h.words hn)
end M
end
section
namespace M
open QuireSeen QuireBack
noncomputable def gapOf (x : Leaf) : List Nat := if x.1 = true then [32, 47, 32] else [32]
noncomputable def restText (b : PBook) : List Nat := b.flatMap fun x => gapOf x ++ leafText x
private theorem leafText_ne (x : Leaf) : leafText x ≠ [] := by
  unfold leafText sideText
  simp
private theorem bookText_acc : ∀ (b : PBook) (t : List Nat), t ≠ [] → bookText t b = t ++ restText b
  | [], t, _ => by simp [bookText, restText]
  | x :: r, t, h => by
    unfold bookText
    rw [bookText_acc r _ (by simp [h])]
    simp only [restText, List.flatMap_cons, sepOf, if_neg h, gapOf, List.append_assoc]
private theorem bookText_cons (x : Leaf) (r : PBook) : bookText [] (x :: r) = leafText x ++ restText r := by
  unfold bookText
  simp only [sepOf, if_true, List.nil_append]
  exact bookText_acc r _ (leafText_ne x)
private theorem tn_lie {x : Leaf} (h : x.2.1 < 200) (hs : x.2.2 = 40 ∨ x.2.2 = 41 ∨ x.2.2 = 124) : tn (lie x).text = leafText x := by
  unfold Lies.text leafText
  rw [tn_append, tn_append]
  have e : tn (Side.text ⟨(lie x).leaf, (lie x).b⟩) = sideText x.2.1 := by
    have := tn_side (s := sideOf x.2.1) (by unfold sideOf; show x.2.1 / 2 < 100; omega)
    rw [key_sideOf] at this
    exact this
  rw [e]
  rcases hs with h | h | h <;> (simp only [lie, sg, h]; rfl)
private theorem join_app (S a u : List UInt8) : ∀ l, joinWith S ((a ++ u) :: l) = a ++ joinWith S (u :: l)
  | [] => rfl
  | v :: l => by simp only [joinWith, List.append_assoc]
private theorem text_bk : ∀ (b : PBook), (∀ x ∈ b, x.2.1 < 200) → (∀ x ∈ b, x.2.2 = 40 ∨ x.2.2 = 41 ∨ x.2.2 = 124) → tn (bk b).text = bookText [] b
  | [], _, _ => rfl
  | x :: r, hf, hs => by
    have ih := text_bk r (fun y hy => hf y (by simp [hy])) fun y hy => hs y (by simp [hy])
    have ex := tn_lie (hf x (by simp)) (hs x (by simp))
    rw [bookText_cons]
    unfold bk groups
    cases er : groups r with
    | nil =>
      have : r = [] := by
        have := groups_flat r
        rw [er] at this
        exact this.symm
      subst this
      show tn (lie x).text = _
      rw [ex]
      simp [restText]
    | cons g gs =>
      have hg : ∃ y t t', g = y :: t ∧ r = y :: t' := by
        have := groups_flat r
        rw [er] at this
        have ne := groups_ne r g (by rw [er]; simp)
        cases g with
        | nil => exact absurd rfl ne
        | cons y t => exact ⟨y, t, _, rfl, this.symm⟩
      obtain ⟨y, t, t', e1, e2⟩ := hg
      have ih2 : tn (Book.text ((g :: gs).map fun g => g.map lie)) = leafText y ++ restText t' := by
        rw [← er]
        show tn (bk r).text = _
        rw [ih, e2, bookText_cons]
      have er2 : restText r = gapOf y ++ (leafText y ++ restText t') := by rw [e2]; simp [restText]
      simp only
      split
      · rename_i hb
        rw [e1] at hb
        have hy : y.1 = true := hb
        rw [er2, ← ih2, ← ex]
        show tn ((lie x).text ++ ([32, 47, 32] ++ Book.text ((g :: gs).map fun g => g.map lie))) = _
        rw [tn_append, tn_append]
        unfold gapOf
        rw [if_pos hy]
        rfl
      · rename_i hb
        rw [e1] at hb
        have hy : ¬ y.1 = true := hb
        rw [er2, ← ih2, ← ex]
        have : Book.text (((x :: g) :: gs).map fun g => g.map lie) = (lie x).text ++ ([32] ++ Book.text ((g :: gs).map fun g => g.map lie)) := by
          unfold Book.text
          simp only [List.map_cons]
          rw [e1]
          simp only [List.map_cons, joinWith]
          rw [join_app, join_app]
        rw [this, tn_append, tn_append]
        unfold gapOf
        rw [if_neg hy]
        rfl
private theorem Whole.text {n : Nat} {b : PBook} (h : Whole n b) (hn : n ≤ 21) : tn (bk b).text = bookText [] b :=
  text_bk b (fun x hx => by have := h.pre.front x hx; omega) h.pre.sign
private theorem blt_iff (a b : Nat) : Nat.blt a b = decide (a < b) := by
  cases h : Nat.blt a b with
  | true => exact (decide_eq_true (show a < b from Nat.le_of_ble_eq_true h)).symm
  | false => rw [decide_eq_false]; intro z; have : Nat.ble (a + 1) b = true := Nat.ble_eq_true_of_le z; rw [show Nat.blt a b = Nat.ble (a + 1) b from rfl, this] at h; cases h
private theorem beq_iff (a b : Nat) : Nat.beq a b = decide (a = b) := by
  cases h : Nat.beq a b with
  | true => rw [decide_eq_true (Nat.eq_of_beq_eq_true h)]
  | false => rw [decide_eq_false (Nat.ne_of_beq_eq_false h)]
private theorem lt_trans : ∀ {a b c : List Nat}, ltText a b = true → ltText b c = true → ltText a c = true
  | [], [], c, h, _ => by cases h
  | [], _ :: _, [], _, h => by cases h
  | [], _ :: _, _ :: _, _, _ => rfl
  | _ :: _, [], _, h, _ => by cases h
  | _ :: _, _ :: _, [], _, h => by cases h
  | x :: a, y :: b, z :: c, h1, h2 => by
    unfold ltText at h1 h2 ⊢
    simp only [blt_iff, beq_iff, Bool.or_eq_true, Bool.and_eq_true, decide_eq_true_eq] at h1 h2 ⊢
    rcases h1 with h1 | ⟨h1, h1'⟩
    · rcases h2 with h2 | ⟨h2, _⟩
      · exact Or.inl (by omega)
      · exact Or.inl (by omega)
    · rcases h2 with h2 | ⟨h2, h2'⟩
      · exact Or.inl (by omega)
      · exact Or.inr ⟨by omega, lt_trans h1' h2'⟩
private theorem lt_irrefl : ∀ a : List Nat, ltText a a = false
  | [] => rfl
  | x :: r => by
    unfold ltText
    rw [lt_irrefl r, blt_iff]
    simp
private theorem sorted_pair : ∀ {l : List (List Nat)}, sortedT l = true → l.Pairwise fun a b => ltText a b = true
  | [], _ => List.Pairwise.nil
  | [a], _ => by simp
  | a :: b :: r, h => by
    unfold sortedT at h
    rw [Bool.and_eq_true] at h
    have ih := sorted_pair h.2
    refine List.Pairwise.cons (fun c hc => ?_) ih
    simp only [List.mem_cons] at hc
    rcases hc with rfl | hc
    · exact h.1
    · exact lt_trans h.1 ((List.pairwise_cons.mp ih).1 c hc)
private theorem sortN {n : Nat} (h1 : 1 ≤ n) (h4 : n ≤ 4) : ((under n n []).map (bookText [])).Pairwise fun a b => ltText a b = true := by
  obtain rfl | rfl | rfl | rfl : n = 1 ∨ n = 2 ∨ n = 3 ∨ n = 4 := by omega
  · exact sorted_pair sort1
  · exact sorted_pair sort2
  · exact sorted_pair sort3
  · exact sorted_pair sort4
private theorem lenN {n : Nat} (h1 : 1 ≤ n) (h4 : n ≤ 4) : (under n n []).length = (booksOf n).length := by
  obtain rfl | rfl | rfl | rfl : n = 1 ∨ n = 2 ∨ n = 3 ∨ n = 4 := by omega
  · exact len1
  · exact len2
  · exact len3
  · exact len4
private theorem under_sorted {n : Nat} (h1 : 1 ≤ n) (h4 : n ≤ 4) : (under n n []).Pairwise fun a b => ltText (bookText [] a) (bookText [] b) = true := List.pairwise_map.mp (sortN h1 h4)
private theorem bk_nodup {n : Nat} (h1 : 1 ≤ n) (h4 : n ≤ 4) : ((under n n []).map bk).Nodup := by
  refine List.pairwise_map.mpr ((under_sorted h1 h4).imp_of_mem fun {a b} ha hb h e => ?_)
  have ea := (whole_of ha).text (by omega)
  have eb := (whole_of hb).text (by omega)
  rw [← ea, ← eb, e, lt_irrefl] at h
  cases h
private theorem books_perm {n : Nat} (h1 : 1 ≤ n) (h4 : n ≤ 4) : ((under n n []).map bk).Perm (booksOf n) := by
  refine perm_of (bk_nodup h1 h4) (fun B hB => ?_) ?_
  · obtain ⟨b, hb, rfl⟩ := List.mem_map.mp hB
    exact (whole_of hb).mem (by omega)
  · rw [List.length_map, lenN h1 h4]
    exact Nat.le_refl _
end M
end
section
namespace M
open QuireSeen QuireBack
noncomputable def sidesIn (b : PBook) : List Nat := b.flatMap fun x => [x.2.1, x.2.1 + 1 - 2 * (x.2.1 % 2)]
noncomputable def putM (m : Nat → Option Nat) (k v : Nat) : Nat → Option Nat := fun j => if j = k then some v else m j
noncomputable def pst (x : Leaf) (st : List Nat) : List Nat := if x.2.2 = 40 then x.2.1 / 2 :: st else if x.2.2 = 41 then st.tail else st
noncomputable def pm1 (x : Leaf) (st : List Nat) (m : Nat → Option Nat) : Nat → Option Nat :=
  if x.2.2 = 41 then (match st with
    | [] => putM m (x.2.1 / 2) 0
    | p :: _ => putM (putM (putM m (x.2.1 / 2) 0) (x.2.1 / 2) p) p (x.2.1 / 2)) else putM m (x.2.1 / 2) 0
noncomputable def pmap : PBook → List Nat → (Nat → Option Nat) → (Nat → Option Nat)
  | [], _, m => m
  | x :: r, st, m => pmap r (pst x st) (pm1 x st m)
noncomputable def gmap : PBook → Nat → (Nat → Option Nat) → (Nat → Option Nat)
  | [], _, m => m
  | x :: r, k, m => let k' := if x.1 = true then k + 1 else k
    gmap r k' (putM m (x.2.1 / 2) k')
noncomputable def noneM : Nat → Option Nat := fun _ => none
noncomputable def placeOf (sides : List Nat) (l : Nat) : Nat := sides.idxOf (2 * l) / 2
noncomputable def areFacing (sides : List Nat) (a c : Nat) : Bool :=
  let i := sides.idxOf a
  let j := sides.idxOf c
  decide (min i j % 2 = 1) && decide (max i j = min i j + 1)
noncomputable def maxL (l : List Nat) : Nat := l.foldl max 0
noncomputable def minL : List Nat → Nat
  | [] => 0
  | x :: r => r.foldl min x
noncomputable def lieRow (sides leaves : List Nat) : Bool := decide (maxL (leaves.map (placeOf sides)) - minL (leaves.map (placeOf sides)) = leaves.length - 1)
noncomputable def marksMeet (sides marked : List Nat) : Bool := (List.range (sides.length / 2 - 1)).all fun i => marked.contains (sides.getD (2 * i + 1) 0) == marked.contains (sides.getD (2 * i + 2) 0)
noncomputable def holdsM (kind : Nat) (parts sides : List Nat) (pm gm : Nat → Option Nat) : Bool :=
  if kind = 62 then decide (sides.idxOf (parts.getD 1 0) = sides.idxOf (parts.getD 0 0) + 1)
  else if kind = 124 then areFacing sides (parts.getD 0 0) (parts.getD 1 0)
  else if kind = 94 then decide (sides.idxOf (parts.getD 0 0) % 2 = 0)
  else if kind = 61 then decide (pm (parts.getD 0 0) = some (parts.getD 1 0))
  else if kind = 60 then decide (placeOf sides (parts.getD 0 0) < placeOf sides (parts.getD 1 0))
  else if kind = 126 then decide (gm (parts.getD 0 0) = gm (parts.getD 1 0))
  else if kind = 111 then lieRow sides parts
  else marksMeet sides parts
noncomputable def agreesM (b : PBook) (fs : List MF) : Bool := fs.all fun f => holdsM f.2.1 f.2.2 (sidesIn b) (pmap b [] noneM) (gmap b 0 noneM) == f.1
private theorem sideOf_key (s : Side) : sideOf s.key = s := key_inj (key_sideOf s.key)
private theorem sideOf_inj {a b : Nat} (h : sideOf a = sideOf b) : a = b := by rw [← key_sideOf a, h, key_sideOf]
private theorem bk_sides (b : PBook) : (bk b).sides = (sidesIn b).map sideOf := by
  unfold Book.sides
  rw [bk_leaves]
  unfold sidesIn
  induction b with
  | nil => rfl
  | cons x r ih =>
    simp only [List.map_cons, List.flatMap_cons, List.map_append, ih]
    congr 1
    have h2 : (x.2.1 + 1 - 2 * (x.2.1 % 2)) / 2 = x.2.1 / 2 := by omega
    have h3 : ((x.2.1 + 1 - 2 * (x.2.1 % 2)) % 2 == 1) = !(x.2.1 % 2 == 1) := by
      obtain h | h : x.2.1 % 2 = 0 ∨ x.2.1 % 2 = 1 := by omega
      · rw [show (x.2.1 + 1 - 2 * (x.2.1 % 2)) % 2 = 1 by omega, h]; rfl
      · rw [show (x.2.1 + 1 - 2 * (x.2.1 % 2)) % 2 = 0 by omega, h]; rfl
    simp only [lie, List.map_nil, sideOf, h2, h3]
private theorem idx_map {α β : Type} [DecidableEq α] [DecidableEq β] (f : α → β) (hf : ∀ a b, f a = f b → a = b) (x : α) : ∀ l : List α, (l.map f).idxOf (f x) = l.idxOf x
  | [] => rfl
  | y :: r => by
    rw [List.map_cons, List.idxOf_cons, List.idxOf_cons, idx_map f hf x r]
    by_cases h : y = x
    · subst h
      rw [beq_self_eq_true, beq_self_eq_true]
    · have : ¬ f y = f x := fun e => h (hf _ _ e)
      rw [beq_false_of_ne h, beq_false_of_ne this]
private theorem bk_at (b : PBook) (s : Side) : (bk b).at_ s = (sidesIn b).idxOf s.key := by
  unfold Book.at_
  rw [bk_sides]
  conv => lhs; rw [← sideOf_key s]
  exact idx_map sideOf (fun _ _ => sideOf_inj) _ _
private theorem sidesIn_cons (x : Leaf) (r : PBook) : sidesIn (x :: r) = x.2.1 :: (x.2.1 + 1 - 2 * (x.2.1 % 2)) :: sidesIn r := rfl
private theorem place_cons (x : Leaf) (r : PBook) (l : Nat) : placeOf (sidesIn (x :: r)) l = if x.2.1 / 2 = l then 0 else placeOf (sidesIn r) l + 1 := by
  unfold placeOf
  rw [sidesIn_cons, List.idxOf_cons, List.idxOf_cons]
  by_cases h : x.2.1 / 2 = l
  · rw [if_pos h]
    by_cases h1 : x.2.1 = 2 * l
    · simp [h1]
    · have h2 : x.2.1 + 1 - 2 * (x.2.1 % 2) = 2 * l := by omega
      have e1 : (x.2.1 == 2 * l) = false := by simpa using h1
      have e2 : (x.2.1 + 1 - 2 * (x.2.1 % 2) == 2 * l) = true := by simpa using h2
      rw [e1, e2]
      show (0 + 1) / 2 = 0
      rfl
  · rw [if_neg h]
    have h1 : ¬ x.2.1 = 2 * l := by omega
    have h2 : ¬ x.2.1 + 1 - 2 * (x.2.1 % 2) = 2 * l := by omega
    have e1 : (x.2.1 == 2 * l) = false := by simpa using h1
    have e2 : (x.2.1 + 1 - 2 * (x.2.1 % 2) == 2 * l) = false := by simpa using h2
    rw [e1, e2]
    show (List.idxOf (2 * l) (sidesIn r) + 1 + 1) / 2 = _
    omega
noncomputable def posOf (b : PBook) (l : Nat) : Nat := b.findIdx fun x => x.2.1 / 2 == l
private theorem place_pos : ∀ (b : PBook) (l : Nat), placeOf (sidesIn b) l = posOf b l
  | [], _ => by simp [placeOf, posOf, sidesIn]
  | x :: r, l => by
    rw [place_cons, place_pos r l]
    unfold posOf
    rw [List.findIdx_cons]
    by_cases h : x.2.1 / 2 = l
    · rw [if_pos h, h, beq_self_eq_true]; rfl
    · rw [if_neg h, beq_false_of_ne h]; rfl
private theorem bk_pos (b : PBook) (l : Nat) : (bk b).pos l = posOf b l := by
  unfold Book.pos posOf
  rw [bk_leaves, List.findIdx_map]
  rfl
private theorem sidesIn_len (b : PBook) : (sidesIn b).length = 2 * b.length := by
  induction b with
  | nil => rfl
  | cons x r ih => rw [sidesIn_cons, List.length_cons, List.length_cons, ih, List.length_cons]; omega
private theorem sub_len {α : Type} [DecidableEq α] : ∀ {A B : List α}, A.Nodup → (∀ x ∈ A, x ∈ B) → A.length ≤ B.length
  | [], _, _, _ => Nat.zero_le _
  | x :: A, B, nd, hs => by
    obtain ⟨h1, h2⟩ := List.nodup_cons.mp nd
    have hx : x ∈ B := hs x (by simp)
    have := sub_len (A := A) (B := B.erase x) h2 fun y hy => (List.mem_erase_of_ne (fun e => h1 (by rw [← e]; exact hy))).mpr (hs y (by simp [hy]))
    have e := List.length_erase_of_mem hx
    have := List.length_pos_of_mem hx
    simp only [List.length_cons]
    omega
private theorem fold_max : ∀ (l : List Nat) (a : Nat), a ≤ l.foldl max a ∧ (∀ x ∈ l, x ≤ l.foldl max a) ∧ (l.foldl max a = a ∨ l.foldl max a ∈ l)
  | [], a => ⟨Nat.le_refl _, (fun _ h => nomatch h), Or.inl rfl⟩
  | y :: r, a => by
    obtain ⟨h1, h2, h3⟩ := fold_max r (max a y)
    rw [List.foldl_cons]
    refine ⟨by omega, fun x hx => ?_, ?_⟩
    · simp only [List.mem_cons] at hx
      rcases hx with rfl | hx
      · omega
      · exact h2 x hx
    · rcases h3 with h3 | h3
      · by_cases h : a ≤ y
        · rw [h3, Nat.max_eq_right h]; exact Or.inr (by simp)
        · rw [h3, Nat.max_eq_left (by omega)]; exact Or.inl rfl
      · exact Or.inr (by simp [h3])
private theorem fold_min : ∀ (l : List Nat) (a : Nat), l.foldl min a ≤ a ∧ (∀ x ∈ l, l.foldl min a ≤ x) ∧ (l.foldl min a = a ∨ l.foldl min a ∈ l)
  | [], a => ⟨Nat.le_refl _, (fun _ h => nomatch h), Or.inl rfl⟩
  | y :: r, a => by
    obtain ⟨h1, h2, h3⟩ := fold_min r (min a y)
    rw [List.foldl_cons]
    refine ⟨by omega, fun x hx => ?_, ?_⟩
    · simp only [List.mem_cons] at hx
      rcases hx with rfl | hx
      · omega
      · exact h2 x hx
    · rcases h3 with h3 | h3
      · by_cases h : a ≤ y
        · rw [h3, Nat.min_eq_left h]; exact Or.inl rfl
        · rw [h3, Nat.min_eq_right (by omega)]; exact Or.inr (by simp)
      · exact Or.inr (by simp [h3])
private theorem maxL_is {l : List Nat} {m : Nat} (hm : m ∈ l) (h : ∀ x ∈ l, x ≤ m) : maxL l = m := by
  obtain ⟨_, h2, h3⟩ := fold_max l 0
  have a := h2 m hm
  unfold maxL
  rcases h3 with h3 | h3
  · omega
  · have := h _ h3; omega
private theorem minL_is {l : List Nat} {m : Nat} (hm : m ∈ l) (h : ∀ x ∈ l, m ≤ x) : minL l = m := by
  cases l with
  | nil => cases hm
  | cons y r =>
    obtain ⟨h1, h2, h3⟩ := fold_min r y
    have hy := h y (by simp)
    show r.foldl min y = m
    simp only [List.mem_cons] at hm
    rcases h3 with h3 | h3
    · rcases hm with rfl | hm
      · exact h3
      · have := h2 m hm; omega
    · have := h _ (List.mem_cons_of_mem _ h3)
      rcases hm with rfl | hm
      · omega
      · have := h2 m hm; omega
private theorem max_has {l : List Nat} (h : l ≠ []) : maxL l ∈ l ∧ ∀ x ∈ l, x ≤ maxL l := by
  obtain ⟨_, h2, h3⟩ := fold_max l 0
  refine ⟨?_, h2⟩
  rcases h3 with h3 | h3
  · cases l with
    | nil => exact absurd rfl h
    | cons y r =>
      have := h2 y (by simp)
      have e : y = 0 := by omega
      unfold maxL
      rw [h3]
      simp [e]
  · exact h3
private theorem min_has {l : List Nat} (h : l ≠ []) : minL l ∈ l ∧ ∀ x ∈ l, minL l ≤ x := by
  cases l with
  | nil => exact absurd rfl h
  | cons y r =>
    obtain ⟨h1, h2, h3⟩ := fold_min r y
    show r.foldl min y ∈ y :: r ∧ ∀ x ∈ y :: r, r.foldl min y ≤ x
    refine ⟨?_, fun x hx => ?_⟩
    · rcases h3 with h3 | h3
      · rw [h3]; simp
      · simp [h3]
    · simp only [List.mem_cons] at hx
      rcases hx with rfl | hx
      · exact h1
      · exact h2 x hx
private theorem within_len {l : List Nat} {a k : Nat} (nd : l.Nodup) (h : ∀ x ∈ l, a ≤ x ∧ x < a + k) : l.length ≤ k := by
  have := sub_len (A := l) (B := (List.range k).map (· + a)) nd fun x hx => by
    have := h x hx
    exact List.mem_map.mpr ⟨x - a, List.mem_range.mpr (by omega), by omega⟩
  simpa using this
private theorem row_iff {l : List Nat} (nd : l.Nodup) (ne : l ≠ []) : (maxL l - minL l = l.length - 1) ↔ ∃ i, ∀ x ∈ l, i ≤ x ∧ x < i + l.length := by
  obtain ⟨a1, a2⟩ := max_has ne
  obtain ⟨b1, b2⟩ := min_has ne
  have pos : 0 < l.length := List.length_pos_iff.mpr ne
  constructor
  · intro h
    exact ⟨minL l, fun x hx => ⟨b2 x hx, by have := a2 x hx; omega⟩⟩
  · rintro ⟨i, hi⟩
    have h1 := hi _ a1
    have h2 := hi _ b1
    have h3 := within_len (a := minL l) (k := maxL l - minL l + 1) nd fun x hx => ⟨b2 x hx, by have := a2 x hx; have := b2 x hx; omega⟩
    omega
private theorem pos_lt {b : PBook} {l : Nat} (h : l ∈ used b) : posOf b l < b.length := by
  obtain ⟨x, hx, e⟩ := List.mem_map.mp h
  exact List.findIdx_lt_length_of_exists ⟨x, hx, by simpa using e⟩
private theorem pos_at {b : PBook} {l : Nat} (h : l ∈ used b) : ∃ x, b[posOf b l]? = some x ∧ x.2.1 / 2 = l := by
  have h1 := pos_lt h
  have e1 := List.findIdx_getElem (p := fun x : Leaf => x.2.1 / 2 == l) (xs := b) (w := h1)
  exact ⟨_, List.getElem?_eq_getElem h1, eq_of_beq e1⟩
private theorem pos_inj {b : PBook} {l m : Nat} (hl : l ∈ used b) (hm : m ∈ used b) (h : posOf b l = posOf b m) : l = m := by
  obtain ⟨x, e1, q1⟩ := pos_at hl
  obtain ⟨y, e2, q2⟩ := pos_at hm
  rw [h, e2] at e1
  cases e1
  rw [← q1, ← q2]
private theorem Whole.used {n : Nat} {b : PBook} (h : Whole n b) {l : Nat} : l ∈ used b ↔ 1 ≤ l ∧ l ≤ n := by
  have p := h.leaves
  have e : (bk b).flatten.map (·.leaf) = M.used b := by
    have := bk_leaves b
    unfold Book.leaves at this
    rw [this, List.map_map]
    rfl
  rw [e] at p
  rw [p.mem_iff]
  simp only [List.mem_map, List.mem_range]
  constructor
  · rintro ⟨i, hi, rfl⟩; omega
  · rintro ⟨h1, h2⟩; exact ⟨l - 1, by omega, by omega⟩
end M
end
section
set_option linter.all false
namespace M
open QuireSeen QuireBack
private theorem groups_form : ∀ (b : PBook) (g : PBook) (gs : List PBook), groups b = g :: gs → begun g = begun b ∧ (∀ h ∈ gs, begun h = true) ∧ ∀ h ∈ g :: gs, ∀ x ∈ h.tail, x.1 = false
  | [], g, gs, e => by cases e
  | x :: r, g, gs, e => by
    unfold groups at e
    cases er : groups r with
    | nil =>
      rw [er] at e
      cases e
      exact ⟨rfl, (fun _ h => nomatch h), fun h hh y hy => by
        rw [List.mem_singleton.mp hh] at hy
        cases hy⟩
    | cons g' gs' =>
      rw [er] at e
      obtain ⟨i0, i1, i2⟩ := groups_form r g' gs' er
      have ne := groups_ne r g' (by rw [er]; simp)
      simp only at e
      split at e
      · rename_i hb
        cases e
        refine ⟨rfl, fun h hh => ?_, fun h hh y hy => ?_⟩
        · simp only [List.mem_cons] at hh
          rcases hh with rfl | hh
          · exact hb
          · exact i1 h hh
        · simp only [List.mem_cons] at hh
          rcases hh with rfl | hh
          · cases hy
          · exact i2 h (by simpa using hh) y hy
      · rename_i hb
        cases e
        refine ⟨rfl, i1, fun h hh y hy => ?_⟩
        simp only [List.mem_cons] at hh
        rcases hh with rfl | hh
        · simp only [List.tail_cons] at hy
          cases g' with
          | nil => exact absurd rfl ne
          | cons z t =>
            simp only [List.mem_cons] at hy
            rcases hy with rfl | hy
            · exact Bool.eq_false_iff.mpr hb
            · exact i2 (z :: t) (by simp) y hy
        · exact i2 h (by simp [hh]) y hy
private theorem gmap_out : ∀ (b : PBook) (k : Nat) (m : Nat → Option Nat) (l : Nat), l ∉ used b → gmap b k m l = m l
  | [], _, _, _, _ => rfl
  | x :: r, k, m, l, h => by
    simp only [used, List.map_cons, List.mem_cons, not_or] at h
    unfold gmap
    simp only
    rw [gmap_out r _ _ l h.2]
    unfold putM
    rw [if_neg h.1]
private theorem gmap_tail : ∀ (b : PBook) (k : Nat) (m : Nat → Option Nat) (l : Nat), (∀ x ∈ b, x.1 = false) → l ∈ used b → gmap b k m l = some k
  | x :: r, k, m, l, hf, h => by
    have hx : x.1 = false := hf x (by simp)
    unfold gmap
    simp only [hx, Bool.false_eq_true, if_false]
    by_cases hr : l ∈ used r
    · exact gmap_tail r k _ l (fun y hy => hf y (by simp [hy])) hr
    · rw [gmap_out r _ _ l hr]
      simp only [used, List.map_cons, List.mem_cons] at h
      rcases h with h | h
      · unfold putM; rw [if_pos h]
      · exact absurd h hr
noncomputable def cnt : Nat → PBook → Nat
  | k, [] => k
  | k, x :: r => cnt (if x.1 = true then k + 1 else k) r
private theorem gmap_app : ∀ (b c : PBook) (k : Nat) (m : Nat → Option Nat), gmap (b ++ c) k m = gmap c (cnt k b) (gmap b k m)
  | [], _, _, _ => rfl
  | x :: r, c, k, m => gmap_app r c _ _
private theorem cnt_tail : ∀ (b : PBook) (k : Nat), (∀ x ∈ b, x.1 = false) → cnt k b = k
  | [], _, _ => rfl
  | x :: r, k, h => by
    have hx : x.1 = false := h x (by simp)
    unfold cnt
    rw [hx]
    exact cnt_tail r k fun y hy => h y (by simp [hy])
private theorem used_app (b c : PBook) : used (b ++ c) = used b ++ used c := List.map_append
noncomputable def hasL (l : Nat) (g : PBook) : Bool := g.any fun x => x.2.1 / 2 == l
private theorem hasL_iff {l : Nat} {g : PBook} : hasL l g = true ↔ l ∈ used g := by
  unfold hasL used
  simp only [List.any_eq_true, List.mem_map, beq_iff_eq]
private theorem gmap_groups : ∀ (gs : List PBook) (k : Nat) (m : Nat → Option Nat) (l : Nat), (∀ g ∈ gs, g ≠ [] ∧ begun g = true ∧ ∀ x ∈ g.tail, x.1 = false) → (used gs.flatten).Nodup → l ∈ used gs.flatten →
    gmap gs.flatten k m l = some (k + 1 + gs.findIdx (hasL l))
  | [], _, _, _, _, _, h => by cases h
  | g :: gs, k, m, l, hg, nd, h => by
    obtain ⟨h1, h2, h3⟩ := hg g (by simp)
    rw [List.flatten_cons, used_app] at nd h
    obtain ⟨n1, n2, n3⟩ := List.nodup_append.mp nd
    rw [List.flatten_cons, gmap_app, List.findIdx_cons]
    have ec : cnt k g = k + 1 := by
      cases g with
      | nil => exact absurd rfl h1
      | cons x t =>
        have hx : x.1 = true := h2
        unfold cnt
        rw [if_pos hx]
        exact cnt_tail t _ h3
    rw [ec]
    by_cases hl : l ∈ used g
    · rw [hasL_iff.mpr hl]
      rw [gmap_out _ _ _ l (fun z => n3 l hl l z rfl)]
      simp only [cond_true, Nat.add_zero]
      cases g with
      | nil => exact absurd rfl h1
      | cons x t =>
        have hx : x.1 = true := h2
        unfold gmap
        simp only [hx, if_true]
        by_cases ht : l ∈ used t
        · exact gmap_tail t _ _ l h3 ht
        · rw [gmap_out t _ _ l ht]
          simp only [used, List.map_cons, List.mem_cons] at hl
          rcases hl with hl | hl
          · unfold putM; rw [if_pos hl]
          · exact absurd hl ht
    · have : hasL l g = false := by
        cases e : hasL l g with
        | false => rfl
        | true => exact absurd (hasL_iff.mp e) hl
      rw [this]
      simp only [cond_false]
      have hr : l ∈ used gs.flatten := by
        rcases List.mem_append.mp h with h | h
        · exact absurd h hl
        · exact h
      rw [gmap_groups gs (k + 1) _ l (fun g' hg' => hg g' (by simp [hg'])) n2 hr]
      congr 1
      omega
private theorem groups_all {n : Nat} {b : PBook} (h : Whole n b) : ∀ g ∈ groups b, g ≠ [] ∧ begun g = true ∧ ∀ x ∈ g.tail, x.1 = false := by
  intro g hg
  refine ⟨groups_ne b g hg, ?_⟩
  cases e : groups b with
  | nil => rw [e] at hg; cases hg
  | cons g0 gs =>
    obtain ⟨i0, i1, i2⟩ := groups_form b g0 gs e
    rw [e] at hg
    refine ⟨?_, i2 g hg⟩
    simp only [List.mem_cons] at hg
    rcases hg with rfl | hg
    · rw [i0]
      cases b with
      | nil => rfl
      | cons x r => exact h.pre.head x r rfl
    · exact i1 g hg
private theorem bk_gathering (b : PBook) (l : Nat) : (bk b).gathering l = (groups b).findIdx (hasL l) := by
  unfold Book.gathering bk
  rw [List.findIdx_map]
  congr 1
  funext g
  simp only [Function.comp, hasL, List.any_map]
  rfl
private theorem Whole.gather {n : Nat} {b : PBook} (h : Whole n b) {l : Nat} (hl : 1 ≤ l ∧ l ≤ n) : gmap b 0 noneM l = some ((bk b).gathering l + 1) := by
  have hu := h.used.mpr hl
  have e := groups_flat b
  have := gmap_groups (groups b) 0 noneM l (groups_all h) (by rw [e]; exact h.pre.nd) (by rw [e]; exact hu)
  rw [e] at this
  rw [this, bk_gathering]
  congr 1
  omega
noncomputable def stk : PBook → List Nat → List Nat
  | [], st => st
  | x :: r, st => stk r (pst x st)
private theorem pmap_app : ∀ (b c : PBook) (st : List Nat) (m : Nat → Option Nat), pmap (b ++ c) st m = pmap c (stk b st) (pmap b st m)
  | [], _, _, _ => rfl
  | _ :: r, c, _, _ => pmap_app r c _ _
private theorem putM_ne {m : Nat → Option Nat} {k v j : Nat} (h : j ≠ k) : putM m k v j = m j := by unfold putM; rw [if_neg h]
private theorem putM_eq {m : Nat → Option Nat} {k v : Nat} : putM m k v k = some v := by unfold putM; rw [if_pos rfl]
private theorem pm1_out {x : Leaf} {st : List Nat} {m : Nat → Option Nat} {l : Nat} (h : l ≠ x.2.1 / 2) (hs : l ∉ st) : pm1 x st m l = m l := by
  unfold pm1
  split
  · cases st with
    | nil => exact putM_ne h
    | cons p t =>
      simp only [List.mem_cons, not_or] at hs
      simp only
      rw [putM_ne hs.1, putM_ne h, putM_ne h]
  · exact putM_ne h
private theorem pst_out {x : Leaf} {st : List Nat} {l : Nat} (h : l ≠ x.2.1 / 2) (hs : l ∉ st) : l ∉ pst x st := by
  unfold pst
  split
  · simp only [List.mem_cons, not_or]; exact ⟨h, hs⟩
  · split
    · exact fun z => hs (List.mem_of_mem_tail z)
    · exact hs
private theorem pmap_out : ∀ (b : PBook) (st : List Nat) (m : Nat → Option Nat) (l : Nat), l ∉ used b → l ∉ st → pmap b st m l = m l
  | [], _, _, _, _, _ => rfl
  | x :: r, st, m, l, h, hs => by
    simp only [used, List.map_cons, List.mem_cons, not_or] at h
    unfold pmap
    rw [pmap_out r _ _ l h.2 (pst_out h.1 hs), pm1_out h.1 hs]
private theorem stk_paired : ∀ (g : PBook) (st : List Nat), (∀ x ∈ g, x.2.2 = 40 ∨ x.2.2 = 41 ∨ x.2.2 = 124) → Quire.scan (List.replicate st.length .opens) (wordOf (g.map lie)) = true → stk g st = []
  | [], st, _, h => by
    cases st with
    | nil => rfl
    | cons p t => exact absurd (show false = true from h) (by decide)
  | x :: r, st, hs, h => by
    have hr : ∀ y ∈ r, y.2.2 = 40 ∨ y.2.2 = 41 ∨ y.2.2 = 124 := fun y hy => hs y (by simp [hy])
    have h : Quire.scan (List.replicate st.length .opens) ((lie x).sign :: wordOf (r.map lie)) = true := h
    unfold stk pst
    rcases hs x (by simp) with e | e | e
    · rw [if_pos e]
      have : (lie x).sign = .opens := by simp [lie, sg, e]
      rw [this, scan_opens] at h
      exact stk_paired r _ hr h
    · rw [if_neg (by omega), if_pos e]
      have : (lie x).sign = .closes := by simp [lie, sg, e]
      rw [this] at h
      cases st with
      | nil => exact absurd (show false = true from h) (by decide)
      | cons p t =>
        have h2 : Quire.scan (.opens :: List.replicate t.length .opens) (.closes :: wordOf (r.map lie)) = true := h
        rw [scan_closes] at h2
        exact stk_paired r _ hr h2
    · rw [if_neg (by omega), if_neg (by omega)]
      have : (lie x).sign = .alone := by simp [lie, sg, e]
      rw [this, scan_alone] at h
      exact stk_paired r _ hr h
noncomputable def pval (g : PBook) (p : Nat) : Nat := match Quire.mate (wordOf (g.map lie)) p with
  | none => 0
  | some q => if q = p then 0 else ((g.map lie)[q]?.map fun (x : Lies) => x.leaf).getD 0
noncomputable def pstL (x : Nat × Nat) (st : List Nat) : List Nat := if x.2 = 40 then x.1 :: st else if x.2 = 41 then st.tail else st
noncomputable def pm1L (x : Nat × Nat) (st : List Nat) (m : Nat → Option Nat) : Nat → Option Nat :=
  if x.2 = 41 then (match st with
    | [] => putM m x.1 0
    | p :: _ => putM (putM (putM m x.1 0) x.1 p) p x.1) else putM m x.1 0
noncomputable def pmapL : List (Nat × Nat) → List Nat → (Nat → Option Nat) → (Nat → Option Nat)
  | [], _, m => m
  | x :: r, st, m => pmapL r (pstL x st) (pm1L x st m)
noncomputable def pvalL (g : List (Nat × Nat)) (p : Nat) : Nat := match Quire.mate (g.map fun x => sg x.2) p with
  | none => 0
  | some q => if q = p then 0 else (g[q]?.map fun x => x.1).getD 0
noncomputable def ixF : Nat → List Nat → List (Nat × Nat)
  | _, [] => []
  | k, s :: r => (k + 1, s) :: ixF (k + 1) r
noncomputable def allS : Nat → List (List Nat)
  | 0 => [[]]
  | k + 1 => (allS k).flatMap fun r => [40 :: r, 41 :: r, 124 :: r]
private theorem allS_mem : ∀ ss : List Nat, (∀ s ∈ ss, s = 40 ∨ s = 41 ∨ s = 124) → ss ∈ allS ss.length
  | [], _ => List.mem_cons_self
  | s :: r, h => by
    refine List.mem_flatMap.mpr ⟨r, allS_mem r fun x hx => h x (List.mem_cons_of_mem _ hx), ?_⟩
    rcases h s List.mem_cons_self with rfl | rfl | rfl <;> simp
private theorem few_signs : ((List.range 5).flatMap allS).all (fun ss => !(Quire.scan [] (ss.map sg)) || (List.range ss.length).all fun p => decide (pmapL (ixF 0 ss) [] noneM (p + 1) = some (pvalL (ixF 0 ss) p))) = true := by decide +kernel
section
variable {ren : Nat → Nat} {D : Nat → Prop}
private theorem put_ren (inj : ∀ a b, D a → D b → ren a = ren b → a = b) {m0 m : Nat → Option Nat} (h : ∀ k, D k → ∀ v, m0 k = some v → m (ren k) = some (ren v)) {a u : Nat} (ha : D a) : ∀ k, D k → ∀ v, putM m0 a u k = some v → putM m (ren a) (ren u) (ren k) = some (ren v) := by
  intro k hk v e
  by_cases q : k = a
  · subst q
    rw [putM_eq] at e ⊢
    cases e
    rfl
  · rw [putM_ne q] at e
    rw [putM_ne fun z => q (inj _ _ hk ha z)]
    exact h k hk v e
private theorem pm_ren (h0 : ren 0 = 0) (inj : ∀ a b, D a → D b → ren a = ren b → a = b) : ∀ (g : List (Nat × Nat)) (st : List Nat) (m0 m : Nat → Option Nat), (∀ x ∈ g, D x.1) → (∀ k ∈ st, D k) → (∀ k, D k → ∀ v, m0 k = some v → m (ren k) = some (ren v)) →
    ∀ k, D k → ∀ v, pmapL g st m0 k = some v → pmapL (g.map fun x => (ren x.1, x.2)) (st.map ren) m (ren k) = some (ren v)
  | [], _, _, _, _, _, h => h
  | x :: r, st, m0, m, hg, hs, h => by
    have hx := hg x List.mem_cons_self
    have e : pstL (ren x.1, x.2) (st.map ren) = (pstL x st).map ren := by
      unfold pstL
      dsimp only
      split
      · rfl
      · split
        · exact List.map_tail.symm
        · rfl
    show ∀ k, D k → ∀ v, pmapL r (pstL x st) (pm1L x st m0) k = some v → pmapL (r.map fun x => (ren x.1, x.2)) (pstL (ren x.1, x.2) (st.map ren)) (pm1L (ren x.1, x.2) (st.map ren) m) (ren k) = some (ren v)
    rw [e]
    refine pm_ren h0 inj r _ _ _ (fun y hy => hg y (List.mem_cons_of_mem _ hy)) (fun k hk => ?_) ?_
    · unfold pstL at hk
      split at hk
      · rcases List.mem_cons.mp hk with rfl | hk
        · exact hx
        · exact hs k hk
      · split at hk
        · exact hs k (List.mem_of_mem_tail hk)
        · exact hs k hk
    · have z := put_ren inj h (u := 0) hx
      rw [h0] at z
      unfold pm1L
      dsimp only
      split
      · cases st with
        | nil => exact z
        | cons p st => exact put_ren inj (put_ren inj z hx) (hs p List.mem_cons_self)
      · exact z
private theorem ix_ren : ∀ (g : List (Nat × Nat)) (j : Nat), (∀ i x, g[i]? = some x → ren (j + i + 1) = x.1) → (ixF j (g.map fun x => x.2)).map (fun x => (ren x.1, x.2)) = g
  | [], _, _ => rfl
  | x :: r, j, h => by
    have h1 := h 0 x rfl
    have h2 := ix_ren r (j + 1) fun i y hy => by
      have := h (i + 1) y hy
      rw [show j + 1 + i + 1 = j + (i + 1) + 1 by omega]
      exact this
    show (ren (j + 1), x.2) :: (ixF (j + 1) (r.map fun x => x.2)).map (fun x => (ren x.1, x.2)) = x :: r
    rw [h2]
    exact congrArg (· :: r) (Prod.ext h1 rfl)
private theorem ix_dom : ∀ (ss : List Nat) (j : Nat), ∀ x ∈ ixF j ss, j + 1 ≤ x.1 ∧ x.1 ≤ j + ss.length
  | [], _, x, h => by cases h
  | s :: r, j, x, h => by
    rcases List.mem_cons.mp h with rfl | h
    · exact ⟨Nat.le_refl _, by simp⟩
    · have := ix_dom r (j + 1) x h
      rw [List.length_cons]
      omega
private theorem ix_sign (ss : List Nat) : ∀ j, (ixF j ss).map (fun x => x.2) = ss := by
  induction ss with
  | nil => intro j; rfl
  | cons s r ih => intro j; exact congrArg (s :: ·) (ih (j + 1))
end
private theorem pvalL_short (g : List (Nat × Nat)) (m : Nat → Option Nat) (h4 : g.length ≤ 4) (hs : ∀ x ∈ g, x.2 = 40 ∨ x.2 = 41 ∨ x.2 = 124) (nd : (g.map fun x => x.1).Nodup) (hw : Quire.scan [] (g.map fun x => sg x.2) = true)
    (p l : Nat) (h : (g.map fun x => x.1)[p]? = some l) : pmapL g [] m l = some (pvalL g p) := by
  let ren : Nat → Nat := fun k => if k = 0 then 0 else (g.map fun x => x.1).getD (k - 1) 0
  have rs : ∀ i, ren (i + 1) = (g.map fun x => x.1).getD i 0 := fun i => rfl
  have eg : (ixF 0 (g.map fun x => x.2)).map (fun x => (ren x.1, x.2)) = g := ix_ren g 0 fun i x hx => by
    rw [Nat.zero_add, rs, List.getD_eq_getElem?_getD, List.getElem?_map, hx]
    rfl
  have hp : p < g.length := by
    have := (List.getElem?_eq_some_iff.mp h).1
    simpa using this
  have hm : (g.map fun x => x.2) ∈ (List.range 5).flatMap allS := List.mem_flatMap.mpr ⟨_, List.mem_range.mpr (by rw [List.length_map]; omega), allS_mem _ fun s hq => by
    obtain ⟨x, hx, rfl⟩ := List.mem_map.mp hq
    exact hs x hx⟩
  have hc := List.all_eq_true.mp few_signs _ hm
  have ew : (g.map fun x => x.2).map sg = g.map fun x => sg x.2 := by rw [List.map_map]; rfl
  rw [ew, hw, Bool.not_true, Bool.false_or] at hc
  have hq := of_decide_eq_true (List.all_eq_true.mp hc p (List.mem_range.mpr (by rw [List.length_map]; exact hp)))
  have inj : ∀ a b, (1 ≤ a ∧ a ≤ g.length) → (1 ≤ b ∧ b ≤ g.length) → ren a = ren b → a = b := fun a b ha hb e => by
    obtain ⟨a, rfl⟩ : ∃ k, a = k + 1 := ⟨a - 1, by omega⟩
    obtain ⟨b, rfl⟩ : ∃ k, b = k + 1 := ⟨b - 1, by omega⟩
    rw [rs, rs] at e
    have l1 : a < (g.map fun x => x.1).length := by rw [List.length_map]; omega
    have l2 : b < (g.map fun x => x.1).length := by rw [List.length_map]; omega
    rw [List.getD_eq_getElem?_getD, List.getD_eq_getElem?_getD, List.getElem?_eq_getElem l1, List.getElem?_eq_getElem l2, Option.getD_some, Option.getD_some] at e
    rw [(List.getElem_inj nd).mp e]
  have key := pm_ren (ren := ren) (D := fun k => 1 ≤ k ∧ k ≤ g.length) rfl inj (ixF 0 (g.map fun x => x.2)) [] noneM m (fun x hx => by
    have := ix_dom _ _ x hx
    rw [List.length_map] at this
    omega) (fun k hk => by cases hk) (fun k _ v e => by cases e) (p + 1) ⟨by omega, by omega⟩ _ hq
  rw [eg] at key
  have el : ren (p + 1) = l := by rw [rs, List.getD_eq_getElem?_getD, h]; rfl
  rw [el] at key
  have ev : ren (pvalL (ixF 0 (g.map fun x => x.2)) p) = pvalL g p := by
    unfold pvalL
    have e2 : (ixF 0 (g.map fun x => x.2)).map (fun x => sg x.2) = g.map fun x => sg x.2 := by
      rw [← ew]
      conv => rhs; rw [← ix_sign (g.map fun x => x.2) 0]
      rw [List.map_map]
      rfl
    rw [e2]
    cases Quire.mate (g.map fun x => sg x.2) p with
    | none => rfl
    | some q =>
      dsimp only
      split
      · rfl
      · conv => rhs; rw [← eg, List.getElem?_map]
        cases (ixF 0 (g.map fun x => x.2))[q]? with
        | none => rfl
        | some x => rfl
  rw [ev] at key
  exact key
noncomputable def ls (x : Leaf) : Nat × Nat := (x.2.1 / 2, x.2.2)
private theorem pmap_L : ∀ (g : PBook) (st : List Nat) (m : Nat → Option Nat), pmap g st m = pmapL (g.map ls) st m
  | [], _, _ => rfl
  | _ :: r, _, _ => pmap_L r _ _
private theorem pval_L (g : PBook) (p : Nat) : pval g p = pvalL (g.map ls) p := by
  unfold pval pvalL wordOf
  rw [List.map_map, List.map_map]
  have e : (fun x => sg x.2) ∘ ls = (fun x => x.sign) ∘ lie := rfl
  rw [e]
  cases Quire.mate (List.map ((fun x => x.sign) ∘ lie) g) p with
  | none => rfl
  | some q =>
    simp only [List.getElem?_map, Option.map_map]
    rfl
private theorem pval_short (g : PBook) (m : Nat → Option Nat) (h4 : g.length ≤ 4) (hs : ∀ x ∈ g, x.2.2 = 40 ∨ x.2.2 = 41 ∨ x.2.2 = 124) (nd : (used g).Nodup) (hw : Quire.scan [] (wordOf (g.map lie)) = true) (p l : Nat) (h : (used g)[p]? = some l) :
    pmap g [] m l = some (pval g p) := by
  rw [pmap_L, pval_L]
  refine pvalL_short (g.map ls) m (by simpa using h4) ?_ ?_ ?_ p l ?_
  · intro x hx
    obtain ⟨y, hy, rfl⟩ := List.mem_map.mp hx
    exact hs y hy
  · rw [List.map_map]; exact nd
  · rw [List.map_map]
    unfold wordOf at hw
    rw [List.map_map] at hw
    exact hw
  · rw [List.map_map]; exact h
private theorem used_getElem (g : PBook) (l : Nat) (h : l ∈ used g) : (used g)[posOf g l]? = some l := by
  obtain ⟨x, e, q⟩ := pos_at h
  unfold used
  rw [List.getElem?_map, e]
  simp [q]
private theorem pmap_groups : ∀ (gs : List PBook) (m : Nat → Option Nat) (l : Nat), (∀ g ∈ gs, g.length ≤ 4 ∧ (∀ x ∈ g, x.2.2 = 40 ∨ x.2.2 = 41 ∨ x.2.2 = 124) ∧ Quire.scan [] (wordOf (g.map lie)) = true) → (used gs.flatten).Nodup → l ∈ used gs.flatten →
    pmap gs.flatten [] m l = some (pval (gs.getD (gs.findIdx (hasL l)) []) (posOf (gs.getD (gs.findIdx (hasL l)) []) l))
  | [], _, _, _, _, h => by cases h
  | g :: gs, m, l, hg, nd, h => by
    obtain ⟨h1, h2, h3⟩ := hg g (by simp)
    rw [List.flatten_cons, used_app] at nd h
    obtain ⟨n1, n2, n3⟩ := List.nodup_append.mp nd
    rw [List.flatten_cons, pmap_app, List.findIdx_cons, stk_paired g [] h2 h3]
    by_cases hl : l ∈ used g
    · rw [hasL_iff.mpr hl]
      rw [pmap_out _ _ _ l (fun z => n3 l hl l z rfl) (by simp)]
      simp only [cond_true, List.getD_cons_zero]
      exact pval_short g m h1 h2 n1 h3 _ l (used_getElem g l hl)
    · have : hasL l g = false := by
        cases e : hasL l g with
        | false => rfl
        | true => exact absurd (hasL_iff.mp e) hl
      rw [this]
      simp only [cond_false, List.getD_cons_succ]
      have hr : l ∈ used gs.flatten := by
        rcases List.mem_append.mp h with h | h
        · exact absurd h hl
        · exact h
      exact pmap_groups gs _ l (fun g' hg' => hg g' (by simp [hg'])) n2 hr
private theorem Whole.scans {n : Nat} {b : PBook} (h : Whole n b) (hn : n ≤ 21) : ∀ g ∈ groups b, Quire.scan [] (wordOf (g.map lie)) = true := fun g hg => by
  have := (h.words hn (wordOf (g.map lie)) (by unfold bk; rw [List.map_map]; exact List.mem_map.mpr ⟨g, hg, rfl⟩)).2.2
  unfold Quire.right at this
  rw [Bool.and_eq_true] at this
  exact this.2
private theorem Whole.partner {n : Nat} {b : PBook} (h : Whole n b) (hn : n ≤ 4) {l : Nat} (hl : 1 ≤ l ∧ l ≤ n) : pmap b [] noneM l = some ((bk b).partner l) := by
  have hu := h.used.mpr hl
  have e := groups_flat b
  have := pmap_groups (groups b) noneM l (fun g hg => ⟨?_, fun x hx => ?_, h.scans (by omega) g hg⟩) (by rw [e]; exact h.pre.nd) (by rw [e]; exact hu)
  · rw [e] at this
    rw [this]
    congr 1
    unfold Book.partner pval
    rw [bk_gathering]
    have eg : (bk b).getD ((groups b).findIdx (hasL l)) [] = ((groups b).getD ((groups b).findIdx (hasL l)) []).map lie := by
      unfold bk
      rw [List.getD_eq_getElem?_getD, List.getD_eq_getElem?_getD, List.getElem?_map]
      cases (groups b)[(groups b).findIdx (hasL l)]? <;> rfl
    simp only [eg]
    have ep : (((groups b).getD ((groups b).findIdx (hasL l)) []).map lie).findIdx (fun (x : Lies) => x.leaf == l) = posOf ((groups b).getD ((groups b).findIdx (hasL l)) []) l := by
      rw [List.findIdx_map]
      rfl
    rw [ep]
    rfl
  · have q : g.length ≤ (groups b).flatten.length := (List.sublist_flatten_of_mem hg).length_le
    rw [e, h.len] at q
    omega
  · exact h.pre.sign x (by rw [← e]; exact List.mem_flatten.mpr ⟨g, hg, hx⟩)
end M
end
section
set_option linter.all false
namespace M
open QuireSeen QuireBack
private theorem isLeaf_iff {n l : Nat} : isLeafOf n l = true ↔ 1 ≤ l ∧ l ≤ n := by
  unfold isLeafOf
  simp only [Bool.and_eq_true, decide_eq_true_eq]
private theorem rise_nd : ∀ {l : List Nat}, risingNats l = true → l.Pairwise (· < ·)
  | [], _ => List.Pairwise.nil
  | [a], _ => by simp
  | a :: b :: r, h => by
    unfold risingNats at h
    simp only [Bool.and_eq_true, decide_eq_true_eq] at h
    have ih := rise_nd h.2
    refine List.Pairwise.cons (fun c hc => ?_) ih
    simp only [List.mem_cons] at hc
    rcases hc with rfl | hc
    · exact h.1
    · exact Nat.lt_trans h.1 ((List.pairwise_cons.mp ih).1 c hc)
private theorem dec_beq (a b : Nat) : decide (a = b) = (a == b) := by
  cases h : a == b with
  | true => exact decide_eq_true (eq_of_beq h)
  | false => exact decide_eq_false (ne_of_beq_false h)
private theorem facing_same (i j : Nat) : (decide (min i j % 2 = 1) && decide (max i j = min i j + 1)) = ((i % 2 == 1 && j == i + 1) || (j % 2 == 1 && i == j + 1)) := by
  rw [Bool.eq_iff_iff]
  simp only [Bool.and_eq_true, Bool.or_eq_true, decide_eq_true_eq, beq_iff_eq]
  constructor
  · rintro ⟨h1, h2⟩
    by_cases h : i ≤ j
    · rw [Nat.min_eq_left h] at h1 h2
      rw [Nat.max_eq_right h] at h2
      exact Or.inl ⟨h1, h2⟩
    · rw [Nat.min_eq_right (by omega)] at h1 h2
      rw [Nat.max_eq_left (by omega)] at h2
      exact Or.inr ⟨h1, h2⟩
  · rintro (⟨h1, h2⟩ | ⟨h1, h2⟩)
    · rw [Nat.min_eq_left (by omega), Nat.max_eq_right (by omega)]
      exact ⟨h1, h2⟩
    · rw [Nat.min_eq_right (by omega), Nat.max_eq_left (by omega)]
      exact ⟨h1, h2⟩
private theorem contains_key (l : List Side) (k : Nat) : (l.map Side.key).contains k = l.contains (sideOf k) := by
  rw [Bool.eq_iff_iff]
  simp only [List.contains_eq_mem, decide_eq_true_eq, List.mem_map]
  constructor
  · rintro ⟨s, hs, rfl⟩
    rw [sideOf_key]
    exact hs
  · intro h
    exact ⟨_, h, key_sideOf k⟩
private theorem core_same {n : Nat} {b : PBook} (h : Whole n b) (hn : n ≤ 4) {c : Core} (hc : c.ok n = true) :
    holdsM (convC c).1 (convC c).2 (sidesIn b) (pmap b [] noneM) (gmap b 0 noneM) = holds (bk b) c := by
  cases c with
  | next s t =>
    show decide ((sidesIn b).idxOf t.key = (sidesIn b).idxOf s.key + 1) = ((bk b).at_ t == (bk b).at_ s + 1)
    rw [bk_at, bk_at, dec_beq]
  | faces s t =>
    show areFacing (sidesIn b) s.key t.key = _
    unfold areFacing
    simp only
    rw [facing_same]
    show _ = (((bk b).at_ s % 2 == 1 && (bk b).at_ t == (bk b).at_ s + 1) || ((bk b).at_ t % 2 == 1 && (bk b).at_ s == (bk b).at_ t + 1))
    rw [bk_at, bk_at]
  | front s =>
    show decide ((sidesIn b).idxOf s.key % 2 = 0) = ((bk b).at_ s % 2 == 0)
    rw [bk_at, dec_beq]
  | sheet l m =>
    simp only [Core.ok, Bool.and_eq_true] at hc
    show decide (pmap b [] noneM l = some m) = ((bk b).partner l == m)
    rw [h.partner hn (isLeaf_iff.mp hc.1), ← dec_beq]
    congr 1
    simp
  | alone l =>
    simp only [Core.ok] at hc
    show decide (pmap b [] noneM l = some 0) = ((bk b).partner l == 0)
    rw [h.partner hn (isLeaf_iff.mp hc), ← dec_beq]
    congr 1
    simp
  | before l m =>
    show decide (placeOf (sidesIn b) l < placeOf (sidesIn b) m) = decide ((bk b).pos l < (bk b).pos m)
    rw [place_pos, place_pos, bk_pos, bk_pos]
  | together l m =>
    simp only [Core.ok, Bool.and_eq_true] at hc
    show decide (gmap b 0 noneM l = gmap b 0 noneM m) = ((bk b).gathering l == (bk b).gathering m)
    rw [h.gather (isLeaf_iff.mp hc.1), h.gather (isLeaf_iff.mp hc.2.1), ← dec_beq]
    congr 1
    simp
  | hole l =>
    simp only [Core.ok, Bool.and_eq_true, decide_eq_true_eq, List.all_eq_true] at hc
    obtain ⟨h2, ha, hr⟩ := hc
    show lieRow (sidesIn b) l = _
    unfold lieRow holds
    have em : l.map (placeOf (sidesIn b)) = l.map (posOf b) := List.map_congr_left fun x _ => place_pos b x
    rw [em]
    have mu : ∀ x ∈ l, x ∈ used b := fun x hx => h.used.mpr (isLeaf_iff.mp (ha x hx))
    have nd : (l.map (posOf b)).Nodup := by
      refine List.pairwise_map.mpr ((rise_nd hr).imp_of_mem fun {x y} hx hy hlt e => ?_)
      have := pos_inj (mu x hx) (mu y hy) e
      omega
    have ne : l.map (posOf b) ≠ [] := by
      intro e
      rw [List.map_eq_nil_iff] at e
      subst e
      simp at h2
    rw [Bool.eq_iff_iff]
    have ri := row_iff nd ne
    rw [List.length_map] at ri
    simp only [decide_eq_true_eq, ri, List.any_eq_true, List.all_eq_true, Bool.and_eq_true, List.mem_range, bk_pos]
    have el : (bk b).leaves.length = n := by rw [bk_leaves, List.length_map, h.len]
    rw [el]
    constructor
    · rintro ⟨i, hi⟩
      refine ⟨i, ?_, fun x hx => hi (posOf b x) (List.mem_map.mpr ⟨x, hx, rfl⟩)⟩
      cases l with
      | nil => exact absurd rfl ne
      | cons x r =>
        have q := (hi (posOf b x) (List.mem_map.mpr ⟨x, by simp, rfl⟩)).1
        have := pos_lt (mu x (by simp))
        rw [h.len] at this
        omega
    · rintro ⟨i, _, hi⟩
      refine ⟨i, fun y hy => ?_⟩
      obtain ⟨x, hx, rfl⟩ := List.mem_map.mp hy
      exact hi x hx
  | hair l =>
    show marksMeet (sidesIn b) (l.map Side.key) = _
    unfold marksMeet holds
    have el : (bk b).leaves.length = b.length := by rw [bk_leaves, List.length_map]
    rw [el, sidesIn_len, show 2 * b.length / 2 - 1 = b.length - 1 by omega]
    have one : ∀ i ∈ List.range (b.length - 1), ((l.map Side.key).contains ((sidesIn b).getD (2 * i + 1) 0) == (l.map Side.key).contains ((sidesIn b).getD (2 * i + 2) 0)) =
        (match (bk b).sides[2 * i + 1]?, (bk b).sides[2 * i + 2]? with
          | some s, some t => l.contains s == l.contains t
          | _, _ => true) := by
      intro i hi
      rw [List.mem_range] at hi
      have hl := sidesIn_len b
      have l1 : 2 * i + 1 < (sidesIn b).length := by omega
      have l2 : 2 * i + 2 < (sidesIn b).length := by omega
      rw [bk_sides, List.getElem?_map, List.getElem?_map, List.getD_eq_getElem?_getD, List.getD_eq_getElem?_getD, List.getElem?_eq_getElem l1, List.getElem?_eq_getElem l2]
      simp only [Option.map_some, Option.getD_some, contains_key]
    rw [Bool.eq_iff_iff, List.all_eq_true, List.all_eq_true]
    constructor
    · intro q i hi; exact (one i hi).symm.trans (q i hi)
    · intro q i hi; exact (one i hi).trans (q i hi)
private theorem finding_holds {n : Nat} {b : PBook} (h : Whole n b) (hn : n ≤ 4) {f : Finding} (hf : f.core.ok n = true) :
    (holdsM (conv f).2.1 (conv f).2.2 (sidesIn b) (pmap b [] noneM) (gmap b 0 noneM) == (conv f).1) = f.holds (bk b) := by
  unfold Finding.holds conv
  simp only
  rw [core_same h hn hf]
  cases holds (bk b) f.core <;> cases f.no <;> rfl
private theorem agrees_same {n : Nat} {b : PBook} (h : Whole n b) (hn : n ≤ 4) {fs : List Finding} (hf : (fs.all fun f => f.core.ok n) = true) :
    agreesM b (fs.map conv) = fs.all (Finding.holds (bk b)) := by
  unfold agreesM
  rw [List.all_map, Bool.eq_iff_iff, List.all_eq_true, List.all_eq_true]
  rw [List.all_eq_true] at hf
  constructor
  · intro q f hx
    rw [← finding_holds h hn (hf f hx)]
    exact q f hx
  · intro q f hx
    have := q f hx
    rw [← finding_holds h hn (hf f hx)] at this
    exact this
end M
end
section
set_option linter.all false
namespace M
open QuireSeen QuireBack
noncomputable def allOf (n : Nat) (fs : List MF) : List PBook := (under n n []).filter fun b => agreesM b fs
private theorem agree_perm {F : Findings} (hok : F.ok = true) (h4 : F.n ≤ 4) : ((allOf F.n (F.l.map conv)).map bk).Perm (agreeing F) := by
  have hk : (F.l.all fun f => f.core.ok F.n) = true ∧ 1 ≤ F.n := by
    unfold Findings.ok at hok
    simp only [Bool.and_eq_true, decide_eq_true_eq] at hok
    exact ⟨hok.2.2.2, hok.1⟩
  unfold agreeing
  refine List.Perm.trans (List.Perm.of_eq ?_) ((books_perm hk.2 h4).filter (agrees F))
  unfold allOf
  rw [List.filter_map]
  congr 1
  refine List.filter_congr fun b hb => ?_
  exact agrees_same (whole_of hb) h4 hk.1
end M
end
section
set_option linter.all false
namespace M
open QuireSeen QuireBack
noncomputable def nat (t : List Int) : List Nat := t.map Int.toNat
private theorem bytes_nat {t : List Int} (hb : ∀ x ∈ t, 0 ≤ x ∧ x ≤ 255) : tn (QhBackNeutral.bytes t) = nat t := by
  unfold tn QhBackNeutral.bytes nat
  rw [List.map_map]
  refine List.map_congr_left fun x hx => ?_
  have := hb x hx
  show (UInt8.ofNat x.toNat).toNat = x.toNat
  rw [UInt8.toNat_ofNat']
  omega
private theorem bytes_len (t : List Int) : (QhBackNeutral.bytes t).length = t.length := by simp [QhBackNeutral.bytes]
noncomputable def FOk (n : Nat) (f : MF) : Prop := ∃ g : Finding, g.core.ok n = true ∧ f = conv g
private theorem within_ok {t : List UInt8} {k j : Nat} (hin : QuireD.within k j t = true) {n : Nat} {fs : List MF} (h : readFindings (tn t) = some (n, fs)) : 1 ≤ n ∧ n ≤ k ∧ fs.length ≤ j ∧ ∀ f ∈ fs, FOk n f := by
  rcases read_same t with ⟨F, e1, hok, e2⟩ | ⟨⟨e, e1⟩, e2⟩
  · rw [e2] at h
    cases h
    unfold QuireD.within at hin
    rw [e1] at hin
    unfold Findings.ok at hok
    simp only [Bool.and_eq_true, decide_eq_true_eq, List.all_eq_true] at hin hok
    refine ⟨hok.1, hin.1, by rw [List.length_map]; exact hin.2, fun f hf => ?_⟩
    obtain ⟨g, hg, rfl⟩ := List.mem_map.mp hf
    exact ⟨g, hok.2.2.2 g hg, rfl⟩
  · rw [e2] at h
    cases h
private theorem ok_pos {F : Findings} (hok : F.ok = true) : 1 ≤ F.n := by
  unfold Findings.ok at hok
  simp only [Bool.and_eq_true, decide_eq_true_eq] at hok
  exact hok.1
end M
namespace M
noncomputable def glue (cur : List Nat) : List (List Nat) → List (List Nat)
  | [] => [cur]
  | w :: ws => (cur ++ w) :: ws
private theorem glue_nil (m : Nat) (t : List Nat) : glue [] (spl m t) = spl m t := by
  cases e : spl m t with
  | nil => exact absurd e (spl_ne m t)
  | cons w ws => rfl
private theorem drop_at {α : Type} {l : List α} {i : Nat} {x : α} (h : l[i]? = some x) : l.drop i = x :: l.drop (i + 1) := by
  obtain ⟨h1, h2⟩ := List.getElem?_eq_some_iff.mp h
  rw [← h2]
  exact List.drop_eq_getElem_cons h1
private theorem spl_hit {m : Nat} {ns : List Nat} {i : Nat} (h : ns[i]? = some m) {done : List (List Nat)} {cur : List Nat} (e : spl m ns = done ++ glue cur (spl m (ns.drop i))) : spl m ns = (done ++ [cur]) ++ glue [] (spl m (ns.drop (i + 1))) := by
  rw [e, drop_at h, glue_nil, List.append_assoc]
  congr 1
  rw [spl, if_pos rfl]
  simp [glue]
private theorem spl_miss {m c : Nat} {ns : List Nat} {i : Nat} (h : ns[i]? = some c) (hc : ¬ c = m) {done : List (List Nat)} {cur : List Nat} (e : spl m ns = done ++ glue cur (spl m (ns.drop i))) : spl m ns = done ++ glue (cur ++ [c]) (spl m (ns.drop (i + 1))) := by
  rw [e, drop_at h]
  congr 1
  rw [spl, if_neg hc]
  cases e2 : spl m (ns.drop (i + 1)) with
  | nil => exact absurd e2 (spl_ne _ _)
  | cons w ws => simp [glue]
private theorem spl_end {m : Nat} {ns : List Nat} {i : Nat} (h : ns.length ≤ i) {done : List (List Nat)} {cur : List Nat} (e : spl m ns = done ++ glue cur (spl m (ns.drop i))) : spl m ns = done ++ [cur] := by
  rw [e, List.drop_of_length_le h]
  simp [spl, glue]
private theorem spl_len (m : Nat) : ∀ t : List Nat, (spl m t).length ≤ t.length + 1 ∧ ∀ w ∈ spl m t, w.length ≤ t.length
  | [] => by simp [spl]
  | c :: r => by
    obtain ⟨h1, h2⟩ := spl_len m r
    unfold spl
    split
    · refine ⟨by simp; omega, fun w hw => ?_⟩
      simp only [List.mem_cons] at hw
      rcases hw with rfl | hw
      · simp
      · have := h2 w hw; simp; omega
    · cases e : spl m r with
      | nil => exact absurd e (spl_ne m r)
      | cons p ps =>
        rw [e] at h1 h2
        refine ⟨by simp at h1 ⊢; omega, fun w hw => ?_⟩
        simp only [List.mem_cons] at hw
        rcases hw with rfl | hw
        · have := h2 p (by simp); simp; omega
        · have := h2 w (by simp [hw]); simp; omega
end M
namespace M
private theorem find_at {p : Nat → Bool} {lo : Nat} : ∀ {n i : Nat}, i < n → (∀ j, j < i → p (j + lo) = false) → p (i + lo) = true → ((List.range n).map (· + lo)).find? p = some (i + lo) := by
  intro n i hi hn hp
  have e : List.range n = List.range i ++ i :: (List.range n).drop (i + 1) := by
    conv => lhs; rw [← List.take_append_drop i (List.range n)]
    rw [List.take_range, Nat.min_eq_left (by omega), drop_at (x := i) (by simp [hi])]
  rw [e, List.map_append, List.find?_append, List.map_cons, List.find?_cons_of_pos hp]
  have : ((List.range i).map (· + lo)).find? p = none := by
    rw [List.find?_eq_none]
    intro x hx
    obtain ⟨j, hj, rfl⟩ := List.mem_map.mp hx
    rw [hn j (List.mem_range.mp hj)]
    simp
  rw [this]
  rfl
private theorem find_no {p : Nat → Bool} {lo n : Nat} (hn : ∀ j, j < n → p (j + lo) = false) : ((List.range n).map (· + lo)).find? p = none := by
  rw [List.find?_eq_none]
  intro x hx
  obtain ⟨j, hj, rfl⟩ := List.mem_map.mp hx
  rw [hn j (List.mem_range.mp hj)]
  simp
private theorem readNumber_hit {most i : Nat} {w : List Nat} (hi : i < most) (hn : ∀ j, j < i → ¬ w = numText (j + 1)) (h : w = numText (i + 1)) : readNumber most w = i + 1 := by
  unfold readNumber
  rw [find_at (p := fun k => decide (w = numText k)) hi (fun j hj => decide_eq_false (hn j hj)) (decide_eq_true h)]
  rfl
private theorem readNumber_no {most : Nat} {w : List Nat} (hn : ∀ j, j < most → ¬ w = numText (j + 1)) : readNumber most w = 0 := by
  unfold readNumber
  rw [find_no (p := fun k => decide (w = numText k)) fun j hj => decide_eq_false (hn j hj)]
  rfl
private theorem readSide_hit {n i : Nat} {w : List Nat} (hi : i < 2 * n) (hn : ∀ j, j < i → ¬ w = sideText (j + 2)) (h : w = sideText (i + 2)) : readSide n w = i + 2 := by
  unfold readSide
  rw [find_at (p := fun k => decide (w = sideText k)) hi (fun j hj => decide_eq_false (hn j hj)) (decide_eq_true h)]
  rfl
private theorem readSide_no {n : Nat} {w : List Nat} (hn : ∀ j, j < 2 * n → ¬ w = sideText (j + 2)) : readSide n w = 0 := by
  unfold readSide
  rw [find_no (p := fun k => decide (w = sideText k)) fun j hj => decide_eq_false (hn j hj)]
  rfl
private theorem rising_step {last x : Nat} {l : List Nat} {i : Nat} (h : l[i]? = some x) (hx : ¬ x ≤ last) : rising last (l.drop i) = rising x (l.drop (i + 1)) := by
  rw [drop_at h, rising, if_neg hx]
private theorem rising_stop {last x : Nat} {l : List Nat} {i : Nat} (h : l[i]? = some x) (hx : x ≤ last) : rising last (l.drop i) = false := by
  rw [drop_at h, rising, if_pos hx]
end M
namespace M
private theorem readAll_step {n : Nat} {ls : List (List Nat)} {i : Nat} {l : List Nat} (h : ls[i]? = some l) {f : MF} (hf : readFinding n l = some f) {fs : List MF} (e : readAll n ls = (readAll n (ls.drop i)).map fun r => fs ++ r) :
    readAll n ls = (readAll n (ls.drop (i + 1))).map fun r => (fs ++ [f]) ++ r := by
  rw [e, drop_at h, readAll, hf]
  simp only [Option.map_map]
  congr 1
  funext r
  simp
private theorem readAll_none {n : Nat} {ls : List (List Nat)} {i : Nat} {l : List Nat} (h : ls[i]? = some l) (hf : readFinding n l = none) {fs : List MF} (e : readAll n ls = (readAll n (ls.drop i)).map fun r => fs ++ r) : readAll n ls = none := by
  rw [e, drop_at h, readAll, hf]
  rfl
private theorem readAll_end {n : Nat} {ls : List (List Nat)} {i : Nat} (h : ls.length ≤ i) {fs : List MF} (e : readAll n ls = (readAll n (ls.drop i)).map fun r => fs ++ r) : readAll n ls = some fs := by
  rw [e, List.drop_of_length_le h]
  simp [readAll]
private theorem readAll_start (n : Nat) (ls : List (List Nat)) : readAll n ls = (readAll n (ls.drop 0)).map fun r => [] ++ r := by
  simp
end M
end
section
set_option linter.all false
namespace M
open QuireSeen QuireBack
noncomputable def PartsOk (kind : Nat) (parts sides : List Nat) (pm gm : Nat → Option Nat) : Prop :=
  if kind = 62 ∨ kind = 124 then ∃ a b, parts = [a, b] ∧ a ∈ sides ∧ b ∈ sides
  else if kind = 94 then ∃ a, parts = [a] ∧ a ∈ sides
  else if kind = 61 then ∃ a b x, parts = [a, b] ∧ pm a = some x
  else if kind = 60 then ∃ a b, parts = [a, b] ∧ 2 * a ∈ sides ∧ 2 * b ∈ sides
  else if kind = 126 then ∃ a b x y, parts = [a, b] ∧ gm a = some x ∧ gm b = some y
  else if kind = 111 then parts ≠ [] ∧ parts.length ≤ 1000 ∧ ∀ l ∈ parts, 2 * l ∈ sides
  else True
private theorem Whole.side {n : Nat} {b : PBook} (h : Whole n b) {k : Nat} (h1 : 2 ≤ k) (h2 : k < 2 * n + 2) : k ∈ sidesIn b := by
  have hu : k / 2 ∈ M.used b := h.used.mpr (by omega)
  obtain ⟨x, hx, e⟩ := List.mem_map.mp hu
  unfold sidesIn
  refine List.mem_flatMap.mpr ⟨x, hx, ?_⟩
  simp only [List.mem_cons, List.not_mem_nil, or_false]
  omega
private theorem parts_ok {n : Nat} {b : PBook} (h : Whole n b) (hn : n ≤ 4) {f : MF} (hf : FOk n f) : PartsOk f.2.1 f.2.2 (sidesIn b) (pmap b [] noneM) (gmap b 0 noneM) := by
  obtain ⟨g, hg, rfl⟩ := hf
  have sd : ∀ {s : Side}, isLeafOf n s.leaf = true → s.key ∈ sidesIn b := fun hs => by
    have := leaf_key hs
    exact h.side this.1 this.2
  have lf : ∀ {l : Nat}, isLeafOf n l = true → 2 * l ∈ sidesIn b := fun hl => by
    have := isLeaf_iff.mp hl
    exact h.side (by omega) (by omega)
  obtain ⟨no, c⟩ := g
  unfold PartsOk conv
  cases c with
  | next s t =>
    simp only [Core.ok, Bool.and_eq_true] at hg
    exact ⟨_, _, rfl, sd hg.1, sd hg.2.1⟩
  | faces s t =>
    simp only [Core.ok, Bool.and_eq_true] at hg
    exact ⟨_, _, rfl, sd hg.1, sd hg.2.1⟩
  | front s =>
    simp only [Core.ok] at hg
    exact ⟨_, rfl, sd hg⟩
  | sheet l m =>
    simp only [Core.ok, Bool.and_eq_true] at hg
    exact ⟨_, _, _, rfl, h.partner hn (isLeaf_iff.mp hg.1)⟩
  | alone l =>
    simp only [Core.ok] at hg
    exact ⟨_, _, _, rfl, h.partner hn (isLeaf_iff.mp hg)⟩
  | before l m =>
    simp only [Core.ok, Bool.and_eq_true] at hg
    exact ⟨_, _, rfl, lf hg.1, lf hg.2.1⟩
  | together l m =>
    simp only [Core.ok, Bool.and_eq_true] at hg
    exact ⟨_, _, _, _, rfl, h.gather (isLeaf_iff.mp hg.1), h.gather (isLeaf_iff.mp hg.2.1)⟩
  | hole l =>
    simp only [Core.ok, Bool.and_eq_true, decide_eq_true_eq, List.all_eq_true] at hg
    refine ⟨?_, ?_, fun x hx => lf (hg.2.1 x hx)⟩
    · intro e
      have e : l = [] := e
      subst e
      simp at hg
    · have nd : l.Nodup := (rise_nd hg.2.2).imp fun h => Nat.ne_of_lt h
      have := within_len (a := 1) (k := n) nd fun x hx => by have := isLeaf_iff.mp (hg.2.1 x hx); omega
      show l.length ≤ 1000
      omega
  | hair l => exact trivial
end M
end
section
set_option linter.all false
namespace M
open QuireSeen QuireBack
private theorem flat_len {α β : Type} {f : α → List β} {c : Nat} : ∀ {l : List α}, (∀ x ∈ l, (f x).length ≤ c) → (l.flatMap f).length ≤ l.length * c
  | [], _ => by simp
  | x :: r, h => by
    have ih := flat_len (l := r) fun y hy => h y (by simp [hy])
    have hx := h x (by simp)
    rw [List.flatMap_cons, List.length_append, List.length_cons, Nat.add_mul]
    omega
private theorem ways_len (n : Nat) (b : PBook) : (nextWays n b).length ≤ 4 ∧ ∀ w ∈ nextWays n b, w.2.length ≤ 2 := by
  unfold nextWays
  refine ⟨?_, fun w hw => ?_⟩
  · simp only [List.length_append]
    by_cases hb : b = []
    · by_cases hd : depth b = 0
      · rw [if_pos hb, if_pos hd, if_pos hb]; simp
      · rw [if_pos hb, if_neg hd, if_pos hb]; simp
    · by_cases hd : depth b = 0
      · rw [if_neg hb, if_pos hd, if_neg hb]; simp
      · rw [if_neg hb, if_neg hd, if_neg hb]; simp
  · simp only [List.mem_append] at hw
    rcases hw with hw | hw | hw
    · split at hw
      · cases hw
      · rw [List.mem_singleton.mp hw]
        simp only
        split <;> simp
    · split at hw
      · simp only [List.mem_cons, List.not_mem_nil, or_false] at hw
        rcases hw with rfl | rfl
        · simp only; split <;> simp
        · simp only; split <;> simp
      · cases hw
    · split at hw
      · cases hw
      · rw [List.mem_singleton.mp hw]
        simp only [List.length_append]
        split <;> split <;> simp
private theorem ways_sum (n : Nat) (b : PBook) : ((nextWays n b).map fun w => w.2.length).sum ≤ 4 := by
  unfold nextWays
  simp only
  by_cases hb : b = []
  · by_cases hd : depth b = 0
    · simp only [if_pos hb, if_pos hd]
      split <;> split <;> simp
    · simp only [if_pos hb, if_neg hd]
      simp
  · by_cases hd : depth b = 0
    · simp only [if_neg hb, if_pos hd]
      rw [if_neg (show ¬ 0 < depth b by omega)]
      split <;> split <;> simp
    · simp only [if_neg hb, if_neg hd]
      rw [if_pos (show 0 < depth b by omega)]
      split <;> split <;> simp
private theorem leaves_len : ∀ (ws : List (Bool × List Nat)) (fs : List Nat), (leavesOf ws fs).length = fs.length * (ws.map fun w => w.2.length).sum
  | [], fs => by simp [leavesOf]
  | w :: ws, fs => by
    have ih := leaves_len ws fs
    unfold leavesOf at ih ⊢
    rw [List.flatMap_cons, List.length_append, ih, List.map_cons, List.sum_cons, Nat.mul_add]
    congr 1
    clear ih
    induction fs with
    | nil => simp
    | cons f r ih =>
      rw [List.flatMap_cons, List.length_append, ih, List.length_map, List.length_cons, Nat.add_mul]
      omega
private theorem fronts_len (n : Nat) (b : PBook) : (freeFronts n b).length ≤ 2 * n := by
  unfold freeFronts
  refine Nat.le_trans (List.length_filter_le _ _) ?_
  simp
private theorem range_nodup (n : Nat) : ((List.range n).map (· + 2)).Nodup := by
  refine List.pairwise_map.mpr (List.Pairwise.imp ?_ List.nodup_range)
  intro a b h e
  exact h (by omega)
private theorem fronts_few {n : Nat} {b : PBook} (h : Pre n b) : (freeFronts n b).length + 2 * b.length ≤ 2 * n := by
  have nd : (freeFronts n b ++ (used b).flatMap fun l => [2 * l, 2 * l + 1]).Nodup := by
    rw [List.nodup_append]
    refine ⟨List.Pairwise.filter _ (range_nodup _), ?_, fun x hx y hy e => ?_⟩
    · have := h.nd
      generalize used b = u at this
      clear h
      induction u with
      | nil => simp
      | cons l r ih =>
        obtain ⟨h1, h2⟩ := List.nodup_cons.mp this
        rw [List.flatMap_cons, List.nodup_append]
        refine ⟨by simp, ih h2, fun x hx y hy e => ?_⟩
        subst e
        obtain ⟨l', hl', hx'⟩ := List.mem_flatMap.mp hy
        simp only [List.mem_cons, List.not_mem_nil, or_false] at hx hx'
        have : l = l' := by omega
        subst this
        exact h1 hl'
    · subst e
      obtain ⟨l', hl', hx'⟩ := List.mem_flatMap.mp hy
      simp only [List.mem_cons, List.not_mem_nil, or_false] at hx'
      have := (mem_free.mp hx).2
      have e : x / 2 = l' := by omega
      rw [e] at this
      exact this hl'
  have hs := sub_len (B := (List.range (2 * n)).map (· + 2)) nd fun x hx => by
    rw [List.mem_append] at hx
    rcases hx with hx | hx
    · have := (mem_free.mp hx).1
      exact List.mem_map.mpr ⟨x - 2, List.mem_range.mpr (by omega), by omega⟩
    · obtain ⟨l', hl', hx'⟩ := List.mem_flatMap.mp hx
      obtain ⟨y, hy, rfl⟩ := List.mem_map.mp hl'
      have := h.front y hy
      simp only [List.mem_cons, List.not_mem_nil, or_false] at hx'
      exact List.mem_map.mpr ⟨x - 2, List.mem_range.mpr (by omega), by omega⟩
  have e2 : ((used b).flatMap fun l => [2 * l, 2 * l + 1]).length = 2 * b.length := by
    have : (used b).length = b.length := by simp [used]
    rw [← this]
    generalize used b = u
    clear nd hs this
    induction u with
    | nil => rfl
    | cons l r ih => rw [List.flatMap_cons, List.length_append, ih, List.length_cons]; simp; omega
  rw [List.length_append, e2, List.length_map, List.length_range] at hs
  exact hs
private theorem next_few {n : Nat} {b : PBook} (h : Pre n b) : (nextLeaves n b).length ≤ 8 * (n - b.length) := by
  unfold nextLeaves
  rw [leaves_len]
  have h1 := fronts_few h
  have h2 := ways_sum n b
  calc _ ≤ (freeFronts n b).length * 4 := Nat.mul_le_mul_left _ h2
    _ ≤ _ := by omega
noncomputable def cost (n : Nat) : Nat → PBook → Nat
  | 0, _ => 1
  | f + 1, b => 1 + ((nextLeaves n b).map fun x => cost n f (b ++ [x])).sum
noncomputable def costs (n : Nat) (bs : List PBook) : Nat := (bs.map fun b => cost n (n - b.length) b).sum
noncomputable def remOf (n : Nat) (bs : List PBook) : List PBook := bs.reverse.flatMap fun b => under n (n - b.length) b
private theorem cost_pos (n f : Nat) (b : PBook) : 1 ≤ cost n f b := by
  cases f with
  | zero => exact Nat.le_refl _
  | succ f => rw [cost]; omega
private theorem costs_app (n : Nat) (as bs : List PBook) : costs n (as ++ bs) = costs n as + costs n bs := by
  unfold costs
  rw [List.map_append, List.sum_append]
private theorem costs_len (n : Nat) : ∀ bs : List PBook, bs.length ≤ costs n bs
  | [] => Nat.zero_le _
  | b :: r => by
    have ih := costs_len n r
    have := cost_pos n (n - b.length) b
    unfold costs at ih ⊢
    rw [List.map_cons, List.sum_cons, List.length_cons]
    omega
private theorem sum_rev (l : List Nat) : l.reverse.sum = l.sum := List.sum_reverse l
private theorem costs_push {n : Nat} {b : PBook} (h : b.length < n) : costs n ((nextLeaves n b).reverse.map fun x => b ++ [x]) + 1 = cost n (n - b.length) b := by
  obtain ⟨f, hf⟩ : ∃ f, n - b.length = f + 1 := ⟨n - b.length - 1, by omega⟩
  rw [hf, cost]
  unfold costs
  rw [List.map_map, List.map_reverse, sum_rev]
  rw [Nat.add_comm]
  congr 2
  refine List.map_congr_left fun x _ => ?_
  show cost n (n - (b ++ [x]).length) (b ++ [x]) = _
  rw [List.length_append, List.length_singleton, show n - (b.length + 1) = f by omega]
private theorem rem_snoc (n : Nat) (bs : List PBook) (b : PBook) : remOf n (bs ++ [b]) = under n (n - b.length) b ++ remOf n bs := by
  unfold remOf
  rw [List.reverse_append, List.flatMap_append]
  simp
private theorem rem_push {n : Nat} {b : PBook} (bs : List PBook) (h : b.length < n) : remOf n (bs ++ (nextLeaves n b).reverse.map fun x => b ++ [x]) = remOf n (bs ++ [b]) := by
  obtain ⟨f, hf⟩ : ∃ f, n - b.length = f + 1 := ⟨n - b.length - 1, by omega⟩
  rw [rem_snoc, hf, under]
  unfold remOf
  rw [List.reverse_append, List.flatMap_append]
  congr 1
  rw [← List.map_reverse, List.reverse_reverse, List.flatMap_map]
  have e : (fun a => under n (n - List.length (b ++ [a])) (b ++ [a])) = fun x => under n f (b ++ [x]) := by
    funext x
    rw [List.length_append, List.length_singleton, show n - (b.length + 1) = f by omega]
  rw [e]
noncomputable def top4 : Nat → Nat
  | 0 => 1
  | f + 1 => 1 + 8 * (f + 1) * top4 f
private theorem sum_le {c : Nat} : ∀ {l : List Nat}, (∀ x ∈ l, x ≤ c) → l.sum ≤ l.length * c
  | [], _ => by simp
  | x :: r, h => by
    have ih := sum_le (l := r) fun y hy => h y (by simp [hy])
    have hx := h x (by simp)
    rw [List.sum_cons, List.length_cons, Nat.add_mul]
    omega
private theorem cost_le {n : Nat} : ∀ (f : Nat) (b : PBook), Pre n b → b.length + f = n → cost n f b ≤ top4 f
  | 0, _, _, _ => Nat.le_refl _
  | f + 1, b, h, hl => by
    rw [cost, top4]
    have h1 := next_few h
    have h2 : ((nextLeaves n b).map fun x => cost n f (b ++ [x])).sum ≤ (nextLeaves n b).length * top4 f := by
      have := sum_le (c := top4 f) (l := (nextLeaves n b).map fun x => cost n f (b ++ [x])) fun y hy => by
        obtain ⟨x, hx, rfl⟩ := List.mem_map.mp hy
        exact cost_le f _ (h.snoc hx) (by rw [List.length_append, List.length_singleton]; omega)
      rw [List.length_map] at this
      exact this
    have h3 : (nextLeaves n b).length * top4 f ≤ 8 * (f + 1) * top4 f := Nat.mul_le_mul_right _ (by omega)
    omega
private theorem cost_start {n : Nat} (h4 : n ≤ 4) : costs n [[]] ≤ 200000 := by
  unfold costs
  have := cost_le (n := n) n [] (Pre.nil n) (by simp)
  simp only [List.map_cons, List.map_nil, List.sum_cons, List.sum_nil, List.length_nil, Nat.sub_zero, Nat.add_zero]
  refine Nat.le_trans this ?_
  obtain rfl | rfl | rfl | rfl | rfl : n = 0 ∨ n = 1 ∨ n = 2 ∨ n = 3 ∨ n = 4 := by omega
  all_goals decide
private theorem rem_start (n : Nat) : remOf n [[]] = under n n [] := by
  unfold remOf
  simp
end M
end
section
set_option linter.all false
namespace M
open QuireSeen QuireBack
private theorem said_same {t f : List UInt8} {k : Findings → Finding → List Int} {g : Nat → List MF → MF → List Int} {m j : Nat} (hm : m ≤ 16) (hin : QuireD.within m j t = true)
    (h : ∀ (F : Findings) (x : Finding), F.ok = true → F.n ≤ m → F.l.length ≤ j → x.core.ok F.n = true → k F x = g F.n (F.l.map conv) (conv x)) : QuireD.ofSaid t f k = if 8192 < t.length ∨ 8192 < f.length then [-2] else match readFindings (tn t) with
      | none => [-6]
      | some x => (match readFinding x.1 (tn f) with
        | none => [-3]
        | some y => g x.1 x.2 y) := by
  unfold QuireD.ofSaid
  show (if 8192 < t.length ∨ 8192 < f.length then _ else _) = _
  split
  · rfl
  · rename_i hl
    unfold QuireD.of
    rw [if_neg (show ¬ QuireD.TEXT < t.length from fun z => hl (Or.inl z))]
    rcases read_same t with ⟨F, e1, hok, e2⟩ | ⟨⟨e, e1⟩, e2⟩
    · rw [e1, e2]
      simp only
      have hin' : F.n ≤ m ∧ F.l.length ≤ j := by
        unfold QuireD.within at hin
        rw [e1] at hin
        simp only [Bool.and_eq_true, decide_eq_true_eq] at hin
        exact hin
      rcases finding_same (n := F.n) (by omega) f with ⟨x, h1, h2, h3⟩ | ⟨h1, h2⟩
      · rw [h1, h3]
        exact h F x hok hin'.1 hin'.2 h2
      · rw [h1]
        rcases h2 with h2 | h2
        · rw [h2]
          rfl
        · cases e3 : readFinding F.n (tn f) with
          | none => rfl
          | some x =>
            obtain ⟨y, hy, e4, _⟩ := finding_sound (by omega) e3
            have no := ftext_no (by omega) hy
            rw [← e4] at no
            exact absurd (List.mem_map.mpr ⟨10, h2, rfl⟩) no
    · rw [e1, e2]
      rfl
noncomputable def oppM (f : MF) : MF := (!f.1, f.2)
private theorem opp_holds (f : MF) (x : Bool) : (x == (oppM f).1) = !(x == f.1) := by
  unfold oppM
  cases x <;> cases f.1 <;> rfl
private theorem FOk.opp {n : Nat} {f : MF} (h : FOk n f) : FOk n (oppM f) := by
  obtain ⟨g, hg, rfl⟩ := h
  refine ⟨⟨!g.no, g.core⟩, hg, ?_⟩
  unfold oppM conv
  simp
private theorem said_ok {n : Nat} (hn : n ≤ 16) {f : List Nat} {x : MF} (h : readFinding n f = some x) : FOk n x := by
  obtain ⟨g, hg, _, e⟩ := finding_sound hn h
  exact ⟨g, hg, e⟩
end M
end
section
set_option linter.all false
namespace M
open QuireSeen QuireBack
noncomputable def speakM (fs : List MF) (b : PBook) : List Nat := ((List.range fs.length).filter fun k => !agreesM b [fs.getD k (false, 0, [])]).map (· + 1)
noncomputable def outM (row : List Nat) (A : List (List Nat)) : Bool := A.all fun ns => ns.any fun x => decide (x ∈ row)
noncomputable def rangeL (lo hi : Nat) : List Nat := (List.range (hi - lo)).map fun i => lo + 1 + i
noncomputable def lastN (row : List Nat) : Nat := row.getLast?.getD 0
noncomputable def longerM (most : Nat) (rows : List (List Nat)) : List (List Nat) := rows.flatMap fun r => (rangeL (lastN r) most).map fun x => r ++ [x]
noncomputable def rowsAt (most : Nat) : Nat → List (List Nat)
  | 0 => [[]]
  | k + 1 => longerM most (rowsAt most k)
noncomputable def fewFrom (most : Nat) (A : List (List Nat)) : Nat → List (List Nat) → List Nat
  | 0, _ => []
  | f + 1, rows => match rows.find? fun r => outM r A with
    | some r => r
    | none => fewFrom most A f (longerM most rows)
noncomputable def fewestM (most : Nat) (A : List (List Nat)) : List Nat := fewFrom most A (most + 1) [[]]
private theorem rows_choose : ∀ most, most < 9 → ∀ k, k < 10 → rowsAt most k = (choose k (List.range most)).map fun s => s.map (· + 1) := by decide +kernel
private theorem rows_few : ∀ most, most < 9 → ∀ k, k < 10 → (rowsAt most k).length ≤ 70 := by decide +kernel
private theorem rows_short : ∀ most, most < 9 → ∀ k, k < 10 → (rowsAt most k).all (fun r => decide (r.length = k) && r.all fun x => decide (x ≤ most)) = true := by decide +kernel
private theorem rows_end : ∀ most, most < 9 → rowsAt most (most + 1) = [] := by decide +kernel
private theorem few_find {most : Nat} {A : List (List Nat)} : ∀ (f k : Nat), fewFrom most A f (rowsAt most k) = ((((List.range f).map (· + k)).flatMap fun j => rowsAt most j).find? fun r => outM r A).getD []
  | 0, k => rfl
  | f + 1, k => by
    have e : (List.range (f + 1)).map (· + k) = k :: (List.range f).map (· + (k + 1)) := by
      rw [List.range_succ_eq_map, List.map_cons, List.map_map, Nat.zero_add]
      congr 1
      refine List.map_congr_left fun x _ => ?_
      show x + 1 + k = x + (k + 1)
      omega
    rw [e, List.flatMap_cons, List.find?_append]
    unfold fewFrom
    cases h : (rowsAt most k).find? fun r => outM r A with
    | some r => rfl
    | none =>
      simp only [Option.none_or]
      exact few_find f (k + 1)
private theorem out_mono {A A' : List (List Nat)} (h : ∀ x, x ∈ A ↔ x ∈ A') (row : List Nat) : outM row A = outM row A' := by
  unfold outM
  rw [Bool.eq_iff_iff]
  simp only [List.all_eq_true]
  exact ⟨fun z x hx => z x ((h x).mpr hx), fun z x hx => z x ((h x).mp hx)⟩
private theorem fewest_mono {most : Nat} {A A' : List (List Nat)} (h : ∀ x, x ∈ A ↔ x ∈ A') : fewestM most A = fewestM most A' := by
  have e : (fun r => outM r A) = fun r => outM r A' := funext (out_mono h)
  have h1 := few_find (most := most) (A := A) (most + 1) 0
  have h2 := few_find (most := most) (A := A') (most + 1) 0
  unfold fewestM
  show fewFrom most A (most + 1) (rowsAt most 0) = fewFrom most A' (most + 1) (rowsAt most 0)
  rw [h1, h2, e]
private theorem find_map' {α β : Type} (f : α → β) (p : β → Bool) : ∀ l : List α, (l.map f).find? p = (l.find? fun x => p (f x)).map f
  | [] => rfl
  | x :: r => by
    rw [List.map_cons, List.find?_cons, List.find?_cons]
    cases p (f x) with
    | true => rfl
    | false => exact find_map' f p r
private theorem find_congr {α : Type} {p q : α → Bool} : ∀ {l : List α}, (∀ x ∈ l, p x = q x) → l.find? p = l.find? q
  | [], _ => rfl
  | x :: r, h => by
    rw [List.find?_cons, List.find?_cons, h x (by simp), find_congr (l := r) fun y hy => h y (by simp [hy])]
private theorem choose_mem : ∀ (k : Nat) (l s : List Nat), s ∈ choose k l → ∀ x ∈ s, x ∈ l
  | 0, l, s, h, x, hx => by
    simp only [choose, List.mem_singleton] at h
    subst h
    cases hx
  | k + 1, [], s, h, x, hx => by
    simp only [choose] at h
    cases h
  | k + 1, y :: r, s, h, x, hx => by
    simp only [choose, List.mem_append, List.mem_map] at h
    rcases h with ⟨s', hs', rfl⟩ | h
    · simp only [List.mem_cons] at hx
      rcases hx with rfl | hx
      · simp
      · exact List.mem_cons_of_mem _ (choose_mem k r s' hs' x hx)
    · exact List.mem_cons_of_mem _ (choose_mem (k + 1) r s h x hx)
private theorem least_same {most : Nat} (hm : most < 9) {A : List (List Nat)} {so : List Nat → Bool} (h : ∀ s, (∀ x ∈ s, x < most) → so s = outM (s.map (· + 1)) A) : ((least most so).getD []).map (fun (i : Nat) => i + 1) = fewestM most A := by
  unfold least fewestM
  have h1 := few_find (most := most) (A := A) (most + 1) 0
  rw [show ([[]] : List (List Nat)) = rowsAt most 0 from rfl, h1]
  have e : ((List.range (most + 1)).map (· + 0)).flatMap (fun j => rowsAt most j) = ((List.range (most + 1)).flatMap fun (k : Nat) => choose k (List.range most)).map fun s => s.map (· + 1) := by
    rw [List.map_flatMap, show (fun x : Nat => x + 0) = id from rfl, List.map_id]
    refine List.flatMap_congr_mem fun k hk => ?_
    exact rows_choose most hm k (by have := List.mem_range.mp hk; omega)
  rw [e, find_map']
  rw [find_congr (p := so) (q := fun s => outM (s.map (· + 1)) A) fun s hs => h s fun x hx => ?_]
  · cases ((List.range (most + 1)).flatMap fun (k : Nat) => choose k (List.range most)).find? fun s => outM (s.map (· + 1)) A with
    | none => rfl
    | some s => rfl
  · obtain ⟨k, _, hk⟩ := List.mem_flatMap.mp hs
    exact List.mem_range.mp (choose_mem k _ s hk x hx)
where
  List.flatMap_congr_mem {α β : Type} {f g : α → List β} : ∀ {l : List α}, (∀ x ∈ l, f x = g x) → l.flatMap f = l.flatMap g
  | [], _ => rfl
  | x :: r, h => by
    rw [List.flatMap_cons, List.flatMap_cons, h x (by simp), List.flatMap_congr_mem (l := r) fun y hy => h y (by simp [hy])]
private theorem mem_speak {fs : List MF} {b : PBook} {x : Nat} : x + 1 ∈ speakM fs b ↔ x < fs.length ∧ agreesM b [fs.getD x (false, 0, [])] = false := by
  unfold speakM
  simp only [List.mem_map, List.mem_filter, List.mem_range, Bool.not_eq_true', Nat.add_right_cancel_iff, exists_eq_right]
private theorem speak_nil {fs : List MF} {b : PBook} : speakM fs b = [] ↔ agreesM b fs = true := by
  constructor
  · intro h
    unfold agreesM
    rw [List.all_eq_true]
    intro f hf
    obtain ⟨i, hi, e⟩ := List.getElem_of_mem hf
    have : i + 1 ∉ speakM fs b := by rw [h]; simp
    rw [mem_speak] at this
    have h2 : agreesM b [fs.getD i (false, 0, [])] = true := by
      cases z : agreesM b [fs.getD i (false, 0, [])] with
      | true => rfl
      | false => exact absurd ⟨hi, z⟩ this
    have e2 : fs.getD i (false, 0, []) = f := by rw [List.getD_eq_getElem?_getD, List.getElem?_eq_getElem hi, e]; rfl
    rw [e2] at h2
    unfold agreesM at h2
    simpa using h2
  · intro h
    unfold speakM
    rw [List.map_eq_nil_iff, List.filter_eq_nil_iff]
    intro k hk
    have hk := List.mem_range.mp hk
    unfold agreesM at h ⊢
    rw [List.all_eq_true] at h
    have := h (fs.getD k (false, 0, [])) (by rw [List.getD_eq_getElem?_getD, List.getElem?_eq_getElem hk]; exact List.getElem_mem hk)
    simpa using this
private theorem any_speak {F : Findings} {b : PBook} (s : List Nat) (hs : ∀ x ∈ s, x < F.l.length) {n : Nat} (hw : Whole n b) (hn : n ≤ 4) (hok : (F.l.all fun f => f.core.ok n) = true) :
    ((speakM (F.l.map conv) b).any fun x => decide (x ∈ s.map (· + 1))) = !agrees (only F s) (bk b) := by
  have one : ∀ i (hi : i < F.l.length), agreesM b [(F.l.map conv).getD i (false, 0, [])] = Finding.holds (bk b) F.l[i] := by
    intro i hi
    have e : (F.l.map conv).getD i (false, 0, []) = conv F.l[i] := by
      rw [List.getD_eq_getElem?_getD, List.getElem?_map, List.getElem?_eq_getElem hi]
      rfl
    rw [e, ← finding_holds hw hn (List.all_eq_true.mp hok _ (List.getElem_mem hi))]
    unfold agreesM
    simp
  rw [Bool.eq_iff_iff]
  simp only [List.any_eq_true, decide_eq_true_eq, Bool.not_eq_true']
  unfold agrees only
  simp only
  rw [List.all_eq_false]
  constructor
  · rintro ⟨x, hx, hm⟩
    obtain ⟨i, hi, rfl⟩ := List.mem_map.mp hm
    obtain ⟨h1, h2⟩ := mem_speak.mp hx
    rw [List.length_map] at h1
    rw [one i h1] at h2
    exact ⟨F.l[i], List.mem_filterMap.mpr ⟨i, hi, List.getElem?_eq_getElem h1⟩, by rw [h2]; simp⟩
  · rintro ⟨f, hf, hh⟩
    obtain ⟨i, hi, e⟩ := List.mem_filterMap.mp hf
    have hl := hs i hi
    rw [List.getElem?_eq_getElem hl] at e
    cases e
    refine ⟨i + 1, mem_speak.mpr ⟨by rw [List.length_map]; exact hl, ?_⟩, List.mem_map.mpr ⟨i, hi, rfl⟩⟩
    rw [one i hl]
    simpa using hh
private theorem all_only {F : Findings} (hok : F.ok = true) (h4 : F.n ≤ 4) (s : List Nat) (hs : ∀ x ∈ s, x < F.l.length) (q : Book → Bool) (q' : PBook → Bool) (hq : ∀ b ∈ under F.n F.n [], q (bk b) = q' b) :
    (agreeing (only F s)).all q = ((under F.n F.n []).all fun b => q' b || ((speakM (F.l.map conv) b).any fun x => decide (x ∈ s.map (· + 1)))) := by
  have hf : (F.l.all fun f => f.core.ok F.n) = true := by
    unfold Findings.ok at hok
    simp only [Bool.and_eq_true] at hok
    exact hok.2.2.2
  rw [Bool.eq_iff_iff]
  simp only [List.all_eq_true, Bool.or_eq_true]
  constructor
  · intro h b hb
    rw [any_speak s hs (whole_of hb) h4 hf]
    cases e : agrees (only F s) (bk b) with
    | false => exact Or.inr rfl
    | true =>
      refine Or.inl ?_
      rw [← hq b hb]
      refine h (bk b) (List.mem_filter.mpr ⟨?_, e⟩)
      exact (books_perm (ok_pos hok) h4).mem_iff.mp (List.mem_map.mpr ⟨b, hb, rfl⟩)
  · intro h B hB
    obtain ⟨h1, h2⟩ := List.mem_filter.mp hB
    obtain ⟨b, hb, rfl⟩ := List.mem_map.mp ((books_perm (ok_pos hok) h4).mem_iff.mpr h1)
    rcases h b hb with z | z
    · rw [hq b hb]
      exact z
    · rw [any_speak s hs (whole_of hb) h4 hf, h2] at z
      cases z
noncomputable def againstM (n : Nat) (fs given : List MF) : List (List Nat) := (allOf n given).map (speakM fs)
noncomputable def rowM (l : List Nat) : List Int := ((l.length :: l).map fun (n : Nat) => (n : Int))
noncomputable def whyM (n : Nat) (fs : List MF) (f : MF) : List Int := if allOf n fs = [] then [-5] else if [] ∈ againstM n fs [oppM f] then [-4] else rowM (fewestM fs.length (againstM n fs [oppM f]))
private theorem why_core {F : Findings} (hok : F.ok = true) (h4 : F.n ≤ 4) (h8 : F.l.length ≤ 8) {g : Finding} (hg : g.core.ok F.n = true) :
    (if (agreeing F).isEmpty = true then QuireD.says (-5) else if certain F g = false then QuireD.says (-4) else QuireD.row (((why F g).getD []).map fun (i : Nat) => i + 1)) = whyM F.n (F.l.map conv) (conv g) := by
  have p := agree_perm hok h4
  have hopp : ∀ b, agreesM b [oppM (conv g)] = !agreesM b [conv g] := fun b => by
    unfold agreesM
    simp only [List.all_cons, List.all_nil, Bool.and_true]
    rw [opp_holds]
    rfl
  have hgb : ∀ b ∈ under F.n F.n [], agreesM b [conv g] = g.holds (bk b) := fun b hb => by
    rw [← finding_holds (whole_of hb) h4 hg]
    unfold agreesM
    simp
  have e5 : (agreeing F).isEmpty = true ↔ allOf F.n (F.l.map conv) = [] := by
    rw [List.isEmpty_iff]
    constructor
    · intro z
      have := p.length_eq
      rw [z, List.length_map] at this
      exact List.length_eq_zero_iff.mp this
    · intro z
      have := p.length_eq
      rw [z] at this
      exact List.length_eq_zero_iff.mp this.symm
  have e4 : [] ∈ againstM F.n (F.l.map conv) [oppM (conv g)] ↔ certain F g = false := by
    unfold againstM certain
    rw [List.mem_map, List.all_eq_false]
    constructor
    · rintro ⟨b, hb, e⟩
      obtain ⟨h1, h2⟩ := List.mem_filter.mp hb
      have hb' : b ∈ allOf F.n (F.l.map conv) := List.mem_filter.mpr ⟨h1, speak_nil.mp e⟩
      refine ⟨bk b, p.mem_iff.mp (List.mem_map.mpr ⟨b, hb', rfl⟩), ?_⟩
      rw [hopp, hgb b h1] at h2
      simpa using h2
    · rintro ⟨B, hB, hh⟩
      obtain ⟨b, hb, rfl⟩ := List.mem_map.mp (p.mem_iff.mpr hB)
      obtain ⟨h1, h2⟩ := List.mem_filter.mp hb
      refine ⟨b, List.mem_filter.mpr ⟨h1, ?_⟩, speak_nil.mpr h2⟩
      rw [hopp, hgb b h1]
      simpa using hh
  unfold whyM
  by_cases h : (agreeing F).isEmpty = true
  · rw [if_pos h, if_pos (e5.mp h)]
    rfl
  · rw [if_neg h, if_neg (fun z => h (e5.mpr z))]
    by_cases h2 : certain F g = false
    · rw [if_pos h2, if_pos (e4.mpr h2)]
      rfl
    · rw [if_neg h2, if_neg (fun z => h2 (e4.mp z))]
      unfold QuireD.row QuireD.nats rowM why
      rw [least_same (A := againstM F.n (F.l.map conv) [oppM (conv g)]) (by omega) fun s hs => ?_, List.length_map]
      unfold certain
      rw [all_only hok h4 s hs (fun B => g.holds B) (fun b => agreesM b [conv g]) fun b hb => (hgb b hb).symm]
      unfold outM againstM allOf
      rw [List.all_map, List.all_filter]
      congr 1
      funext b
      rw [hopp]
      simp only [Function.comp, Bool.not_not]
private theorem why_in {t f : List Int} (h : PyWqaucf.why_asked t f = true) : QuireD.within 3 8 (QhBackNeutral.bytes t) = true := by
  unfold PyWqaucf.why_asked QhBackNeutral.asked at h
  simp only [Bool.and_eq_true, List.all_cons, List.all_nil, Bool.and_true] at h
  exact h.2
private theorem why_due {t f : List Int} (hb : ∀ x ∈ t, 0 ≤ x ∧ x ≤ 255) (hb2 : ∀ x ∈ f, 0 ≤ x ∧ x ≤ 255) (ha : PyWqaucf.why_asked t f = true) :
    PyWqaucf.why t f = if 8192 < t.length ∨ 8192 < f.length then [-2] else match readFindings (nat t) with
      | none => [-6]
      | some x => (match readFinding x.1 (nat f) with
        | none => [-3]
        | some y => whyM x.1 x.2 y) := by
  have e := said_same (t := QhBackNeutral.bytes t) (f := QhBackNeutral.bytes f) (k := fun F g => if (agreeing F).isEmpty = true then QuireD.says (-5) else if certain F g = false then QuireD.says (-4) else QuireD.row (((why F g).getD []).map fun (i : Nat) => i + 1))
    (g := whyM) (by decide) (why_in ha) fun F g hok h3 h8 hg => why_core hok (by omega) h8 hg
  rw [bytes_len, bytes_len, bytes_nat hb, bytes_nat hb2] at e
  exact e
end M
end
section
set_option linter.all false
set_option Elab.async false
set_option maxRecDepth 100000
namespace R
open PySem PySem.Spec PyProof.Rows L2
section
variable {X : Cx}
private theorem pe_gint {x : Str} {i : Int} {pos : Pos} (hg : Gl X x) (h : ∃ t, X.mg x = some (.int i t)) (hd : (x == ("__debug__" : Str)) = false := by decide) : PE X (.Name x pos) (tC (.int i)) := by
  obtain ⟨t, h⟩ := h
  exact pe_glob hg h ⟨t, rfl⟩ hd
structure Cal (P : Program) (w : World) (K : PySem.W.Frag) (mg : Str → Option Value) (base : Heap) (k : Nat) (x : Str) (ps : List Str) (sp : Sp) : Prop where
  ex : ∃ (f : Addr) (fd : FuncData), FnOk P w K mg base CX0 k f fd ps sp ∧ mg x = some (.ref f) ∧ PySem.W.keepIn K (.ref f) = true ∧ Binds K fd ps []
private theorem pcl {k j : Nat} {x : Str} {ps : List Str} {sp : Sp} {e : Expr} {es : List Expr} {t : TA} {p pos : Pos} (C : Cal X.prog X.w X.K X.mg X.base k x ps sp) (hr : Room j X.A) (hk : k ≤ j) (ha : PA X (e :: es) t)
    (hg : Gl X x := by rfl) (hdb : (x == ("__debug__" : Str)) = false := by decide) (he : starEach (e :: es) X.env = (false, eval e X.env) :: starEach es X.env := by rfl) (hpl : (backTo pos (starEach es X.env)).any (·.1) = false := by rfl) :
    PE X (.Call (.Name x p) (e :: es) [] pos) (tCall sp [] E0 t) := by
  obtain ⟨f, fd, F, hm, hkp, hb⟩ := C.ex
  exact pe_call F (hr.mono hk) hg hm hkp hb .nil pass0 ha hdb he hpl
structure Def (K : PySem.W.Frag) (mg : Str → Option Value) (x : Str) (st : Stmt) (ps : List Str) : Prop where
  ex : ∃ (f : Addr) (fd : FuncData), Fun K x x st f fd ∧ mg x = some (.ref f) ∧ Binds K fd ps []
private theorem Def.cal {P : Program} {w : World} {K : PySem.W.Frag} {mg : Str → Option Value} {base : Heap} {x : Str} {st : Stmt} {ps N : List Str} {k : Nat} {sp : Sp} (D : Def K mg x st ps) (S : FnScope N ps (defScope st)) (len : ∀ vs H Q E, sp vs H Q E → vs.length = ps.length)
    (hbody : ∀ (f : Addr) (cdv : Value) (A : Around) (outer : List Env) (s : Shared) (H : Hp) (vs : List V) (Q : VK) (E : XK), Room k (A.deeper (envOfC x (defScope st) s.heap.objs.size f cdv)) → sp vs H Q E →
      ∃ t, PSs (cxOf CX0 P w K mg base N x (defScope st) f cdv A outer s H E).nox (defBody st) t ∧ t { nx := fun _ H' => Q .non H', rt := Q } (start N vs) H) : Cal P w K mg base (k + 1) x ps sp := by
  obtain ⟨f, fd, F, hm, hb⟩ := D.ex
  exact ⟨f, fd, F.ok S len (fun cdv A outer s H vs Q E => hbody f cdv A outer s H vs Q E), hm, F.kp, hb⟩
private theorem mt_count : MtR X "list.count" (fun x xs H Q => ∃ (a : Addr) (ns : List Int) (k : Int), x = .ref a ∧ xs = [.int k] ∧ SqL X.K H a (ns.map V.int) ∧ Q (.int (ns.count k : Nat)) H) := by
  intro pins s σ H x xs v us Q I rx rv h
  obtain ⟨a, ns, k, rfl, rfl, hq, q⟩ := h
  cases rx
  obtain ⟨u, rfl, ⟨t, rfl⟩⟩ := rv.one
  obtain ⟨its, r, pl, hz⟩ := I.list hq
  exact count_list_ints pl.isList r.ints ⟨.int _, H, I.tok _, ⟨_, rfl⟩, q⟩
private theorem call_rangeO : CallR X (.type "range") (fun xs H Q => ∃ i j : Int, xs = [.int i, .int j] ∧ ∀ p, H p = none → Q (.ref p) (upd H p (.rng i j))) := by
  intro pins s σ H xs us Q I r h
  obtain ⟨i, j, rfl, q⟩ := h
  obtain ⟨t, u, rfl⟩ := r.int2
  refine call_range_2 ⟨.ref s.heap.objs.size, _, I.laid (o := .rng i j) (fun b o e => Heap.get?_push_of_some _ e) (Nat.le_refl _) ⟨t, u, _, Heap.get?_push_size _ rfl⟩, rfl, q _ (I.hok.fresh (Nat.le_refl _))⟩
noncomputable def upTo (i : Int) (n : Nat) : List V := (List.range n).map fun (k : Nat) => V.int (i + k)
private theorem upTo_vals {i : Int} {n : Nat} {acc : Array Value} (h : ItemsOf (fun (k : Nat) v => ∃ t, v = Value.int (i + k * 1) t) acc n) : Vals (upTo i n) acc.toList := by
  obtain ⟨h1, h2⟩ := h
  have key : ∀ (l : List Value) (k : Nat), (∀ j v, l[j]? = some v → ∃ t, v = Value.int (i + ((k + j : Nat) : Int)) t) → Vals ((List.range' k l.length).map fun (k : Nat) => V.int (i + k)) l := by
    intro l
    induction l with
    | nil => intro k _; exact .nil
    | cons v r ih =>
      intro k hk
      refine .cons ?_ ?_
      · obtain ⟨t, e⟩ := hk 0 v rfl
        exact ⟨t, by rw [e]; simp⟩
      · refine ih (k + 1) fun j v hj => ?_
        obtain ⟨t, e⟩ := hk (j + 1) v (by simpa using hj)
        exact ⟨t, by rw [e, show k + (j + 1) = k + 1 + j by omega]⟩
  have := key acc.toList 0 fun j v hj => by
    obtain ⟨t, e⟩ := h2 j v (by simpa using hj)
    exact ⟨t, by rw [e]; simp⟩
  rw [Array.length_toList, h1, ← List.range_eq_range'] at this
  exact this
private theorem call_listR (hc : X.calm = true) : CallR X (.type "list") (fun xs H Q => ∃ (p : Addr) (i j : Int), xs = [.ref p] ∧ H p = some (.rng i j) ∧ (-(2 ^ 62) ≤ i ∧ i < 2 ^ 62 ∧ -(2 ^ 62) ≤ j ∧ j < 2 ^ 62) ∧ (j - i).toNat ≤ 1000000 ∧
    ∀ l, H l = none → Q (.ref l) (upd H l (.lst (upTo i (j - i).toNat)))) := by
  intro pins s σ H xs us Q I r h
  obtain ⟨p, i, j, rfl, hp, ⟨b1, b2, b3, b4⟩, hz, q⟩ := h
  obtain ⟨u, rfl, rx⟩ := vals1 r
  cases rx
  obtain ⟨t, u, v, ho⟩ := I.hok p _ hp
  have hn : Builtin.Range.rangeSize i j 1 = ((j - i).toNat : Nat) := by rw [rangeSize_one]; split <;> omega
  refine call_list_range (I.ok.hd hc) ho (small_one b1 b2 b3 b4) hn (by omega) fun h' tk acc' c' kp e hacc => ?_
  have rv := upTo_vals hacc
  refine ⟨.ref s.heap.objs.size, _, I.laid (o := .lst (upTo i (j - i).toNat)) kp (Nat.le_refl _) ⟨?_, acc'.toList, c', rv, ?_⟩, rfl, q _ (I.hok.fresh (Nat.le_refl _))⟩
  · simp only [upTo, List.length_map, List.length_range]
    rw [sizeLine_eq]
    omega
  · simpa using e
end
private theorem Same.upd_none {G : Hp} {p : Addr} {o : HO} (h : G p = none) : Same G (upd G p o) := fun b u e => by
  rw [upd_ne (ne_of_none e h)]
  exact e
structure Grow (G H G' H' : Hp) : Prop where
  gg : Same G G'
  hh : Same H H'
  gh : Same G' H'
  nw : ∀ a, G a = none → H a ≠ none → G' a = none
private theorem Grow.refl {G H : Hp} (h : Same G H) : Grow G H G H := ⟨Same.refl _, Same.refl _, h, fun _ e _ => e⟩
private theorem Grow.trans {G H G1 H1 G2 H2 : Hp} (a : Grow G H G1 H1) (b : Grow G1 H1 G2 H2) : Grow G H G2 H2 :=
  ⟨a.gg.trans b.gg, a.hh.trans b.hh, b.gh, fun x e n => b.nw x (a.nw x e n) (by
    cases q : H x with
    | none => exact absurd q n
    | some o => rw [a.hh x o q]; simp)⟩
section
variable {G H G1 H1 : Hp} {p l : Addr} {o : HO}
private theorem Grow.made (g : Grow G H G1 H1) (h : H1 p = none) : Grow G H (upd G1 p o) (upd H1 p o) := by
  have hg : G1 p = none := g.gh.free h
  refine ⟨g.gg.trans (Same.upd_none hg), g.hh.trans (Same.upd_none h), fun b u e => ?_, fun a e n => ?_⟩
  · by_cases hb : b = p
    · subst hb; rw [upd_same] at e ⊢; exact e
    · rw [upd_ne hb] at e ⊢; exact g.gh b u e
  · by_cases ha : a = p
    · subst ha
      exact absurd (g.hh.free h) n
    · rw [upd_ne ha]; exact g.nw a e n
private theorem Grow.open (g : Grow G H G1 H1) (h : H1 l = none) : Grow G H G1 (upd H1 l o) :=
  ⟨g.gg, g.hh.trans (Same.upd_none h), g.gh.trans (Same.upd_none h), g.nw⟩
private theorem Grow.set (g : Grow G H G1 H1) (h : H l = none) (hg : G1 l = none) : Grow G H G1 (upd H1 l o) :=
  ⟨g.gg, fun b u e => by rw [upd_ne (ne_of_none e h)]; exact g.hh b u e, fun b u e => by rw [upd_ne (ne_of_none e hg)]; exact g.gh b u e, g.nw⟩
private theorem Grow.fin (g : Grow G H G1 H1) (h : H l = none) (hg : G1 l = none) (e1 : H1 l = some o) : Grow G H (upd G1 l o) H1 := by
  refine ⟨g.gg.trans (Same.upd_none hg), g.hh, fun b u e => ?_, fun a e n => ?_⟩
  · by_cases hb : b = l
    · subst hb; rw [upd_same] at e; rw [e1]; exact e
    · rw [upd_ne hb] at e; exact g.gh b u e
  · by_cases ha : a = l
    · subst ha; exact absurd h n
    · rw [upd_ne ha]; exact g.nw a e n
private theorem Grow.keep (g : Grow G H G1 H1) (h : H l = some o) (hg : G l = none) : H1 l = some o ∧ G1 l = none :=
  ⟨g.hh l o h, g.nw l hg (by rw [h]; simp)⟩
end
noncomputable abbrev Rp (α : Type) := Hp → V → α → Prop
noncomputable def Mono {α : Type} (R : Rp α) : Prop := ∀ (G G' : Hp) (v : V) (x : α), Same G G' → R G v x → R G' v x
private theorem pr_imp {α β : Type} {F F' : α → β → Prop} (h : ∀ a b, F a b → F' a b) : ∀ {xs : List α} {ys : List β}, Paired F xs ys → Paired F' xs ys
  | _, _, .nil => .nil
  | _, _, .cons a b => .cons (h _ _ a) (pr_imp h b)
private theorem pr_get {α β : Type} {F : α → β → Prop} : ∀ {xs : List α} {ys : List β} {i : Nat} {x : α}, Paired F xs ys → xs[i]? = some x → ∃ y, ys[i]? = some y ∧ F x y
  | _, _, 0, _, .cons a _, e => by cases e; exact ⟨_, rfl, a⟩
  | _, _, i + 1, x, .cons _ b, e => by
    obtain ⟨y, h1, h2⟩ := pr_get (i := i) (x := x) b (by simpa using e)
    exact ⟨y, by simpa using h1, h2⟩
private theorem pr_get' {α β : Type} {F : α → β → Prop} : ∀ {xs : List α} {ys : List β} {i : Nat} {y : β}, Paired F xs ys → ys[i]? = some y → ∃ x, xs[i]? = some x ∧ F x y
  | _, _, 0, _, .cons a _, e => by cases e; exact ⟨_, rfl, a⟩
  | _, _, i + 1, x, .cons _ b, e => by
    obtain ⟨y, h1, h2⟩ := pr_get' (i := i) (y := x) b (by simpa using e)
    exact ⟨y, by simpa using h1, h2⟩
private theorem pr_app {α β : Type} {F : α → β → Prop} : ∀ {xs xs' : List α} {ys ys' : List β}, Paired F xs ys → Paired F xs' ys' → Paired F (xs ++ xs') (ys ++ ys')
  | _, _, _, _, .nil, b => b
  | _, _, _, _, .cons a c, b => .cons a (pr_app c b)
private theorem pr_drop {α β : Type} {F : α → β → Prop} : ∀ (n : Nat) {xs : List α} {ys : List β}, Paired F xs ys → Paired F (xs.drop n) (ys.drop n)
  | 0, _, _, h => h
  | _ + 1, _, _, .nil => .nil
  | n + 1, _, _, .cons _ b => pr_drop n b
private theorem pr_take {α β : Type} {F : α → β → Prop} : ∀ (n : Nat) {xs : List α} {ys : List β}, Paired F xs ys → Paired F (xs.take n) (ys.take n)
  | 0, _, _, _ => .nil
  | _ + 1, _, _, .nil => .nil
  | n + 1, _, _, .cons a b => .cons a (pr_take n b)
noncomputable def NV : Rp Nat := fun _ v n => v = .int (n : Int)
noncomputable def LS {α : Type} (R : Rp α) : Rp (List α) := fun G v xs => ∃ a vs, v = .ref a ∧ G a = some (.lst vs) ∧ Paired (R G) vs xs
private theorem NV.mono : Mono NV := fun _ _ _ _ _ h => h
private theorem LS.mono {α : Type} {R : Rp α} (m : Mono R) : Mono (LS R) := fun _ _ _ _ s h => by
  obtain ⟨a, vs, e, h1, h2⟩ := h
  exact ⟨a, vs, e, s _ _ h1, pr_imp (fun _ _ q => m _ _ _ _ s q) h2⟩
noncomputable abbrev LI : Rp (List Nat) := LS NV
noncomputable abbrev LL : Rp (List (List Nat)) := LS LI
noncomputable def iv (n : Nat) : V := .int (n : Int)
private theorem ints_eq {G : Hp} : ∀ {vs : List V} {ns : List Nat}, Paired (NV G) vs ns → vs = ns.map iv
  | _, _, .nil => rfl
  | _, _, .cons a b => by rw [ints_eq b, List.map_cons, show _ = _ from a]; rfl
private theorem ints_of {G : Hp} : ∀ ns : List Nat, Paired (NV G) (ns.map iv) ns
  | [] => .nil
  | n :: r => .cons rfl (ints_of r)
private theorem LI.at {G : Hp} {v : V} {ns : List Nat} (h : LI G v ns) : ∃ a, v = .ref a ∧ G a = some (.lst (ns.map iv)) := by
  obtain ⟨a, vs, e, h1, h2⟩ := h
  rw [ints_eq h2] at h1
  exact ⟨a, e, h1⟩
private theorem LI.of {G : Hp} {a : Addr} {ns : List Nat} (h : G a = some (.lst (ns.map iv))) : LI G (.ref a) ns := ⟨a, _, rfl, h, ints_of ns⟩
private theorem map_iv (ns : List Nat) : ns.map iv = (ns.map fun (n : Nat) => (n : Int)).map V.int := by rw [List.map_map]; rfl
noncomputable def OP {α : Type} (R : Rp α) : Rp (Option α) := fun G v x => match x with
  | none => v = .non
  | some y => R G v y
noncomputable def Ret {β : Type} (G H : Hp) (R : Rp β) (y : β) (Q : VK) : Prop := ∀ r G' H', Grow G H G' H' → R G' r y → Q r H'
noncomputable def nd (n : Nat) : PyData := .int (n : Int)
noncomputable def dI (ns : List Nat) : PyData := .list (ns.map nd)
private theorem dp_ints {K : PySem.W.Frag} {H : Hp} : ∀ ns : List Nat, DpAll K H (ns.map iv) (ns.map nd)
  | [] => .nil
  | n :: r => .cons (.int _) (dp_ints r)
private theorem dp_LI {K : PySem.W.Frag} {G H : Hp} {v : V} {ns : List Nat} (s : Same G H) (h : LI G v ns) : Dp K H v (dI ns) := by
  obtain ⟨a, rfl, h1⟩ := h.at
  exact .lst (SqL.of (s _ _ h1)) (dp_ints ns)
private theorem canLay_ints : ∀ ns : List Nat, PyData.canLayAll0 (ns.map nd) = true
  | [] => by simp [PyData.canLayAll0]
  | n :: r => by simp [PyData.canLayAll0, nd, PyData.canLay0, canLay_ints r]
private theorem depth_ints : ∀ ns : List Nat, PyData.depthAll (ns.map nd) = 0
  | [] => by simp [PyData.depthAll]
  | n :: r => by simp [PyData.depthAll, nd, PyData.depth, depth_ints r]
private theorem shaped_I (ns : List Nat) : SeqAt.shaped (dI ns) = true := by
  unfold SeqAt.shaped dI
  simp [PyData.canLay0, canLay_ints, PyData.depth, depth_ints]
private theorem eqv_ints : ∀ ns ms : List Nat, PyData.eqvAll (ns.map nd) (ms.map nd) = decide (ns = ms)
  | [], [] => by simp [PyData.eqvAll]
  | [], _ :: _ => by simp [PyData.eqvAll]
  | _ :: _, [] => by simp [PyData.eqvAll]
  | a :: r, b :: s => by
    simp only [List.map_cons, PyData.eqvAll, nd, PyData.eqv]
    rw [eqv_ints r s]
    simp only [List.cons.injEq]
    by_cases h : a = b
    · subst h; simp
    · have : ((a : Int) == (b : Int)) = false := by simp; omega
      simp [this, h]
private theorem eqv_I (ns ms : List Nat) : PyData.eqv (dI ns) (dI ms) = decide (ns = ms) := by
  unfold dI
  rw [PyData.eqv, eqv_ints]
private theorem rd_eqI {K : PySem.W.Frag} {G H : Hp} {x y : V} {ns ms : List Nat} {Q : VK} (s : Same G H) (hx : LI G x ns) (hy : LI G y ms) (q : Q (.bl (decide (ns = ms))) H) : rEqD K x y H Q :=
  ⟨_, _, dp_LI s hx, dp_LI s hy, shaped_I _, shaped_I _, by rw [eqv_I]; exact q⟩
private theorem rd_neI {K : PySem.W.Frag} {G H : Hp} {x y : V} {ns ms : List Nat} {Q : VK} (s : Same G H) (hx : LI G x ns) (hy : LI G y ms) (q : Q (.bl (!decide (ns = ms))) H) : rNeD K x y H Q :=
  ⟨_, _, dp_LI s hx, dp_LI s hy, shaped_I _, shaped_I _, by rw [eqv_I]; exact q⟩
end R
namespace R
open PySem PySem.Spec PyProof.Rows L2
private theorem sz0 : (0 ≤ sizeLine) = True := by decide
private theorem sz1 : (0 + 1 ≤ sizeLine) = True := by decide
private theorem sz2 : (0 + 1 + 1 ≤ sizeLine) = True := by decide
private theorem sz3 : (0 + 1 + 1 + 1 ≤ sizeLine) = True := by decide
private theorem sz5 : (0 + 1 + 1 + 1 + 1 + 1 ≤ sizeLine) = True := by decide
private theorem szl {n : Nat} (h : n ≤ 1000000) : n < sizeLine := by rw [sizeLine_eq]; omega
noncomputable def BV : Rp Bool := fun _ v b => v = .bl b
private theorem BV.mono : Mono BV := fun _ _ _ _ _ h => h
noncomputable def TX (K : PySem.W.Frag) : Rp (List Nat) := fun G v ns => ∃ a, v = .ref a ∧ SqL K G a (ns.map iv)
private theorem TX.mono {K : PySem.W.Frag} : Mono (TX K) := fun _ _ _ _ s h => by
  obtain ⟨a, e, q⟩ := h
  exact ⟨a, e, s.seq q⟩
private theorem LI.tx {K : PySem.W.Frag} {G : Hp} {v : V} {ns : List Nat} (h : LI G v ns) : TX K G v ns := by
  obtain ⟨a, e, q⟩ := h.at
  exact ⟨a, e, SqL.of q⟩
private theorem LI.mono : Mono LI := LS.mono NV.mono
private theorem LL.mono : Mono LL := LS.mono LI.mono
private theorem rd_ix {α : Type} {R : Rp α} {K : PySem.W.Frag} {G H : Hp} {x : V} {l : List α} {i : Nat} {y : α} {Q : VK} (s : Same G H) (h : LS R G x l) (hi : l[i]? = some y) (q : ∀ v, R G v y → Q v H) : rIxL K x (.int (i : Int)) H Q := by
  obtain ⟨a, vs, rfl, h1, h2⟩ := h
  obtain ⟨v, hv, r⟩ := pr_get' h2 hi
  exact ⟨a, vs, _, v, rfl, rfl, SqL.of (s _ _ h1), atI_nat hv, q v r⟩
noncomputable def rLen (K : PySem.W.Frag) : List V → Hp → VK → Prop := fun xs H Q => ∃ p ys, xs = [.ref p] ∧ (SqL K H p ys ∨ SqT K H p ys) ∧ Q (.int ys.length) H
private theorem rd_len {α : Type} {R : Rp α} {K : PySem.W.Frag} {G H : Hp} {x : V} {l : List α} {Q : VK} (s : Same G H) (h : LS R G x l) (q : Q (.int (l.length : Int)) H) : rLen K [x] H Q := by
  obtain ⟨a, vs, rfl, h1, h2⟩ := h
  exact ⟨a, vs, rfl, .inl (SqL.of (s _ _ h1)), by rw [h2.length]; exact q⟩
private theorem rd_lenT {K : PySem.W.Frag} {G H : Hp} {x : V} {l : List Nat} {Q : VK} (s : Same G H) (h : TX K G x l) (q : Q (.int (l.length : Int)) H) : rLen K [x] H Q := by
  obtain ⟨a, rfl, h1⟩ := h
  exact ⟨a, _, rfl, .inl (s.seq h1), by rw [List.length_map]; exact q⟩
private theorem Ret.lst {G H : Hp} {ns : List Nat} {Q : VK} (k : Ret G H LI ns Q) (s : Same G H) {vs : List V} (e : vs = ns.map iv) {p : Addr} (hp : H p = none) : Q (.ref p) (upd H p (.lst vs)) := by
  subst e
  exact k _ _ _ ((Grow.refl s).made hp) (LI.of upd_same)
private theorem Ret.then {β : Type} {G H G1 H1 : Hp} {R : Rp β} {y : β} {Q : VK} (k : Ret G H R y Q) (g : Grow G H G1 H1) : Ret G1 H1 R y Q := fun r G' H' g' h => k r G' H' (g.trans g') h
end R
namespace R
open PySem PySem.Spec PyProof.Rows L2
private theorem rd_append {K : PySem.W.Frag} {H : Hp} {l : Addr} {xs : List V} {y : V} {Q : VK} (h : H l = some (.lst xs)) (hz : xs.length ≤ 1000000) (q : Q .non (upd H l (.lst (xs ++ [y])))) : tyV K "list" (.ref l) H ∧ rAppend (.ref l) [y] H Q :=
  ⟨.inl ⟨rfl, _, SqL.of h⟩, l, xs, y, rfl, rfl, h, szl hz, q⟩
private theorem map_at {ns : List Nat} {i : Nat} {x : V} (h : (ns.map iv)[i]? = some x) : ∃ n, ns[i]? = some n ∧ x = iv n := by
  rw [List.getElem?_map] at h
  cases e : ns[i]? with
  | none => rw [e] at h; cases h
  | some n => rw [e] at h; cases h; exact ⟨n, rfl, rfl⟩
end R
namespace R
open PySem PySem.Spec PyProof.Rows L2
private theorem inV_ints (x : Nat) : ∀ ns : List Nat, inV (iv x) (ns.map iv) = decide (x ∈ ns)
  | [] => rfl
  | n :: r => by
    have ih := inV_ints x r
    unfold inV at ih ⊢
    rw [List.map_cons, List.any_cons, ih]
    have : eqV (iv n) (iv x) = decide (x = n) := by
      show ((n : Int) == (x : Int)) = _
      rw [Bool.eq_iff_iff]
      simp
      omega
    rw [this, Bool.eq_iff_iff]
    simp
private theorem flat_ints : ∀ ns : List Nat, (ns.map iv).all flatV = true
  | [] => rfl
  | n :: r => by rw [List.map_cons, List.all_cons, flat_ints r]; rfl
private theorem rd_in {K : PySem.W.Frag} {G H : Hp} {v : V} {x : Nat} {ns : List Nat} {Q : VK} (s : Same G H) (h : LI G v ns) (q : Q (.bl (decide (x ∈ ns))) H) : rIn K false (.int (x : Int)) v H Q := by
  obtain ⟨a, rfl, ha⟩ := h.at
  exact ⟨a, _, rfl, .inl (SqL.of (s _ _ ha)), rfl, flat_ints ns, by rw [if_neg Bool.false_ne_true]; show Q (.bl (inV (iv x) (ns.map iv))) H; rw [inV_ints]; exact q⟩
private theorem rd_notin {K : PySem.W.Frag} {G H : Hp} {v : V} {x : Nat} {ns : List Nat} {Q : VK} (s : Same G H) (h : LI G v ns) (q : Q (.bl (!decide (x ∈ ns))) H) : rIn K true (.int (x : Int)) v H Q := by
  obtain ⟨a, rfl, ha⟩ := h.at
  exact ⟨a, _, rfl, .inl (SqL.of (s _ _ ha)), rfl, flat_ints ns, by rw [if_pos rfl]; show Q (.bl (!inV (iv x) (ns.map iv))) H; rw [inV_ints]; exact q⟩
end R
namespace R
open PySem PySem.Spec PyProof.Rows L2
private theorem cut_from (xs : List V) (k : Nat) : cutV xs (some (k : Int)) none = xs.drop k := by
  unfold cutV
  rw [HT.sIx_nat, HT.sIx_none]
  by_cases h : k ≤ xs.length
  · rw [Nat.min_eq_left h, List.take_of_length_le (by simp)]
  · rw [Nat.min_eq_right (by omega), List.drop_of_length_le (Nat.le_refl _), List.drop_of_length_le (by omega)]
    simp
private theorem cut_inner (xs : List V) : cutV xs (some 1) (some (-1)) = (xs.drop 1).dropLast := by
  unfold cutV
  rw [show (some (1 : Int)) = some ((1 : Nat) : Int) from rfl, HT.sIx_nat]
  have e : HT.sIx xs.length xs.length (some (-1)) = xs.length - 1 := by
    show (if (-1 : Int) < 0 then ((-1 : Int) + (xs.length : Int)).toNat else min (-1 : Int).toNat xs.length) = _
    rw [if_pos (by decide)]
    omega
  rw [e, List.dropLast_eq_take]
  cases xs with
  | nil => rfl
  | cons x r =>
    simp only [List.length_cons, List.drop_succ_cons, List.drop_zero]
    rw [show min 1 (r.length + 1) = 1 by omega]
    simp
private theorem pr_dropLast {α β : Type} {F : α → β → Prop} {xs : List α} {ys : List β} (h : Paired F xs ys) : Paired F xs.dropLast ys.dropLast := by
  rw [List.dropLast_eq_take, List.dropLast_eq_take, h.length]
  exact pr_take _ h
private theorem rd_from {α : Type} {R : Rp α} {K : PySem.W.Frag} {G0 H0 G H : Hp} {x : V} {l : List α} {k : Nat} {Q : VK} (g : Grow G0 H0 G H) (h : LS R G x l) (m : Mono R)
    (q : ∀ p G' H', Grow G0 H0 G' H' → Grow G H G' H' → LS R G' (.ref p) (l.drop k) → Q (.ref p) H') : rSlL K x (some (k : Int)) none H Q := by
  obtain ⟨a, vs, rfl, h1, h2⟩ := h
  refine ⟨a, vs, rfl, SqL.of (g.gh _ _ h1), fun p hp => ?_⟩
  have gp : G p = none := g.gh.free hp
  refine q p _ _ (g.made hp) ((Grow.refl g.gh).made hp) ⟨p, _, rfl, upd_same, ?_⟩
  rw [cut_from]
  exact pr_drop k (pr_imp (fun _ _ z => m _ _ _ _ (Same.upd_none gp) z) h2)
private theorem rd_inner {α : Type} {R : Rp α} {K : PySem.W.Frag} {G0 H0 G H : Hp} {x : V} {l : List α} {Q : VK} (g : Grow G0 H0 G H) (h : LS R G x l) (m : Mono R)
    (q : ∀ p G' H', Grow G0 H0 G' H' → Grow G H G' H' → LS R G' (.ref p) (l.drop 1).dropLast → Q (.ref p) H') : rSlL K x (some 1) (some (-1)) H Q := by
  obtain ⟨a, vs, rfl, h1, h2⟩ := h
  refine ⟨a, vs, rfl, SqL.of (g.gh _ _ h1), fun p hp => ?_⟩
  have gp : G p = none := g.gh.free hp
  refine q p _ _ (g.made hp) ((Grow.refl g.gh).made hp) ⟨p, _, rfl, upd_same, ?_⟩
  rw [cut_inner]
  exact pr_dropLast (pr_drop 1 (pr_imp (fun _ _ z => m _ _ _ _ (Same.upd_none gp) z) h2))
noncomputable def KP : Rp (Nat × List Nat) := fun G v x => ∃ a u, v = .ref a ∧ G a = some (.tup [.int (x.1 : Int), u]) ∧ LI G u x.2
end R
namespace R
open PySem PySem.Spec PyProof.Rows L2
section
variable {X : Cx} {K : PySem.W.Frag}
private theorem ixL (h : X.K = K) : IxR X (rIxL K) := by subst h; exact ix_list
private theorem ixT (h : X.K = K) : IxR X (rIxT K) := by subst h; exact ix_tup
private theorem opEqD (h : X.K = K) (hu : X.A.units + 64 < cLine) : OpR X (compareOp .Eq) (rEqD K) := by subst h; exact op_eqD hu
private theorem opNeD (h : X.K = K) (hu : X.A.units + 64 < cLine) : OpR X (compareOp .NotEq) (rNeD K) := by subst h; exact op_neD hu
private theorem opIn (h : X.K = K) : OpR X (compareOp .In) (rIn K false) := by subst h; exact op_in_seq
private theorem opNotIn (h : X.K = K) : OpR X (compareOp .NotIn) (rIn K true) := by subst h; exact op_notIn_seq
private theorem pgT {es : List Expr} {k : Nat} {t : TGs} {n : Nat} {pos : Pos} (hK : X.K = K) (hc : X.calm = true) (h : PGs X es t)
    (hn : (assignEach es X.env).length = n := by rfl) (hst : (assignEach es X.env).findIdx? (·.1) = none := by rfl) : PG X (.Tuple es k pos) (gTup K n t) := by subst hK; exact pg_tup hc h hn hst
private theorem ptT {a : Expr} {ta : TE} (hK : X.K = K) (ha : PE X a ta) (he : ∀ whole, isTrue a X.env whole = (do let v ← whole; standAt a.pos; holding [v] (truthy v))) :
    PT X a (fun σ H Q => ta σ H fun x H' => ∃ k, TruV K x H' k ∧ Q k H') := by subst hK; exact pt_truth ha he
private theorem slL (hK : X.K = K) : SlR X (rSlL K) := by subst hK; exact sl_list
private theorem lenS (hK : X.K = K) : CallR X (.builtin "len") (rLen K) := by subst hK; exact call_len_seq
end
end R
namespace R
open PySem PySem.Spec PyProof.Rows L2
private theorem lc_map {K : PySem.W.Frag} {α : Type} {R : Rp α} (m : Mono R) {G H : Hp} {p D : Addr} {l : List α} {F : α → Nat} {g : TG} {te : TE} {vs : List Nat} {σ : L2.St} {Qd : Hp → Prop}
    (sg : Same G H) (hp : LS R G (.ref p) l) (hD : H D = none) (hl : l.length ≤ 1000000)
    (he : ∀ x y G' H' (Qk : VK), y ∈ l → Grow G H G' H' → R G' x y → (∀ G2 H2, Grow G' H' G2 H2 → Qk (.int (F y : Int)) H2) → g x (wipe σ vs) H' fun σ2 H2 => wipe σ2 vs = wipe σ vs ∧ te σ2 H2 Qk)
    (hd : ∀ G' H', Grow G H G' H' → LI G' (.ref D) (l.map F) → Qd H') :
    ∃ W : Nat → Nat → Hp → Prop, (∃ m, W 0 m (upd H D (.lst []))) ∧ ∀ i m H, W i m H →
      ((Itl K p).stop i H ∧ Qd H) ∨ ((Itl K p).go i H ∧ ∃ Nx : Hp → Prop, (∀ H', Nx H' → ∃ m', m' < m ∧ W (i + 1) m' H') ∧ ∀ x H', (Itl K p).yld i H x H' → g x (wipe σ vs) H' fun σ2 H2 => wipe σ2 vs = wipe σ vs ∧ tYes σ2 H2 fun b H3 =>
        if b = true then te σ2 H3 fun y H4 => ∃ acc, H4 D = some (.lst acc) ∧ acc.length < sizeLine ∧ Nx (upd H4 D (.lst (acc ++ [y]))) else Nx H3) := by
  obtain ⟨p', ws, e, h1, h2⟩ := hp
  cases e
  have gD0 : G D = none := sg.free hD
  refine lc_list (K := K) (a := p) (xs := ws) (fun i H' => ∃ G', Grow G H G' H' ∧ G' D = none ∧ H' D = some (.lst (((l.take i).map F).map iv))) ?_ ?_ ?_ ?_
  · exact ⟨G, (Grow.refl sg).open hD, gD0, upd_same⟩
  · rintro i H' hi ⟨G', gr, _⟩
    exact SqL.of (gr.gh _ _ (gr.gg _ _ h1))
  · rintro i x H' hx ⟨G', gr, gD, eD⟩
    obtain ⟨y, hy, hr⟩ := pr_get h2 hx
    have hym : y ∈ l := List.mem_of_getElem? hy
    have q := he x y G' H' (fun y' H4 => ∃ acc, H4 D = some (.lst acc) ∧ acc.length < sizeLine ∧ ∃ G'', Grow G H G'' (upd H4 D (.lst (acc ++ [y']))) ∧ G'' D = none ∧ (upd H4 D (.lst (acc ++ [y']))) D = some (.lst (((l.take (i + 1)).map F).map iv))) hym gr (m _ _ _ _ gr.gg hr) (fun G2 H2 g2 => ?_)
    · exact q
    · obtain ⟨k1, k2⟩ := g2.keep eD gD
      refine ⟨_, k1, szl ?_, G2, (gr.trans g2).set hD k2, k2, ?_⟩
      · rw [List.length_map, List.length_map, List.length_take]
        omega
      · rw [upd_same, List.take_add_one, hy]
        simp [iv]
  · rintro H' ⟨G', gr, gD, eD⟩
    rw [h2.length, List.take_of_length_le (Nat.le_refl _)] at eD
    refine hd _ H' (gr.fin hD gD eD) (LI.of upd_same)
end R
namespace R
open PySem PySem.Spec PyProof.Rows L2
private theorem rd_two {t u : TS} {D : Ends} {σ : L2.St} {H : Hp} (C : L2.St → Hp → Prop) (rest : ∀ σ' H', C σ' H' → u D σ' H') (first : ∀ (U : L2.St → Hp → Prop), (∀ σ' H', C σ' H' → U σ' H') → t { D with nx := U } σ H) : tSeq t u D σ H := first (u D) rest
private theorem tru_bl {K : PySem.W.Frag} {b : Bool} {H : Hp} : TruV K (.bl b) H b := rfl
end R
namespace R
open PySem PySem.Spec PyProof.Rows L2
noncomputable def FD : Rp (Bool × Nat × List Nat) := fun G v x => ∃ a u, v = .ref a ∧ G a = some (.tup [.bl x.1, .int (x.2.1 : Int), u]) ∧ LI G u x.2.2
private theorem FD.mono : Mono FD := fun _ _ _ _ s h => by
  obtain ⟨a, u, e, h1, h2⟩ := h
  exact ⟨a, u, e, s _ _ h1, LI.mono _ _ _ _ s h2⟩
noncomputable def FS : Rp (Nat × List (Bool × Nat × List Nat)) := fun G v x => ∃ a u, v = .ref a ∧ G a = some (.tup [.int (x.1 : Int), u]) ∧ LS FD G u x.2
private theorem rd_ixT {K : PySem.W.Frag} {G H : Hp} {a : Addr} {vs : List V} {i : Nat} {v : V} {Q : VK} (s : Same G H) (h : G a = some (.tup vs)) (hi : vs[i]? = some v) (q : Q v H) : rIxT K (.ref a) (.int (i : Int)) H Q :=
  ⟨a, vs, _, v, rfl, rfl, SqT.of (s _ _ h), atI_nat hi, q⟩
private theorem rd_last {α : Type} {R : Rp α} {K : PySem.W.Frag} {G H : Hp} {x : V} {l : List α} {y : α} {Q : VK} (s : Same G H) (h : LS R G x l) (hi : l.getLast? = some y) (q : ∀ v, R G v y → Q v H) : rIxL K x (.int (-1)) H Q := by
  obtain ⟨a, vs, rfl, h1, h2⟩ := h
  have hl := h2.length
  have e1 : l[l.length - 1]? = some y := by rw [← List.getLast?_eq_getElem?]; exact hi
  obtain ⟨v, hv, r⟩ := pr_get' h2 e1
  have e2 : vs.getLast? = some v := by rw [List.getLast?_eq_getElem?, hl]; exact hv
  obtain ⟨ws, e3⟩ := List.getLast?_eq_some_iff.mp e2
  exact ⟨a, vs, _, v, rfl, rfl, SqL.of (s _ _ h1), by rw [e3]; exact atI_last ws v, q v r⟩
end R
namespace R
open PySem PySem.Spec PyProof.Rows L2
noncomputable def TL : Rp (Bool × Nat × Nat) := fun G v x => ∃ a, v = .ref a ∧ G a = some (.tup [.bl x.1, .int (x.2.1 : Int), .int (x.2.2 : Int)])
private theorem TL.mono : Mono TL := fun _ _ _ _ s h => by
  obtain ⟨a, e, h1⟩ := h
  exact ⟨a, e, s _ _ h1⟩
noncomputable abbrev BK : Rp (List (Bool × Nat × Nat)) := LS TL
private theorem BK.mono : Mono BK := LS.mono TL.mono
private theorem rd_leaf {K : PySem.W.Frag} {G H : Hp} {v : V} {x : Bool × Nat × Nat} {i j l : Nat} {σ : L2.St} {Q : L2.St → Hp → Prop} (s : Same G H) (h : TL G v x) (q : Q (((σ.set i (some (.bl x.1))).set j (some (.int (x.2.1 : Int)))).set l (some (.int (x.2.2 : Int)))) H) :
    gTup K 3 (gCons (gName i) (gCons (gName j) (gCons (gName l) gNil))) v σ H Q := by
  obtain ⟨a, rfl, h1⟩ := h
  exact ⟨a, _, rfl, SqT.of (s _ _ h1), rfl, _, _, rfl, _, _, rfl, _, _, rfl, rfl, q⟩
noncomputable def DM : Rp (Nat → Option Nat) := fun G v m => ∃ a kvs, v = .ref a ∧ G a = some (.dK kvs) ∧ ∀ k : Nat, valV kvs (Sum.inl (k : Int)) = (m k).map iv
private theorem DM.mono : Mono DM := fun _ _ _ _ s h => by
  obtain ⟨a, kvs, e, h1, h2⟩ := h
  exact ⟨a, kvs, e, s _ _ h1, h2⟩
private theorem dput_val {kvs : List (Key × V)} {m : Nat → Option Nat} (h : ∀ k : Nat, valV kvs (Sum.inl (k : Int)) = (m k).map iv) (j v : Nat) : ∀ k : Nat, valV (putK kvs (Sum.inl (j : Int)) (iv v)) (Sum.inl (k : Int)) = (M.putM m j v k).map iv := by
  intro k
  rw [valV_put]
  unfold M.putM
  by_cases e : k = j
  · subst e; simp
  · have : ¬ (Sum.inl (j : Int) : Key) = Sum.inl (k : Int) := fun z => e (by have := Sum.inl.inj z; omega)
    rw [if_neg e]
    first | rw [if_neg this] | rw [if_neg (fun z => this z.symm)]
    exact h k
end R
end
section
set_option linter.all false
set_option Elab.async false
set_option maxRecDepth 100000
namespace R
open PySem PySem.Spec PyProof.Rows L2
private theorem ty_list {K : PySem.W.Frag} {H : Hp} {l : Addr} {xs : List V} (h : H l = some (.lst xs)) : tyV K "list" (.ref l) H := .inl ⟨rfl, _, SqL.of h⟩
private theorem rd_ext {H : Hp} {l b : Addr} {xs zs : List V} {Q : VK} (h : H l = some (.lst xs)) (h2 : H b = some (.lst zs)) (hz : xs.length + zs.length ≤ 1000000) (q : Q .non (upd H l (.lst (xs ++ zs)))) : rExtend (.ref l) [.ref b] H Q :=
  ⟨l, b, xs, zs, rfl, rfl, h, h2, by rw [sizeLine_eq]; omega, q⟩
private theorem rd_app {H : Hp} {l : Addr} {xs : List V} {y : V} {Q : VK} (h : H l = some (.lst xs)) (hz : xs.length ≤ 1000000) (q : Q .non (upd H l (.lst (xs ++ [y])))) : rAppend (.ref l) [y] H Q :=
  ⟨l, xs, y, rfl, rfl, h, szl hz, q⟩
private theorem rd_pop {K : PySem.W.Frag} {H : Hp} {l : Addr} {xs : List V} {y : V} {Q : VK} (h : H l = some (.lst (xs ++ [y]))) (q : Q y (upd H l (.lst xs))) : tyV K "list" (.ref l) H ∧ rPop (.ref l) [] H Q :=
  ⟨ty_list h, l, xs ++ [y], y, rfl, rfl, h, by simp, by rw [List.dropLast_concat]; exact q⟩
private theorem dput {H : Hp} {d : Addr} {kvs : List (Key × V)} {j : Nat} {v : V} (h : H d = some (.dK kvs)) (hl : kvs.length ≤ 1000000) : DPut H d (.int (j : Int)) v (upd H d (.dK (putK kvs (Sum.inl (j : Int)) v))) := DPut.k (k := Sum.inl (j : Int)) h (szl hl)
private theorem DM.of {G : Hp} {a : Addr} {kvs : List (Key × V)} {m : Nat → Option Nat} (h : G a = some (.dK kvs)) (hm : ∀ k : Nat, valV kvs (Sum.inl (k : Int)) = (m k).map iv) : DM G (.ref a) m := ⟨a, kvs, rfl, h, hm⟩
end R
namespace R
open PySem PySem.Spec PyProof.Rows L2
private theorem rd_index {K : PySem.W.Frag} {G H : Hp} {v : V} {x : Nat} {ns : List Nat} {Q : VK} (s : Same G H) (h : LI G v ns) (hx : x ∈ ns) (q : Q (.int (ns.idxOf x : Int)) H) : tyV K "list" v H ∧ rIndex K v [.int (x : Int)] H Q := by
  obtain ⟨a, rfl, ha⟩ := h.at
  have hlt : ns.idxOf x < ns.length := List.idxOf_lt_length_of_mem hx
  refine ⟨ty_list (s _ _ ha), a, ns.map iv, .int (x : Int), ns.idxOf x, iv x, rfl, rfl, SqL.of (s _ _ ha), rfl, flat_ints ns, ?_, ?_, fun m z' hm hz => ?_, q⟩
  · rw [List.getElem?_map, List.getElem?_eq_getElem hlt, List.getElem_idxOf hlt]
    rfl
  · show ((x : Int) == (x : Int)) = true
    simp
  · obtain ⟨n, hn, rfl⟩ := map_at hz
    show ((n : Int) == (x : Int)) = false
    have hne : ¬ n = x := by
      intro e
      subst e
      obtain ⟨h1, h2⟩ := List.getElem?_eq_some_iff.mp hn
      have hj : ns.idxOf n ≤ m := by
        have := List.not_of_lt_findIdx (p := (· == n)) (xs := ns) (i := m) hm
        rw [h2] at this
        simp at this
      omega
    simp
    omega
private theorem sort2 {ns : List Int} {i j : Nat} (p : ns.Perm [(i : Int), (j : Int)]) (h : ns.Pairwise (· ≤ ·)) : ns = [((min i j : Nat) : Int), ((max i j : Nat) : Int)] := by
  have hl := p.length_eq
  match ns, hl with
  | [a, b], _ =>
    have hab : a ≤ b := by simpa using h
    have ha : a = (i : Int) ∨ a = (j : Int) := by simpa using p.subset (List.mem_cons_self)
    have hb : b = (i : Int) ∨ b = (j : Int) := by simpa using p.subset (List.mem_cons_of_mem _ List.mem_cons_self)
    have hi : (i : Int) = a ∨ (i : Int) = b := by simpa using p.symm.subset (List.mem_cons_self)
    have hj : (j : Int) = a ∨ (j : Int) = b := by simpa using p.symm.subset (List.mem_cons_of_mem _ List.mem_cons_self)
    congr 1
    · omega
    · congr 1
      omega
end R
namespace R
open PySem PySem.Spec PyProof.Rows L2
noncomputable def FOR (J : It) (g : TG) (tb : TS) (D : Ends) (σ : L2.St) (H : Hp) : Prop := ∃ W : Nat → Nat → L2.St → Hp → Prop, (∃ m, W 0 m σ H) ∧ ∀ i m σ H, W i m σ H →
  (J.stop i H ∧ D.nx σ H) ∨ (J.go i H ∧ ∃ N : L2.St → Hp → Prop, (∀ σ' H', N σ' H' → ∃ m', m' < m ∧ W (i + 1) m' σ' H') ∧ ∀ x H', J.yld i H x H' → g x σ H' fun σ2 H2 => tb { D with nx := N, ct := N, bk := D.nx } σ2 H2)
private theorem tFor_eq {wi : TI} {g : TG} {tb : TS} {D : Ends} {σ : L2.St} {H : Hp} : tFor wi g tb D σ H = wi σ H fun J H1 => FOR J g tb D σ H1 := rfl
noncomputable def LC (J : It) (g : TG) (tt : TT) (te : TE) (vs : List Nat) (σ : L2.St) (H1 : Hp) (Q : VK) : Prop := ∀ D, H1 D = none → ∃ W : Nat → Nat → Hp → Prop, (∃ m, W 0 m (upd H1 D (.lst []))) ∧ ∀ i m H, W i m H →
  (J.stop i H ∧ Q (.ref D) H) ∨ (J.go i H ∧ ∃ Nx : Hp → Prop, (∀ H', Nx H' → ∃ m', m' < m ∧ W (i + 1) m' H') ∧ ∀ x H', J.yld i H x H' → g x (wipe σ vs) H' fun σ2 H2 => wipe σ2 vs = wipe σ vs ∧ tt σ2 H2 fun b H3 =>
    if b = true then te σ2 H3 fun y H4 => ∃ acc, H4 D = some (.lst acc) ∧ acc.length < sizeLine ∧ Nx (upd H4 D (.lst (acc ++ [y]))) else Nx H3)
private theorem tLc_eq {wi : TI} {g : TG} {tt : TT} {te : TE} {vs : List Nat} {σ : L2.St} {H : Hp} {Q : VK} : tLc wi g tt te vs σ H Q = wi σ H fun J H1 => LC J g tt te vs σ H1 Q := rfl
private theorem rd_forL {α : Type} {R : Rp α} {K : PySem.W.Frag} {G H : Hp} {x : V} {l : List α} {g : TG} {tb : TS} {D : Ends} {σ : L2.St} (s : Same G H) (h : LS R G x l) (q : ∀ a vs, x = .ref a → G a = some (.lst vs) → Paired (R G) vs l → FOR (Itl K a) g tb D σ H) :
    ∃ a, x = V.ref a ∧ (∃ xs, SqL K H a xs) ∧ FOR (Itl K a) g tb D σ H := by
  obtain ⟨a, vs, rfl, h1, h2⟩ := h
  exact ⟨a, rfl, ⟨_, SqL.of (s _ _ h1)⟩, q a vs rfl h1 h2⟩
end R
namespace R
open PySem PySem.Spec PyProof.Rows L2
noncomputable def rDG (x y : V) (H : Hp) (Q : VK) : Prop := ∃ a v, x = .ref a ∧ DGet H a y (some v) ∧ Q v H
private theorem tDGet_eq {td ty : TE} {σ : L2.St} {H : Hp} {Q : VK} : tDGet td ty σ H Q = td σ H fun x H1 => ty σ H1 fun y H2 => rDG x y H2 Q := rfl
private theorem rd_dg {G H : Hp} {v : V} {m : Nat → Option Nat} {j x : Nat} {Q : VK} (s : Same G H) (h : DM G v m) (hj : m j = some x) (q : Q (.int (x : Int)) H) : rDG v (.int (j : Int)) H Q := by
  obtain ⟨a, kvs, rfl, h1, h2⟩ := h
  have e := h2 j
  rw [hj] at e
  refine ⟨a, iv x, rfl, ?_, q⟩
  have := DGet.k (k := Sum.inl (j : Int)) (s _ _ h1)
  rw [e] at this
  exact this
end R
namespace R
open PySem PySem.Spec PyProof.Rows L2
private theorem ty_LI {K : PySem.W.Frag} {G H : Hp} {v : V} {ns : List Nat} (s : Same G H) (h : LI G v ns) : tyV K "list" v H := by
  obtain ⟨a, rfl, ha⟩ := h.at
  exact ty_list (s _ _ ha)
private theorem rd_idx {K : PySem.W.Frag} {G H : Hp} {v : V} {x : Nat} {ns : List Nat} {Q : VK} (s : Same G H) (h : LI G v ns) (hx : x ∈ ns) (q : Q (.int (ns.idxOf x : Int)) H) : rIndex K v [.int (x : Int)] H Q := (rd_index (K := K) s h hx q).2
end R
namespace R
open PySem PySem.Spec PyProof.Rows L2
private theorem rd_fd {K : PySem.W.Frag} {G H : Hp} {v : V} {x : Bool × Nat × List Nat} {i j l : Nat} {σ : L2.St} {Q : L2.St → Hp → Prop} (s : Same G H) (h : FD G v x) (q : ∀ u, LI G u x.2.2 → Q (((σ.set i (some (.bl x.1))).set j (some (.int (x.2.1 : Int)))).set l (some u)) H) :
    gTup K 3 (gCons (gName i) (gCons (gName j) (gCons (gName l) gNil))) v σ H Q := by
  obtain ⟨a, u, rfl, h1, h2⟩ := h
  exact ⟨a, _, rfl, SqT.of (s _ _ h1), rfl, _, _, rfl, _, _, rfl, _, _, rfl, rfl, q u h2⟩
end R
end
section
set_option linter.all false
set_option Elab.async false
set_option maxRecDepth 100000
namespace R
open PySem PySem.Spec PyProof.Rows L2
private theorem lc_fm {K : PySem.W.Frag} {α β : Type} {R : Rp α} {RB : Rp β} (m : Mono R) (mb : Mono RB) {o : α → Option β} {G H : Hp} {p : Addr} {l : List α} {g : TG} {tt : TT} {te : TE} {vs : List Nat} {σ : L2.St} {Q : VK}
    (sg : Same G H) (hp : LS R G (.ref p) l) (hl : l.length ≤ 1000000)
    (he : ∀ x y G' H' (Nx : Hp → Prop) (Qk : VK), y ∈ l → Grow G H G' H' → R G' x y → (∀ z, o y = some z → ∀ v G2 H2, Grow G' H' G2 H2 → RB G2 v z → Qk v H2) → (o y = none → ∀ G2 H2, Grow G' H' G2 H2 → Nx H2) →
      g x (wipe σ vs) H' fun σ2 H2 => wipe σ2 vs = wipe σ vs ∧ tt σ2 H2 fun b H3 => if b = true then te σ2 H3 Qk else Nx H3)
    (hd : ∀ D G' H', Grow G H G' H' → LS RB G' (.ref D) (l.filterMap o) → Q (.ref D) H') : LC (Itl K p) g tt te vs σ H Q := by
  intro D hD
  obtain ⟨p', ws, e, h1, h2⟩ := hp
  cases e
  have gD0 : G D = none := sg.free hD
  refine lc_list (K := K) (a := p) (xs := ws) (fun i H' => ∃ G' us, Grow G H G' H' ∧ G' D = none ∧ H' D = some (.lst us) ∧ Paired (RB G') us ((l.take i).filterMap o) ∧ us.length ≤ i) ?_ ?_ ?_ ?_
  · exact ⟨G, [], (Grow.refl sg).open hD, gD0, upd_same, .nil, Nat.le_refl _⟩
  · rintro i H' hi ⟨G', us, gr, _⟩
    exact SqL.of (gr.gh _ _ (gr.gg _ _ h1))
  · rintro i x H' hx ⟨G', us, gr, gD, eD, pr, hul⟩
    obtain ⟨y, hy, hr⟩ := pr_get h2 hx
    have hym : y ∈ l := List.mem_of_getElem? hy
    have hil : i < l.length := (List.getElem?_eq_some_iff.mp hy).1
    have et : (l.take (i + 1)).filterMap o = (l.take i).filterMap o ++ (o y).toList := by
      rw [List.take_add_one, hy]
      cases e : o y <;> simp [e]
    refine he x y G' H' _ _ hym gr (m _ _ _ _ gr.gg hr) (fun z hz v G2 H2 g2 hv => ?_) (fun hz G2 H2 g2 => ?_)
    · obtain ⟨k1, k2⟩ := g2.keep eD gD
      refine ⟨_, k1, szl (by omega), G2, us ++ [v], (gr.trans g2).set hD k2, k2, upd_same, ?_, by simp; omega⟩
      rw [et, hz]
      exact pr_app (pr_imp (fun _ _ q => mb _ _ _ _ g2.gg q) pr) (.cons hv .nil)
    · obtain ⟨k1, k2⟩ := g2.keep eD gD
      refine ⟨G2, us, gr.trans g2, k2, k1, ?_, by omega⟩
      rw [et, hz]
      simp only [Option.toList_none, List.append_nil]
      exact pr_imp (fun _ _ q => mb _ _ _ _ g2.gg q) pr
  · rintro H' ⟨G', us, gr, gD, eD, pr, hul⟩
    rw [h2.length, List.take_of_length_le (Nat.le_refl _)] at pr
    exact hd D _ H' (gr.fin hD gD eD) ⟨D, us, rfl, upd_same, pr_imp (fun _ _ q => mb _ _ _ _ (Same.upd_none gD) q) pr⟩
private theorem rd_lcL {α : Type} {R : Rp α} {K : PySem.W.Frag} {G H : Hp} {x : V} {l : List α} {g : TG} {tt : TT} {te : TE} {vs : List Nat} {σ : L2.St} {Q : VK} (s : Same G H) (h : LS R G x l) (q : ∀ a, LS R G (.ref a) l → LC (Itl K a) g tt te vs σ H Q) :
    ∃ a, x = V.ref a ∧ (∃ xs, SqL K H a xs) ∧ LC (Itl K a) g tt te vs σ H Q := by
  obtain ⟨a, vs, rfl, h1, h2⟩ := h
  exact ⟨a, rfl, ⟨_, SqL.of (s _ _ h1)⟩, q a ⟨a, vs, rfl, h1, h2⟩⟩
structure Dat {α : Type} (R : Rp α) (d : α → PyData) (k : Nat) : Prop where
  dp : ∀ {K : PySem.W.Frag} {G H : Hp} {v : V} {x : α}, Same G H → R G v x → Dp K H v (d x)
  lay : ∀ x, (d x).canLay0 = true
  deep : ∀ x, (d x).depth ≤ k
private theorem dp_all {α : Type} {R : Rp α} {d : α → PyData} {k : Nat} (D : Dat R d k) {K : PySem.W.Frag} {G H : Hp} (s : Same G H) : ∀ {vs : List V} {l : List α}, Paired (R G) vs l → DpAll K H vs (l.map d)
  | _, _, .nil => .nil
  | _, _, .cons a b => .cons (D.dp s a) (dp_all D s b)
private theorem lay_all {α : Type} {R : Rp α} {d : α → PyData} {k : Nat} (D : Dat R d k) : ∀ l : List α, PyData.canLayAll0 (l.map d) = true
  | [] => by simp [PyData.canLayAll0]
  | x :: r => by simp [PyData.canLayAll0, D.lay x, lay_all D r]
private theorem deep_all {α : Type} {R : Rp α} {d : α → PyData} {k : Nat} (D : Dat R d k) : ∀ l : List α, PyData.depthAll (l.map d) ≤ k
  | [] => by simp [PyData.depthAll]
  | x :: r => by
    rw [List.map_cons, PyData.depthAll]
    exact Nat.max_le.mpr ⟨D.deep x, deep_all D r⟩
private theorem Dat.list {α : Type} {R : Rp α} {d : α → PyData} {k : Nat} (D : Dat R d k) : Dat (LS R) (fun l => .list (l.map d)) (k + 1) where
  dp := fun s h => by
    obtain ⟨a, vs, rfl, h1, h2⟩ := h
    exact .lst (SqL.of (s _ _ h1)) (dp_all D s h2)
  lay := fun l => by rw [PyData.canLay0]; exact lay_all D l
  deep := fun l => by rw [PyData.depth]; have := deep_all D l; omega
private theorem Dat.nat : Dat NV (fun n => .int (n : Int)) 0 where
  dp := fun s h => by cases h; exact .int _
  lay := fun _ => by simp [PyData.canLay0]
  deep := fun _ => by simp [PyData.depth]
noncomputable def dTL (x : Bool × Nat × Nat) : PyData := .tuple [.bool x.1, .int (x.2.1 : Int), .int (x.2.2 : Int)]
private theorem Dat.leaf : Dat TL dTL 1 where
  dp := fun s h => by
    obtain ⟨a, rfl, h1⟩ := h
    exact .tup (SqT.of (s _ _ h1)) (.cons (.bl _) (.cons (.int _) (.cons (.int _) .nil)))
  lay := fun _ => by simp [dTL, PyData.canLay0, PyData.canLayAll0]
  deep := fun _ => by simp [dTL, PyData.depth, PyData.depthAll]
private theorem Dat.book : Dat BK (fun l => .list (l.map dTL)) 2 := Dat.leaf.list
private theorem rd_neNil {α : Type} {R : Rp α} {d : α → PyData} {k : Nat} (D : Dat R d k) (hk : k ≤ 60) {K : PySem.W.Frag} {G H : Hp} {x : V} {l : List α} {p : Addr} {Q : VK} (s : Same G H) (h : LS R G x l) (hp : H p = some (.lst [])) (q : Q (.bl (!decide (l = []))) H) : rNeD K x (.ref p) H Q := by
  refine ⟨.list (l.map d), .list [], D.list.dp s h, .lst (SqL.of hp) .nil, ?_, by rfl, ?_⟩
  · unfold SeqAt.shaped
    rw [D.list.lay l, Bool.true_and]
    exact decide_eq_true (by have := D.list.deep l; omega)
  · cases l with
    | nil => exact q
    | cons y r => exact q
noncomputable def WY : Rp (Bool × List Nat) := fun G v x => ∃ a u, v = .ref a ∧ G a = some (.tup [.bl x.1, u]) ∧ LI G u x.2
private theorem WY.mono : Mono WY := fun _ _ _ _ s h => by
  obtain ⟨a, u, e, h1, h2⟩ := h
  exact ⟨a, u, e, s _ _ h1, LI.mono _ _ _ _ s h2⟩
private theorem rd_way {K : PySem.W.Frag} {G H : Hp} {v : V} {x : Bool × List Nat} {i j : Nat} {σ : L2.St} {Q : L2.St → Hp → Prop} (s : Same G H) (h : WY G v x) (q : ∀ u, LI G u x.2 → Q ((σ.set i (some (.bl x.1))).set j (some u)) H) :
    gTup K 2 (gCons (gName i) (gCons (gName j) gNil)) v σ H Q := by
  obtain ⟨a, u, rfl, h1, h2⟩ := h
  exact ⟨a, _, rfl, SqT.of (s _ _ h1), rfl, _, _, rfl, _, _, rfl, rfl, q u h2⟩
private theorem rd_cat {G H : Hp} {x y : V} {ns ms : List Nat} {Q : VK} (s : Same G H) (hx : LI G x ns) (hy : LI G y ms) (hz : ns.length + ms.length ≤ 1000000) (q : ∀ p, H p = none → Q (.ref p) (upd H p (.lst ((ns ++ ms).map iv)))) : rCat x y H Q := by
  obtain ⟨a, rfl, ha⟩ := hx.at
  obtain ⟨b, rfl, hb⟩ := hy.at
  refine ⟨a, b, _, _, rfl, rfl, s _ _ ha, s _ _ hb, ?_, fun p hp => ?_⟩
  · rw [List.length_map, List.length_map, sizeLine_eq]
    omega
  · rw [← List.map_append]
    exact q p hp
noncomputable def rCount (K : PySem.W.Frag) : V → List V → Hp → VK → Prop := fun x xs H Q => ∃ (a : Addr) (ns : List Int) (k : Int), x = .ref a ∧ xs = [.int k] ∧ SqL K H a (ns.map V.int) ∧ Q (.int (ns.count k : Nat)) H
private theorem mtCount {X : Cx} : MtR X "list.count" (rCount X.K) := mt_count
noncomputable def rRange : List V → Hp → VK → Prop := fun xs H Q => ∃ i j : Int, xs = [.int i, .int j] ∧ ∀ p, H p = none → Q (.ref p) (upd H p (.rng i j))
private theorem callRange {X : Cx} : CallR X (.type "range") rRange := call_rangeO
noncomputable def rListR : List V → Hp → VK → Prop := fun xs H Q => ∃ (p : Addr) (i j : Int), xs = [.ref p] ∧ H p = some (.rng i j) ∧ (-(2 ^ 62) ≤ i ∧ i < 2 ^ 62 ∧ -(2 ^ 62) ≤ j ∧ j < 2 ^ 62) ∧ (j - i).toNat ≤ 1000000 ∧ ∀ l, H l = none → Q (.ref l) (upd H l (.lst (upTo i (j - i).toNat)))
private theorem callListR {X : Cx} (hc : X.calm = true) : CallR X (.type "list") rListR := call_listR hc
noncomputable def rMin2 : List V → Hp → VK → Prop := fun xs H Q => ∃ i j, xs = [.int i, .int j] ∧ Q (.int (if j < i then j else i)) H
private theorem callMin2 {X : Cx} (hc : X.calm = true) : CallR X (.builtin "min") rMin2 := call_min2 hc
private theorem rd_listRange {G0 H0 G H : Hp} {a b : Nat} {Q : VK} (g : Grow G0 H0 G H) (h1 : a ≤ 1000) (h2 : b ≤ 1000) (q : ∀ p G' H', Grow G0 H0 G' H' → Grow G H G' H' → LI G' (.ref p) ((List.range (b - a)).map (· + a)) → Q (.ref p) H') :
    rRange [.int (a : Int), .int (b : Int)] H fun x H1 => rListR [x] H1 Q := by
  refine ⟨a, b, rfl, fun p hp => ⟨p, a, b, rfl, upd_same, ⟨by omega, by omega, by omega, by omega⟩, by omega, fun l hl => ?_⟩⟩
  refine q l _ _ ((g.made hp).made hl) (((Grow.refl g.gh).made hp).made hl) (LI.of ?_)
  rw [upd_same]
  unfold upTo
  rw [List.map_map]
  have e : ((b : Int) - (a : Int)).toNat = b - a := by omega
  rw [e]
  congr 2
  refine List.map_congr_left fun k _ => ?_
  show V.int _ = V.int _
  congr 1
  simp
  omega
private theorem rd_count {K : PySem.W.Frag} {G H : Hp} {v : V} {x : Nat} {ns : List Nat} {Q : VK} (s : Same G H) (h : LI G v ns) (q : Q (.int (ns.count x : Int)) H) : tyV K "list" v H ∧ rCount K v [V.int (x : Int)] H Q := by
  obtain ⟨a, rfl, ha⟩ := h.at
  refine ⟨ty_list (s _ _ ha), a, ns.map fun (n : Nat) => (n : Int), x, rfl, rfl, by rw [← map_iv]; exact SqL.of (s _ _ ha), ?_⟩
  have e : (ns.map fun (n : Nat) => (n : Int)).count (x : Int) = ns.count x := by
    rw [List.count_eq_countP, List.count_eq_countP, List.countP_map]
    congr 1
    funext n
    show ((n : Int) == (x : Int)) = (n == x)
    rw [Bool.eq_iff_iff]
    simp
    omega
  rw [e]
  exact q
end R
namespace R
open PySem PySem.Spec PyProof.Rows L2
private theorem LS.sq {α : Type} {R : Rp α} {K : PySem.W.Frag} {G H : Hp} {a : Addr} {l : List α} (s : Same G H) (h : LS R G (.ref a) l) : ∃ xs, SqL K H a xs := by
  obtain ⟨a', vs, e, h1, h2⟩ := h
  cases e
  exact ⟨_, SqL.of (s _ _ h1)⟩
end R
end
section
set_option linter.all false
set_option Elab.async false
set_option maxRecDepth 100000
namespace R
open PySem PySem.Spec PyProof.Rows L2
private theorem for_rev {K : PySem.W.Frag} {a : Addr} {xs : List V} {g : TG} {tb : TS} {D : Ends} {σ : L2.St} {H : Hp} (Pv : Nat → L2.St → Hp → Prop) (h0 : Pv 0 σ H) (hl : ∀ i σ H, i ≤ xs.length → Pv i σ H → SqL K H a xs)
    (hs : ∀ i x σ H, xs.reverse[i]? = some x → Pv i σ H → g x σ H fun σ2 H2 => tb { D with nx := Pv (i + 1), ct := Pv (i + 1), bk := D.nx } σ2 H2) (hd : ∀ σ H, Pv xs.length σ H → D.nx σ H) : FOR (Itv K a xs.length) g tb D σ H := by
  refine ⟨fun i m σ H => m = xs.length - i ∧ i ≤ xs.length ∧ Pv i σ H, ⟨xs.length, by simp, Nat.zero_le _, h0⟩, ?_⟩
  rintro i m σ H ⟨rfl, hi, p⟩
  have q := hl i σ H hi p
  by_cases hlt : i < xs.length
  · refine .inr ⟨⟨hlt, xs, xs[xs.length - 1 - i], q, by rw [List.getElem?_eq_getElem (by omega)]⟩, Pv (i + 1), fun σ' H' p' => ⟨xs.length - (i + 1), by omega, rfl, hlt, p'⟩, fun x H' y => ?_⟩
    obtain ⟨e, y⟩ := y
    subst e
    have hx := y xs q
    refine hs i x σ _ ?_ p
    rw [List.getElem?_reverse hlt]
    exact hx
  · have e : i = xs.length := by omega
    subst e
    exact .inl ⟨Nat.le_refl _, hd σ H p⟩
structure GrowM (wa : Addr) (G H G' H' : Hp) : Prop where
  gg : Same G G'
  hh : ∀ a o, a ≠ wa → H a = some o → H' a = some o
  gh : Same G' H'
  nw : ∀ a, G a = none → H a ≠ none → G' a = none
section
variable {wa p : Addr} {G H G1 H1 G2 H2 : Hp} {o : HO}
private theorem GrowM.refl (s : Same G H) : GrowM wa G H G H := ⟨Same.refl _, fun _ _ _ e => e, s, fun _ e _ => e⟩
private theorem GrowM.then (a : GrowM wa G H G1 H1) (hw : H wa ≠ none → H1 wa ≠ none) (b : Grow G1 H1 G2 H2) : GrowM wa G H G2 H2 :=
  ⟨a.gg.trans b.gg, fun x o n e => b.hh _ _ (a.hh x o n e), b.gh, fun x e n => b.nw x (a.nw x e n) (by
    by_cases hx : x = wa
    · subst hx; exact hw n
    · cases q : H x with
      | none => exact absurd q n
      | some o => rw [a.hh x o hx q]; simp)⟩
private theorem GrowM.trans (a : GrowM wa G H G1 H1) (hw : H wa ≠ none → H1 wa ≠ none) (b : GrowM wa G1 H1 G2 H2) : GrowM wa G H G2 H2 :=
  ⟨a.gg.trans b.gg, fun x o n e => b.hh _ _ n (a.hh x o n e), b.gh, fun x e n => b.nw x (a.nw x e n) (by
    by_cases hx : x = wa
    · subst hx; exact hw n
    · cases q : H x with
      | none => exact absurd q n
      | some o => rw [a.hh x o hx q]; simp)⟩
private theorem GrowM.set (a : GrowM wa G H G1 H1) (h : G1 wa = none) : GrowM wa G H G1 (upd H1 wa o) :=
  ⟨a.gg, fun x o n e => by rw [upd_ne n]; exact a.hh x o n e, fun b u e => by rw [upd_ne (ne_of_none e h)]; exact a.gh b u e, a.nw⟩
private theorem Grow.turned (g : Grow G H G1 H1) (h : H wa = none) (a : GrowM wa G1 H1 G2 H2) : Grow G H G2 H2 :=
  ⟨g.gg.trans a.gg, fun b u e => a.hh _ _ (ne_of_none e h) (g.hh _ _ e), a.gh, fun x e n => a.nw x (g.nw x e n) (by
    cases q : H x with
    | none => exact absurd q n
    | some o => rw [g.hh x o q]; simp)⟩
end
private theorem pr_last {α β : Type} {F : α → β → Prop} {ws : List α} {bs : List β} (h : Paired F ws bs) (hne : bs ≠ []) : ∃ ws0 v bs0 b, ws = ws0 ++ [v] ∧ bs = bs0 ++ [b] ∧ Paired F ws0 bs0 ∧ F v b := by
  induction h with
  | nil => exact absurd rfl hne
  | @cons a b l1 l2 ha ht ih =>
    cases l2 with
    | nil =>
      cases ht
      exact ⟨[], a, [], b, rfl, rfl, .nil, ha⟩
    | cons c r =>
      obtain ⟨ws0, v, bs0, b', e1, e2, h1, h2⟩ := ih (by simp)
      exact ⟨a :: ws0, v, b :: bs0, b', by rw [e1]; rfl, by rw [e2]; rfl, .cons ha h1, h2⟩
private theorem pr_rev {α β : Type} {F : α → β → Prop} : ∀ {ws : List α} {bs : List β}, Paired F ws bs → Paired F ws.reverse bs.reverse
  | _, _, .nil => .nil
  | _, _, .cons a b => by
    rw [List.reverse_cons, List.reverse_cons]
    exact pr_app (pr_rev b) (.cons a .nil)
private theorem rd_catL {α : Type} {R : Rp α} {G H : Hp} {x : V} {l : List α} {p : Addr} {zs : List V} {Q : VK} (s : Same G H) (hx : LS R G x l) (hp : H p = some (.lst zs)) (hz : l.length + zs.length ≤ 1000000) (q : ∀ vs, Paired (R G) vs l → ∀ p', H p' = none → Q (.ref p') (upd H p' (.lst (vs ++ zs)))) : rCat x (.ref p) H Q := by
  obtain ⟨a, vs, rfl, h1, h2⟩ := hx
  refine ⟨a, p, vs, zs, rfl, rfl, s _ _ h1, hp, ?_, q vs h2⟩
  rw [h2.length, sizeLine_eq]
  omega
end R
namespace R
open PySem PySem.Spec PyProof.Rows L2
private theorem start_stack {G0 H0 G H : Hp} {p q : Addr} (g : Grow G0 H0 G H) (hp : H p = none) (hq : upd H p (.lst []) q = none) :
    ∃ G', Grow G0 H0 G' (upd (upd H p (.lst [])) q (.lst [V.ref p])) ∧ Same G G' ∧ G' q = none ∧ H0 q = none ∧ Paired (BK G') [V.ref p] [[]] := by
  have g1 := g.made (o := .lst []) hp
  have pq : p ≠ q := ne_of_none (upd_same (H := H) (a := p) (o := .lst [])) hq
  refine ⟨upd G p (.lst []), g1.open hq, Same.upd_none (g.gh.free hp), g1.gh.free hq, g1.hh.free hq, .cons ⟨p, [], rfl, upd_same, .nil⟩ .nil⟩
end R
end
section
set_option linter.all false
set_option Elab.async false
set_option maxRecDepth 100000
namespace R
open PySem PySem.Spec PyProof.Rows L2
section
open PySem.AutoSeq1 (wpAny_loadPart')
open PySem.SeqAt PySem.MeetsSeq PySem.MeetsSeq2 PySem.MeetsSeq3 PySem.SeqRoads2
end
end R
end
section
set_option linter.all false
set_option Elab.async false
set_option maxRecDepth 100000
namespace R
open PySem PySem.Spec PyProof.Rows L2
section
variable {X : Cx} {K : PySem.W.Frag}
noncomputable def rInD (K : PySem.W.Frag) : R2 := fun x y H Q => ∃ (d : PyData) (ds : List PyData), Dp K H x d ∧ Dp K H y (.list ds) ∧ PyData.canLayAll0 ds = true ∧ d.canLay0 = true ∧ d.depth ≤ 60 ∧ Q (.bl (ds.any fun z => PyData.eqv z d)) H
private theorem opInD (hK : X.K = K) (hu : X.A.units + 64 < cLine) : OpR X (compareOp .In) (rInD K) := by
  subst hK
  intro pins s σ H x y v u Q I rx ry h
  obtain ⟨d, ds, hd, hds, l1, l2, dp, q⟩ := h
  obtain ⟨as, ra⟩ := Dp.reads I (.list ds) y u hds ry
  obtain ⟨bs, rb⟩ := Dp.reads I d x v hd rx
  refine SeqAt.in_list_reads ra rb l1 l2 ?_ ⟨.bl _, H, I, rfl, q⟩
  have h1 : min (PyData.depthAll ds) d.depth ≤ d.depth := Nat.min_le_right _ _
  omega
end
end R
end
section
set_option linter.all false
set_option Elab.async false
set_option maxRecDepth 100000
namespace R
open PySem PySem.Spec PyProof.Rows L2
section
variable {P : Program} {w : World}
private theorem walk_keys {A : Around} (hh : A.handled = none) (it d : Addr) (ne : d ≠ it) {o : Obj} {es : Array DictEntry} {ep : Nat} (hd : o.data = .dict es ep) :
    Walks P w A it [it, d] [it] es.size (fun i v => ∃ en, es[i]? = some en ∧ v = en.key) (fun i h => h.IsKeyIter it d i es.size ep ∧ h.get? d = some o) where
  sub := fun b hb => by simp at hb; simp [hb]
  frame := fun _ _ _ st hk => ⟨st.1.at fun o e => hk it (by simp) o e, hk d (by simp) o st.2⟩
  item := fun i s Q E hi st hQ => by
    obtain ⟨en, hx⟩ : ∃ en, es[i]? = some en := ⟨es[i], by simp [hi]⟩
    refine next_key_item st.1 st.2 hd rfl hx fun h' st' sb => ?_
    exact hQ _ h' s.toks ⟨en, hx, rfl⟩ ⟨st', (sb.2 d ne).trans st.2⟩ fun b o hb e => (sb.2 b (by simpa using hb)).trans e
  done := fun s Q E st hQ => next_key_end hh st.1 st.2 hd rfl (Nat.le_refl _) fun h' eb => hQ h' s.toks fun b o hb e => eb b o (by simpa using hb) e
  self := fun _ _ _ _ st hQ => wpAny_pyIter_keyiter st.1 hQ
private theorem src_keys {d : Addr} {o : Obj} {es : Array DictEntry} {ep : Nat} (lo : (d == sysModules) = false) (hc : o.ExactDict) (hd : o.data = .dict es ep) :
    PySem.W.KdlSrc P w "dict" d d es.size (fun i v => ∃ en, es[i]? = some en ∧ v = en.key) (fun h => h.get? d = some o) where
  type := fun _ e => ⟨o, e, hc.1⟩
  there := fun _ e => ⟨Heap.lt_size e, Heap.lt_size e⟩
  keep := fun _ _ e hk => hk d (.inl rfl) o e
  notList := by decide
  notTuple := by decide
  hint := fun _ _ _ _ e hq => PySem.W.kdl_hint_dict ⟨o, e, hc.1⟩ hq
  iter := fun A s hh e => by
    refine ⟨_, fun i h => h.IsKeyIter s.heap.objs.size d i es.size ep ∧ h.get? d = some o, fun E Q q => iter_keys lo e hc hd q, walk_keys hh _ d (Nat.ne_of_lt (Heap.lt_size e)) hd, ⟨_, Heap.get?_push_size _ rfl, rfl, rfl⟩, Heap.get?_push_of_some _ e⟩
end
section
variable {X : Cx}
noncomputable def rListD : List V → Hp → VK → Prop := fun xs H Q => ∃ (d : Addr) (kvs : List (List Key × V)), xs = [.ref d] ∧ H d = some (.dT kvs) ∧
  ∀ (l : Addr) (vs : List V), H l = none → Paired (fun (v : V) (kv : List Key × V) => ∃ q, v = .ref q ∧ H q = some (.tup (kv.1.map kV))) vs kvs → Q (.ref l) (upd H l (.lst vs))
private theorem pr_map {α β γ : Type} {F : α → β → Prop} {F' : γ → α → Prop} (f : β → γ) (h : ∀ a b, F a b → F' (f b) a) : ∀ {xs : List α} {ys : List β}, Paired F xs ys → Paired F' (ys.map f) xs
  | _, _, .nil => .nil
  | _, _, .cons a b => .cons (h _ _ a) (pr_map f h b)
private theorem vals_at {f : Nat → V} : ∀ (us : List Value) (k : Nat), (∀ j u, us[j]? = some u → RelV (f (k + j)) u) → Vals ((List.range' k us.length).map f) us
  | [], _, _ => .nil
  | u :: r, k, h => by
    refine .cons (h 0 u rfl) (vals_at r (k + 1) fun j v hj => ?_)
    have := h (j + 1) v (by simpa using hj)
    rw [show k + (j + 1) = k + 1 + j by omega] at this
    exact this
private theorem callListD (hc : X.calm = true) : CallR X (.type "list") rListD := by
  intro pins s σ H xs us Q I r h
  obtain ⟨d, kvs, rfl, hd, q⟩ := h
  obtain ⟨u, rfl, rx⟩ := vals1 r
  cases rx
  obtain ⟨hz, lo, ys, pr, o, es, ep, ho, hx, hdt, he, nd⟩ := I.hok d _ hd
  have l2 : kvs.length = ys.length := Paired.length pr
  have l1 : es.size = ys.length := by rw [← Array.length_toList, he, List.length_map]
  refine PySem.W.kdl_call (src_keys lo hx hdt) (I.ok.hd hc) ho (by omega) fun h' tk acc' c' kp e hacc => ?_
  have rv : Vals (ys.map fun y => V.ref y.2.1) acc'.toList := by
    have := vals_at (f := fun i => (ys.map fun y => V.ref y.2.1).getD i .non) acc'.toList 0 fun j v hj => by
      obtain ⟨en, hen, hv⟩ := hacc.2 j v (by rw [← Array.getElem?_toList]; exact hj)
      rw [← Array.getElem?_toList, he, List.getElem?_map] at hen
      obtain ⟨y, hy, rfl⟩ := Option.map_eq_some_iff.mp hen
      rw [Nat.zero_add]
      show RelV ((ys.map fun y => V.ref y.2.1).getD j .non) v
      rw [List.getD_eq_getElem?_getD, List.getElem?_map, hy, hv]
      rfl
    have el : (List.range' 0 acc'.toList.length).map (fun i => (ys.map fun y => V.ref y.2.1).getD i .non) = ys.map fun y => V.ref y.2.1 := by
      have hl : acc'.toList.length = (ys.map fun y => V.ref y.2.1).length := by
        rw [Array.length_toList, hacc.1, l1, List.length_map]
      rw [hl, ← List.range_eq_range']
      refine List.ext_getElem (by simp) fun i h1 h2 => ?_
      simp only [List.getElem_map, List.getElem_range, List.getD_eq_getElem?_getD, List.getElem?_map]
      rw [List.getElem?_eq_getElem (by simpa using h2)]
      rfl
    rw [el] at this
    exact this
  refine ⟨.ref s.heap.objs.size, _, I.laid (o := .lst (ys.map fun y => V.ref y.2.1)) kp (Nat.le_refl _) ⟨?_, acc'.toList, c', rv, ?_⟩, rfl, q _ _ (I.hok.fresh (Nat.le_refl _)) ?_⟩
  · rw [List.length_map]
    omega
  · simpa using e
  · exact pr_map _ (fun a b hab => ⟨b.2.1, rfl, hab.2.1⟩) pr
end
private theorem lc_fmR {β : Type} {RB : Rp β} (mb : Mono RB) {o : Nat → Option β} {G H : Hp} {n : Nat} {g : TG} {tt : TT} {te : TE} {vs : List Nat} {σ : L2.St} {Q : VK} (sg : Same G H) (hl : n ≤ 1000000)
    (he : ∀ (i : Nat) G' H' (Nx : Hp → Prop) (Qk : VK), i < n → Grow G H G' H' → (∀ z, o i = some z → ∀ v G2 H2, Grow G' H' G2 H2 → RB G2 v z → Qk v H2) → (o i = none → ∀ G2 H2, Grow G' H' G2 H2 → Nx H2) →
      g (.int (i : Int)) (wipe σ vs) H' fun σ2 H2 => wipe σ2 vs = wipe σ vs ∧ tt σ2 H2 fun b H3 => if b = true then te σ2 H3 Qk else Nx H3)
    (hd : ∀ D G' H', Grow G H G' H' → LS RB G' (.ref D) ((List.range n).filterMap o) → Q (.ref D) H') : LC (Itr 0 n) g tt te vs σ H Q := by
  intro D hD
  have gD0 : G D = none := sg.free hD
  refine lc_range (fun i H' => ∃ G' us, Grow G H G' H' ∧ G' D = none ∧ H' D = some (.lst us) ∧ Paired (RB G') us ((List.range i).filterMap o) ∧ us.length ≤ i) ?_ ?_ ?_
  · exact ⟨G, [], (Grow.refl sg).open hD, gD0, upd_same, .nil, Nat.le_refl _⟩
  · rintro i H' hi ⟨G', us, gr, gD, eD, pr, hul⟩
    have et : (List.range (i + 1)).filterMap o = (List.range i).filterMap o ++ (o i).toList := by
      rw [List.range_succ, List.filterMap_append]
      cases e : o i <;> simp [e]
    rw [Int.zero_add]
    refine he i G' H' _ _ hi gr (fun z hz v G2 H2 g2 hv => ?_) (fun hz G2 H2 g2 => ?_)
    · obtain ⟨k1, k2⟩ := g2.keep eD gD
      refine ⟨_, k1, szl (by omega), G2, us ++ [v], (gr.trans g2).set hD k2, k2, upd_same, ?_, by simp; omega⟩
      rw [et, hz]
      exact pr_app (pr_imp (fun _ _ q => mb _ _ _ _ g2.gg q) pr) (.cons hv .nil)
    · obtain ⟨k1, k2⟩ := g2.keep eD gD
      refine ⟨G2, us, gr.trans g2, k2, k1, ?_, by omega⟩
      rw [et, hz]
      simp only [Option.toList_none, List.append_nil]
      exact pr_imp (fun _ _ q => mb _ _ _ _ g2.gg q) pr
  · rintro H' ⟨G', us, gr, gD, eD, pr, hul⟩
    exact hd D _ H' (gr.fin hD gD eD) ⟨D, us, rfl, upd_same, pr_imp (fun _ _ q => mb _ _ _ _ (Same.upd_none gD) q) pr⟩
noncomputable def TI : Rp (List Nat) := fun G v ns => ∃ a, v = .ref a ∧ G a = some (.tup (ns.map iv))
private theorem TI.mono : Mono TI := fun _ _ _ _ s h => by
  obtain ⟨a, e, h1⟩ := h
  exact ⟨a, e, s _ _ h1⟩
noncomputable def dTI (ns : List Nat) : PyData := .tuple (ns.map nd)
private theorem Dat.tup : Dat TI dTI 1 where
  dp := fun s h => by
    obtain ⟨a, rfl, h1⟩ := h
    exact .tup (SqT.of (s _ _ h1)) (dp_ints _)
  lay := fun ns => by
    unfold dTI
    rw [PyData.canLay0]
    exact canLay_ints ns
  deep := fun ns => by
    unfold dTI
    rw [PyData.depth, depth_ints]
    exact Nat.le_refl _
private theorem eqv_TI (ns ms : List Nat) : PyData.eqv (dTI ns) (dTI ms) = decide (ns = ms) := by
  unfold dTI
  rw [PyData.eqv, eqv_ints]
private theorem lc_fmT {K : PySem.W.Frag} {β : Type} {RB : Rp β} (mb : Mono RB) {o : Nat → Option β} {G H : Hp} {p : Addr} {l : List Nat} {g : TG} {tt : TT} {te : TE} {vs : List Nat} {σ : L2.St} {Q : VK}
    (sg : Same G H) (hp : G p = some (.tup (l.map iv))) (hl : l.length ≤ 1000000)
    (he : ∀ (y : Nat) G' H' (Nx : Hp → Prop) (Qk : VK), y ∈ l → Grow G H G' H' → (∀ z, o y = some z → ∀ v G2 H2, Grow G' H' G2 H2 → RB G2 v z → Qk v H2) → (o y = none → ∀ G2 H2, Grow G' H' G2 H2 → Nx H2) →
      g (.int (y : Int)) (wipe σ vs) H' fun σ2 H2 => wipe σ2 vs = wipe σ vs ∧ tt σ2 H2 fun b H3 => if b = true then te σ2 H3 Qk else Nx H3)
    (hd : ∀ D G' H', Grow G H G' H' → LS RB G' (.ref D) (l.filterMap o) → Q (.ref D) H') : LC (Itt K p) g tt te vs σ H Q := by
  intro D hD
  have gD0 : G D = none := sg.free hD
  refine lc_tup (K := K) (a := p) (xs := l.map iv) (fun i H' => ∃ G' us, Grow G H G' H' ∧ G' D = none ∧ H' D = some (.lst us) ∧ Paired (RB G') us ((l.take i).filterMap o) ∧ us.length ≤ i) ?_ ?_ ?_ ?_
  · exact ⟨G, [], (Grow.refl sg).open hD, gD0, upd_same, .nil, Nat.le_refl _⟩
  · rintro i H' hi ⟨G', us, gr, _⟩
    exact SqT.of (gr.gh _ _ (gr.gg _ _ hp))
  · rintro i x H' hx ⟨G', us, gr, gD, eD, pr, hul⟩
    rw [List.getElem?_map] at hx
    obtain ⟨y, hy, rfl⟩ := Option.map_eq_some_iff.mp hx
    have hym : y ∈ l := List.mem_of_getElem? hy
    have hil : i < l.length := (List.getElem?_eq_some_iff.mp hy).1
    have et : (l.take (i + 1)).filterMap o = (l.take i).filterMap o ++ (o y).toList := by
      rw [List.take_add_one, hy]
      cases e : o y <;> simp [e]
    refine he y G' H' _ _ hym gr (fun z hz v G2 H2 g2 hv => ?_) (fun hz G2 H2 g2 => ?_)
    · obtain ⟨k1, k2⟩ := g2.keep eD gD
      refine ⟨_, k1, szl (by omega), G2, us ++ [v], (gr.trans g2).set hD k2, k2, upd_same, ?_, by simp; omega⟩
      rw [et, hz]
      exact pr_app (pr_imp (fun _ _ q => mb _ _ _ _ g2.gg q) pr) (.cons hv .nil)
    · obtain ⟨k1, k2⟩ := g2.keep eD gD
      refine ⟨G2, us, gr.trans g2, k2, k1, ?_, by omega⟩
      rw [et, hz]
      simp only [Option.toList_none, List.append_nil]
      exact pr_imp (fun _ _ q => mb _ _ _ _ g2.gg q) pr
  · rintro H' ⟨G', us, gr, gD, eD, pr, hul⟩
    rw [List.length_map, List.take_of_length_le (Nat.le_refl _)] at pr
    exact hd D _ H' (gr.fin hD gD eD) ⟨D, us, rfl, upd_same, pr_imp (fun _ _ q => mb _ _ _ _ (Same.upd_none gD) q) pr⟩
private theorem bools_eq {G : Hp} : ∀ {vs : List V} {bs : List Bool}, Paired (BV G) vs bs → vs = bs.map V.bl
  | _, _, .nil => rfl
  | _, _, .cons a b => by rw [bools_eq b, List.map_cons, show _ = _ from a]
private theorem rd_any {K : PySem.W.Frag} {G H : Hp} {v : V} {bs : List Bool} {Q : VK} (s : Same G H) (h : LS BV G v bs) (q : Q (.bl (bs.any id)) H) : rAny K [v] H Q := by
  obtain ⟨a, vs, rfl, h1, h2⟩ := h
  rw [bools_eq h2] at h1
  exact ⟨a, bs, rfl, SqL.of (s _ _ h1), q⟩
noncomputable def keyOf (ns : List Nat) : List Key := ns.map fun (n : Nat) => Sum.inl (n : Int)
private theorem key_vals (ns : List Nat) : (keyOf ns).map kV = ns.map iv := by
  unfold keyOf
  rw [List.map_map]
  rfl
private theorem key_inj : ∀ {ns ms : List Nat}, keyOf ns = keyOf ms → ns = ms
  | [], [], _ => rfl
  | [], _ :: _, h => by cases h
  | _ :: _, [], h => by cases h
  | a :: r, b :: s, h => by
    unfold keyOf at h
    simp only [List.map_cons, List.cons.injEq, Sum.inl.injEq] at h
    rw [key_inj (ns := r) (ms := s) h.2, Int.ofNat.inj h.1]
private theorem keys_put {kvs : List (List Key × V)} {ks : List (List Nat)} {ns : List Nat} {v : V} (h : kvs.map (·.1) = ks.map keyOf) : ∃ ks' : List (List Nat), (putK kvs (keyOf ns) v).map (·.1) = ks'.map keyOf ∧ ∀ x, x ∈ ks' ↔ x ∈ ks ∨ x = ns := by
  by_cases hm : ns ∈ ks
  · refine ⟨ks, ?_, fun x => ⟨Or.inl, fun z => by rcases z with z | z; exact z; rw [z]; exact hm⟩⟩
    rw [← h]
    unfold putK
    split
    · rw [List.map_map]
      refine List.map_congr_left fun kv _ => ?_
      show (if kv.1 = keyOf ns then (kv.1, v) else kv).1 = kv.1
      split <;> rfl
    · rename_i hn
      have : keyOf ns ∈ kvs.map (·.1) := by
        rw [h]
        exact List.mem_map.mpr ⟨ns, hm, rfl⟩
      obtain ⟨kv, hkv, e⟩ := List.mem_map.mp this
      exact absurd (List.any_eq_true.mpr ⟨kv, hkv, decide_eq_true e⟩) hn
  · refine ⟨ks ++ [ns], ?_, fun x => by simp⟩
    unfold putK
    rw [if_neg]
    · rw [List.map_append, List.map_append, h]
      rfl
    · intro z
      obtain ⟨kv, hkv, e⟩ := List.any_eq_true.mp z
      have : keyOf ns ∈ kvs.map (·.1) := List.mem_map.mpr ⟨kv, hkv, of_decide_eq_true e⟩
      rw [h] at this
      obtain ⟨x, hx, e2⟩ := List.mem_map.mp this
      rw [key_inj e2] at hx
      exact hm hx
noncomputable def rTup (K : PySem.W.Frag) : List V → Hp → VK → Prop := fun xs H Q => ∃ p ys, xs = [.ref p] ∧ ((SqL K H p ys ∧ ∀ l, H l = none → Q (.ref l) (upd H l (.tup ys))) ∨ (SqT K H p ys ∧ Q (.ref p) H))
private theorem callTup {X : Cx} {K : PySem.W.Frag} (hK : X.K = K) : CallR X (.type "tuple") (rTup K) := by subst hK; exact call_tuple_of
private theorem rd_inT {K : PySem.W.Frag} {G H : Hp} {v : V} {p : Addr} {A : List (List Nat)} {Q : VK} (s : Same G H) (h : LS TI G v A) (hp : H p = some (.tup [])) (q : Q (.bl (decide ([] ∈ A))) H) : rInD K (.ref p) v H Q := by
  refine ⟨dTI [], A.map dTI, .tup (SqT.of hp) .nil, Dat.tup.list.dp s h, lay_all Dat.tup A, Dat.tup.lay [], by rw [show (dTI []).depth = 1 by decide]; decide, ?_⟩
  have e : (A.map dTI).any (fun z => PyData.eqv z (dTI [])) = decide ([] ∈ A) := by
    rw [List.any_map, Bool.eq_iff_iff]
    simp only [List.any_eq_true, Function.comp, eqv_TI, decide_eq_true_eq]
    exact ⟨fun ⟨x, hx, e⟩ => e ▸ hx, fun h => ⟨[], h, rfl⟩⟩
  rw [e]
  exact q
private theorem pr_mapR {α β γ : Type} {F : α → β → Prop} {F' : α → γ → Prop} (f : β → γ) (h : ∀ a b, F a b → F' a (f b)) : ∀ {xs : List α} {ys : List β}, Paired F xs ys → Paired F' xs (ys.map f)
  | _, _, .nil => .nil
  | _, _, .cons a b => .cons (h _ _ a) (pr_mapR f h b)
private theorem pr_unmap {α β γ : Type} {F : α → γ → Prop} {F' : α → β → Prop} (f : β → γ) (h : ∀ a b, F a (f b) → F' a b) : ∀ {xs : List α} {ys : List β}, Paired F xs (ys.map f) → Paired F' xs ys
  | [], [], _ => .nil
  | [], _ :: _, p => by cases p
  | _ :: _, [], p => by cases p
  | _ :: _, _ :: _, .cons a b => .cons (h _ _ a) (pr_unmap f h b)
end R
end
section
set_option maxRecDepth 100000
namespace R
open PySem PySem.Spec PyProof.Rows L2
noncomputable def top (i : Nat) : Stmt := PySem.Challenge.pw_boundagain_s07_why.main.body.getD i (.Pass ⟨0, 0, 0, 0⟩)
noncomputable abbrev s_number_text : Stmt := top 20
private theorem sc_number_text : FnScope ["number"] ["number"] (defScope s_number_text) := ⟨rfl, rfl, rfl, by decide +kernel, rfl, by decide +kernel, by decide +kernel⟩
noncomputable abbrev s_side_text : Stmt := top 21
private theorem sc_side_text : FnScope ["side"] ["side"] (defScope s_side_text) := ⟨rfl, rfl, rfl, by decide +kernel, rfl, by decide +kernel, by decide +kernel⟩
noncomputable abbrev s_split_at : Stmt := top 22
private theorem sc_split_at : FnScope ["text", "mark", "pieces", "piece", "byte"] ["text", "mark"] (defScope s_split_at) := ⟨rfl, rfl, rfl, by decide +kernel, rfl, by decide +kernel, by decide +kernel⟩
noncomputable abbrev s_read_number : Stmt := top 23
private theorem sc_read_number : FnScope ["most", "word", "number"] ["most", "word"] (defScope s_read_number) := ⟨rfl, rfl, rfl, by decide +kernel, rfl, by decide +kernel, by decide +kernel⟩
noncomputable abbrev s_read_side : Stmt := top 24
private theorem sc_read_side : FnScope ["n", "word", "side"] ["n", "word"] (defScope s_read_side) := ⟨rfl, rfl, rfl, by decide +kernel, rfl, by decide +kernel, by decide +kernel⟩
noncomputable abbrev s_is_rising : Stmt := top 25
private theorem sc_is_rising : FnScope ["numbers", "last", "number"] ["numbers"] (defScope s_is_rising) := ⟨rfl, rfl, rfl, by decide +kernel, rfl, by decide +kernel, by decide +kernel⟩
noncomputable abbrev s_read_sides_pair : Stmt := top 26
private theorem sc_read_sides_pair : FnScope ["n", "kind", "words", "sides"] ["n", "kind", "words"] (defScope s_read_sides_pair) := ⟨rfl, rfl, rfl, by decide +kernel, rfl, by decide +kernel, by decide +kernel⟩
noncomputable abbrev s_read_leaves_pair : Stmt := top 27
private theorem sc_read_leaves_pair : FnScope ["n", "kind", "words", "leaves"] ["n", "kind", "words"] (defScope s_read_leaves_pair) := ⟨rfl, rfl, rfl, by decide +kernel, rfl, by decide +kernel, by decide +kernel⟩
noncomputable abbrev s_read_three : Stmt := top 28
private theorem sc_read_three : FnScope ["n", "words", "kinds", "kind", "parts"] ["n", "words"] (defScope s_read_three) := ⟨rfl, rfl, rfl, by decide +kernel, rfl, by decide +kernel, by decide +kernel⟩
noncomputable abbrev s_read_plain : Stmt := top 29
private theorem sc_read_plain : FnScope ["n", "words", "leaves", "sides", "side", "word"] ["n", "words"] (defScope s_read_plain) := ⟨rfl, rfl, rfl, by decide +kernel, rfl, by decide +kernel, by decide +kernel⟩
noncomputable abbrev s_read_finding : Stmt := top 30
private theorem sc_read_finding : FnScope ["n", "line", "words", "plain", "told"] ["n", "line"] (defScope s_read_finding) := ⟨rfl, rfl, rfl, by decide +kernel, rfl, by decide +kernel, by decide +kernel⟩
noncomputable abbrev s_opposite : Stmt := top 31
private theorem sc_opposite : FnScope ["finding"] ["finding"] (defScope s_opposite) := ⟨rfl, rfl, rfl, by decide +kernel, rfl, by decide +kernel, by decide +kernel⟩
noncomputable abbrev s_read_findings : Stmt := top 32
private theorem sc_read_findings : FnScope ["t", "lines", "n", "findings", "line", "finding"] ["t"] (defScope s_read_findings) := ⟨rfl, rfl, rfl, by decide +kernel, rfl, by decide +kernel, by decide +kernel⟩
noncomputable abbrev s_sides_in_order : Stmt := top 33
private theorem sc_sides_in_order : FnScope ["book", "sides", "starts", "front", "sign", "back"] ["book"] (defScope s_sides_in_order) := ⟨rfl, rfl, rfl, by decide +kernel, rfl, by decide +kernel, by decide +kernel⟩
noncomputable abbrev s_partners_of_leaves : Stmt := top 34
private theorem sc_partners_of_leaves : FnScope ["book", "partners", "waiting", "starts", "front", "sign", "leaf", "partner"] ["book"] (defScope s_partners_of_leaves) := ⟨rfl, rfl, rfl, by decide +kernel, rfl, by decide +kernel, by decide +kernel⟩
noncomputable abbrev s_gatherings_of_leaves : Stmt := top 35
private theorem sc_gatherings_of_leaves : FnScope ["book", "gatherings", "number", "starts", "front", "sign"] ["book"] (defScope s_gatherings_of_leaves) := ⟨rfl, rfl, rfl, by decide +kernel, rfl, by decide +kernel, by decide +kernel⟩
noncomputable abbrev s_place_of : Stmt := top 36
private theorem sc_place_of : FnScope ["sides", "leaf"] ["sides", "leaf"] (defScope s_place_of) := ⟨rfl, rfl, rfl, by decide +kernel, rfl, by decide +kernel, by decide +kernel⟩
noncomputable abbrev s_are_facing : Stmt := top 37
private theorem sc_are_facing : FnScope ["sides", "one", "other", "places"] ["sides", "one", "other"] (defScope s_are_facing) := ⟨rfl, rfl, rfl, by decide +kernel, rfl, by decide +kernel, by decide +kernel⟩
noncomputable abbrev s_lie_in_a_row : Stmt := top 38
private theorem sc_lie_in_a_row : FnScope ["sides", "leaves", "places", "leaf"] ["sides", "leaves"] (defScope s_lie_in_a_row) := ⟨rfl, rfl, rfl, by decide +kernel, rfl, by decide +kernel, by decide +kernel⟩
noncomputable abbrev s_marks_meet : Stmt := top 39
private theorem sc_marks_meet : FnScope ["sides", "marked", "k"] ["sides", "marked"] (defScope s_marks_meet) := ⟨rfl, rfl, rfl, by decide +kernel, rfl, by decide +kernel, by decide +kernel⟩
noncomputable abbrev s_holds : Stmt := top 40
private theorem sc_holds : FnScope ["kind", "parts", "sides", "partners", "gatherings"] ["kind", "parts", "sides", "partners", "gatherings"] (defScope s_holds) := ⟨rfl, rfl, rfl, by decide +kernel, rfl, by decide +kernel, by decide +kernel⟩
noncomputable abbrev s_agrees : Stmt := top 41
private theorem sc_agrees : FnScope ["book", "findings", "sides", "partners", "gatherings", "plain", "kind", "parts"] ["book", "findings"] (defScope s_agrees) := ⟨rfl, rfl, rfl, by decide +kernel, rfl, by decide +kernel, by decide +kernel⟩
noncomputable abbrev s_free_fronts : Stmt := top 43
private theorem sc_free_fronts : FnScope ["n", "book", "used", "ordered", "starts", "front", "sign", "side"] ["n", "book"] (defScope s_free_fronts) := ⟨rfl, rfl, rfl, by decide +kernel, rfl, by decide +kernel, by decide +kernel⟩
noncomputable abbrev s_next_ways : Stmt := top 44
private theorem sc_next_ways : FnScope ["n", "book", "signs", "depth", "left", "opening", "alone", "closing", "ways", "starts", "front", "sign"] ["n", "book"] (defScope s_next_ways) := ⟨rfl, rfl, rfl, by decide +kernel, rfl, by decide +kernel, by decide +kernel⟩
noncomputable abbrev s_next_leaves : Stmt := top 45
private theorem sc_next_leaves : FnScope ["n", "book", "fronts", "leaves", "starts", "signs", "front", "sign"] ["n", "book"] (defScope s_next_leaves) := ⟨rfl, rfl, rfl, by decide +kernel, rfl, by decide +kernel, by decide +kernel⟩
noncomputable abbrev s_put_beginnings : Stmt := top 46
private theorem sc_put_beginnings : FnScope ["waiting", "book", "leaves", "leaf"] ["waiting", "book", "leaves"] (defScope s_put_beginnings) := ⟨rfl, rfl, rfl, by decide +kernel, rfl, by decide +kernel, by decide +kernel⟩
noncomputable abbrev s_take_agreeing : Stmt := top 47
private theorem sc_take_agreeing : FnScope ["n", "findings", "waiting", "book"] ["n", "findings", "waiting"] (defScope s_take_agreeing) := ⟨rfl, rfl, rfl, by decide +kernel, rfl, by decide +kernel, by decide +kernel⟩
noncomputable abbrev s_some_agrees : Stmt := top 48
private theorem sc_some_agrees : FnScope ["n", "findings"] ["n", "findings"] (defScope s_some_agrees) := ⟨rfl, rfl, rfl, by decide +kernel, rfl, by decide +kernel, by decide +kernel⟩
noncomputable abbrev s_speaking_against : Stmt := top 49
private theorem sc_speaking_against : FnScope ["book", "findings", "k"] ["book", "findings"] (defScope s_speaking_against) := ⟨rfl, rfl, rfl, by decide +kernel, rfl, by decide +kernel, by decide +kernel⟩
noncomputable abbrev s_all_against : Stmt := top 50
private theorem sc_all_against : FnScope ["n", "findings", "given", "against", "waiting", "book"] ["n", "findings", "given"] (defScope s_all_against) := ⟨rfl, rfl, rfl, by decide +kernel, rfl, by decide +kernel, by decide +kernel⟩
noncomputable abbrev s_rules_all_out : Stmt := top 51
private theorem sc_rules_all_out : FnScope ["row", "against", "numbers", "number"] ["row", "against"] (defScope s_rules_all_out) := ⟨rfl, rfl, rfl, by decide +kernel, rfl, by decide +kernel, by decide +kernel⟩
noncomputable abbrev s_longer_rows : Stmt := top 52
private theorem sc_longer_rows : FnScope ["most", "rows", "longer", "row", "last", "number"] ["most", "rows"] (defScope s_longer_rows) := ⟨rfl, rfl, rfl, by decide +kernel, rfl, by decide +kernel, by decide +kernel⟩
noncomputable abbrev s_fewest_against : Stmt := top 53
private theorem sc_fewest_against : FnScope ["most", "against", "rows", "row"] ["most", "against"] (defScope s_fewest_against) := ⟨rfl, rfl, rfl, by decide +kernel, rfl, by decide +kernel, by decide +kernel⟩
noncomputable abbrev s_told_row : Stmt := top 54
private theorem sc_told_row : FnScope ["row"] ["row"] (defScope s_told_row) := ⟨rfl, rfl, rfl, by decide +kernel, rfl, by decide +kernel, by decide +kernel⟩
noncomputable abbrev s_why : Stmt := top 55
private theorem sc_why : FnScope ["t", "f", "told", "finding", "against"] ["t", "f"] (defScope s_why) := ⟨rfl, rfl, rfl, by decide +kernel, rfl, by decide +kernel, by decide +kernel⟩
structure Txt (mg : Str → Option Value) : Prop where
  MOST_BYTES : ∃ t, mg "MOST_BYTES" = some (.int 8192 t)
  MOST_LEAVES : ∃ t, mg "MOST_LEAVES" = some (.int 16 t)
  MOST_FINDINGS : ∃ t, mg "MOST_FINDINGS" = some (.int 64 t)
  LINE_FEED : ∃ t, mg "LINE_FEED" = some (.int 10 t)
  BLANK : ∃ t, mg "BLANK" = some (.int 32 t)
  ZERO : ∃ t, mg "ZERO" = some (.int 48 t)
  SIDE_A : ∃ t, mg "SIDE_A" = some (.int 97 t)
  OPENS : ∃ t, mg "OPENS" = some (.int 40 t)
  CLOSES : ∃ t, mg "CLOSES" = some (.int 41 t)
  ALONE : ∃ t, mg "ALONE" = some (.int 124 t)
  NOT : ∃ t, mg "NOT" = some (.int 33 t)
  NEXT_SIDE : ∃ t, mg "NEXT_SIDE" = some (.int 62 t)
  FACING : ∃ t, mg "FACING" = some (.int 124 t)
  FRONT : ∃ t, mg "FRONT" = some (.int 94 t)
  PARTNERS : ∃ t, mg "PARTNERS" = some (.int 61 t)
  BEFORE : ∃ t, mg "BEFORE" = some (.int 60 t)
  TOGETHER : ∃ t, mg "TOGETHER" = some (.int 126 t)
  IN_A_ROW : ∃ t, mg "IN_A_ROW" = some (.int 111 t)
  MARKED : ∃ t, mg "MARKED" = some (.int 104 t)
  b_any : mg "any" = none
  b_len : mg "len" = none
  b_list : mg "list" = none
  b_max : mg "max" = none
  b_min : mg "min" = none
  b_range : mg "range" = none
  b_reversed : mg "reversed" = none
  b_sorted : mg "sorted" = none
  b_tuple : mg "tuple" = none
end R
end
section
def wordsOf1 : String := "L2.tSeq L2.tNext L2.tIfS L2.tRet L2.tAsg L2.gName L2.tDrop L2.tTest L2.tOp L2.tUn L2.tVar L2.tC L2.tCons L2.tNil L2.tLst L2.tTup L2.tBM L2.tBM0 L2.rEq L2.rNe L2.scal L2.tCall L2.tCB L2.rI0 L2.rI L2.rU L2.CDiv L2.CMul L2.tIf L2.tAnd L2.tOr L2.tIsN L2.tB L2.start List.map_cons List.map_nil List.length_cons List.length_nil List.replicate Nat.sub_self List.cons_append List.nil_append List.append_nil List.getElem?_cons_zero List.getElem?_cons_succ List.set_cons_zero List.set_cons_succ Option.some.injEq L2.V.int.injEq L2.V.ref.injEq L2.V.bl.injEq List.cons.injEq and_true true_and exists_eq_left exists_eq_left' exists_eq_right exists_eq_right' exists_and_left exists_const decide_eq_true_eq exists_and_right R.sz0 R.sz1 R.sz2 R.sz3 R.sz5 Int.reduceLT Int.reduceNeg Int.reducePow true_or or_true Bool.not_eq_true' decide_eq_false_iff_not L2.tSl L2.tPart L2.tNoPart L2.tYes L2.sDPut L2.tAndV L2.tOrV L2.wipe if_true if_false Bool.false_eq_true reduceIte eq_self and_self"
local macro_rules | `(tactic| walk_at "rd") => do
  let ids : Array (Lean.TSyntax `term) := ((wordsOf1).splitOn " ").toArray.map fun w => Lean.mkIdent w.toName
  `(tactic| simp only [$[$ids:term],*])
local macro_rules | `(tactic| walk_at "rdiv") => do
  let ids : Array (Lean.TSyntax `term) := ((wordsOf1 ++ " R.iv").splitOn " ").toArray.map fun w => Lean.mkIdent w.toName
  `(tactic| simp only [$[$ids:term],*])
set_option linter.all false
set_option Elab.async false
set_option maxRecDepth 100000
set_option maxHeartbeats 4000000
namespace R
open PySem PySem.Spec PyProof.Rows L2
section
variable {P : Program} {w : World} {K : PySem.W.Frag} {mg : Str → Option Value} {base : Heap}
noncomputable def sp_number_text : Sp := fun vs H Q _ => ∃ (G : Hp) (n : Nat), vs = [.int (n : Int)] ∧ Same G H ∧ Ret G H LI (M.numText n) Q
private theorem c_number_text (D : Def K mg "number_text" s_number_text ["number"]) (T : Txt mg) : Cal P w K mg base 1 "number_text" ["number"] sp_number_text := by
  refine D.cal sc_number_text (fun vs H Q E h => ?_) (fun f cdv A outer s H vs Q E hr h => ?_)
  · obtain ⟨G, n, rfl, _⟩ := h
    rfl
  · obtain ⟨G, n, rfl, sg, k⟩ := h
    refine ⟨_, (pss_cons (ps_if (pt_cmpR op_lt (pv 0) pe_int (nomark _)) (pss_one (ps_ret (pe_lst (pa_cons (pe_op op_add (pe_gint rfl T.ZERO) (pv 0)) pa_nil)))) pss_nil)
 (pss_one (ps_ret (pe_lst (pa_cons (pe_op op_add (pe_gint rfl T.ZERO) (pe_op op_fdiv (pv 0) pe_int)) (pa_cons (pe_op op_add (pe_gint rfl T.ZERO) (pe_op op_mod (pv 0) pe_int)) pa_nil)))))), ?_⟩
    walk_at "rd"
    refine ite2 (fun h p hp => ?_) (fun h p hp => ?_)
    · exact k.lst sg (by unfold M.numText; rw [if_pos (by omega)]; simp [iv]) hp
    · exact k.lst sg (by unfold M.numText; rw [if_neg (by omega)]; simp [iv]) hp
noncomputable def sp_side_text : Sp := fun vs H Q _ => ∃ (G : Hp) (n : Nat), vs = [.int (n : Int)] ∧ Same G H ∧ Ret G H LI (M.sideText n) Q
private theorem c_side_text (D : Def K mg "side_text" s_side_text ["side"]) (T : Txt mg) (c_number_text : Cal P w K mg base 1 "number_text" ["number"] sp_number_text) : Cal P w K mg base 2 "side_text" ["side"] sp_side_text := by
  refine D.cal sc_side_text (fun vs H Q E h => ?_) (fun f cdv A outer s H vs Q E hr h => ?_)
  · obtain ⟨G, n, rfl, _⟩ := h
    rfl
  · obtain ⟨G, n, rfl, sg, k⟩ := h
    refine ⟨_, (pss_one (ps_ret (pe_op op_cat (pcl c_number_text hr (by decide) (pa_cons (pe_op op_fdiv (pv 0) pe_int) pa_nil)) (pe_lst (pa_cons (pe_op op_add (pe_gint rfl T.SIDE_A) (pe_op op_mod (pv 0) pe_int)) pa_nil))))), ?_⟩
    walk_at "rd"
    refine ⟨G, n / 2, ?_, sg, fun r G1 H1 g1 r1 p hp => ?_⟩
    · simp
    obtain ⟨a, rfl, ha⟩ := r1.at
    have ha2 : H1 a = some (.lst ((M.numText (n / 2)).map iv)) := g1.gh _ _ ha
    refine ⟨a, p, (M.numText (n / 2)).map iv, _, rfl, rfl, by rw [upd_ne (ne_of_none ha2 hp)]; exact ha2, upd_same, ?_, fun q hq => ?_⟩
    · have : (M.numText (n / 2)).length ≤ 2 := by unfold M.numText; split <;> simp
      rw [List.length_map, sizeLine_eq]
      simp only [List.length_cons, List.length_nil]
      omega
    · refine Ret.lst (G := upd G1 p (.lst [V.int (97 + (n : Int) % 2)])) (k.then (g1.made hp)) (g1.made hp).gh ?_ hq
      unfold M.sideText
      rw [List.map_append]
      simp [iv]
end
end R
set_option linter.all false
set_option Elab.async false
set_option maxRecDepth 100000
set_option maxHeartbeats 4000000
namespace R
open PySem PySem.Spec PyProof.Rows L2
section
variable {P : Program} {w : World} {K : PySem.W.Frag} {mg : Str → Option Value} {base : Heap}
noncomputable def sp_split_at (K : PySem.W.Frag) : Sp := fun vs H Q _ => ∃ (G : Hp) (v : V) (ns : List Nat) (m : Nat), vs = [v, .int (m : Int)] ∧ Same G H ∧ TX K G v ns ∧ ns.length ≤ 20000 ∧ Ret G H LL (M.spl m ns) Q
noncomputable def I_split_at (G H : Hp) (a p : Addr) (m : Nat) (ns : List Nat) (i : Nat) (σ : L2.St) (H' : Hp) : Prop :=
  ∃ (G' : Hp) (done : List (List Nat)) (cur : List Nat) (pvs : List V) (q : Addr) (v : Option V), σ = [some (.ref a), some (.int (m : Int)), some (.ref p), some (.ref q), v] ∧
        Grow G H G' H' ∧ G' p = none ∧ G' q = none ∧ H q = none ∧ p ≠ q ∧ H' p = some (.lst pvs) ∧ H' q = some (.lst (cur.map iv)) ∧ Paired (LI G') pvs done ∧ done.length ≤ i ∧ cur.length ≤ i ∧
        M.spl m ns = done ++ M.glue cur (M.spl m (ns.drop i))
private theorem c_split_at (D : Def K mg "split_at" s_split_at ["text", "mark"]) (T : Txt mg) : Cal P w K mg base 1 "split_at" ["text", "mark"] (sp_split_at K) := by
  refine D.cal sc_split_at (fun vs H Q E h => ?_) (fun f cdv A outer s H vs Q E hr h => ?_)
  · obtain ⟨G, v, ns, m, rfl, _⟩ := h
    rfl
  · obtain ⟨G, v, ns, m, rfl, sg, tx, hlen, k⟩ := h
    obtain ⟨a, rfl, ta⟩ := tx
    refine ⟨_, (pss_cons (ps_set (i := 2) sc_split_at.nd rfl (by first | exact Or.inl rfl | exact Or.inr rfl) (pe_lst pa_nil))
 (pss_cons (ps_set (i := 3) sc_split_at.nd rfl (by first | exact Or.inl rfl | exact Or.inr rfl) (pe_lst pa_nil))
 (pss_cons (ps_for PassesOwn.never rfl (pi_list (pv 0)) (pg_name (i := 4) sc_split_at.nd rfl (by first | exact Or.inl rfl | exact Or.inr rfl))
 (pss_one (ps_if (pt_cmpR op_eq (pv 4) (pv 1) (nomark _)) (pss_cons (ps_expr (pe_bm PySem.F.plainAttrs_list PySem.F.slot_list_append PySem.F.type_list_append mt_append (pv 2) (pa_cons (pv 3) pa_nil)))
 (pss_one (ps_set (i := 3) sc_split_at.nd rfl (by first | exact Or.inl rfl | exact Or.inr rfl) (pe_lst pa_nil)))) (pss_one (ps_expr (pe_bm PySem.F.plainAttrs_list PySem.F.slot_list_append PySem.F.type_list_append mt_append (pv 3) (pa_cons (pv 4) pa_nil)))))))
 (pss_cons (ps_expr (pe_bm PySem.F.plainAttrs_list PySem.F.slot_list_append PySem.F.type_list_append mt_append (pv 2) (pa_cons (pv 3) pa_nil)))
 (pss_one (ps_ret (pv 2))))))), ?_⟩
    walk_at "rd"
    intro p hp q hq
    have hpq : p ≠ q := ne_of_none (upd_same (H := H) (a := p) (o := .lst [])) hq
    have hq0 : H q = none := by rw [upd_ne hpq.symm] at hq; exact hq
    have gp0 : G p = none := sg.free hp
    have gq0 : G q = none := sg.free hq0
    refine ⟨_, rfl, a, rfl, ⟨_, (((Grow.refl sg).open hp).open hq).gh.seq ta⟩, for_list (K := K) (a := a) (xs := ns.map iv)
      (I_split_at G H a p m ns)
      ?start ?stays ?turn ?after⟩
    case start =>
      exact ⟨G, [], [], [], q, none, rfl, ((Grow.refl sg).open hp).open hq, gp0, gq0, hq0, hpq, by rw [upd_ne hpq, upd_same], upd_same, .nil, Nat.le_refl _, Nat.le_refl _, by rw [M.glue_nil]; rfl⟩
    case stays =>
      rintro i σ H' hi ⟨G', done, cur, pvs, q, v, _, g, _⟩
      exact g.gh.seq (g.gg.seq ta)
    case turn =>
      rintro i x σ H' hx ⟨G', done, cur, pvs, q, v, rfl, g, gp, gq, hq0, hpq, ep, eq, pr, l1, l2, e⟩
      obtain ⟨c, hc, rfl⟩ := map_at hx
      have hil : i < ns.length := (List.getElem?_eq_some_iff.mp hc).1
      have lp := pr.length
      walk_at "rdiv"
      refine ite2 (fun h => ?_) (fun h => ?_)
      · have h' : c = m := by omega
        subst h'
        refine rd_append ep (by omega) ?_
        intro q' hq'
        have g1 := (g.fin hq0 gq eq).set (o := .lst (pvs ++ [V.ref q])) hp (by rw [upd_ne hpq]; exact gp)
        have hpq' : p ≠ q' := ne_of_none upd_same hq'
        have hqq' : q ≠ q' := ne_of_none (by rw [upd_ne hpq.symm]; exact eq) hq'
        have hq0' : H q' = none := g1.hh.free hq'
        refine ⟨upd G' q (.lst (cur.map iv)), done ++ [cur], [], pvs ++ [V.ref q], q', _, rfl, g1.open hq', by rw [upd_ne hpq]; exact gp, g1.gh.free hq', hq0', hpq', by rw [upd_ne hpq', upd_same], upd_same, ?_, by simp; omega, by simp, M.spl_hit hc e⟩
        exact pr_app (pr_imp (fun _ _ z => LI.mono _ _ _ _ (Same.upd_none gq) z) pr) (.cons (LI.of upd_same) .nil)
      · refine rd_append eq (by rw [List.length_map]; omega) ?_
        refine ⟨G', done, cur ++ [c], pvs, q, _, rfl, g.set hq0 gq, gp, gq, hq0, hpq, by rw [upd_ne hpq]; exact ep, by rw [upd_same]; simp [iv], pr, by omega, by simp; omega, M.spl_miss hc (by omega) e⟩
    case after =>
      rintro σ H' ⟨G', done, cur, pvs, q, v, rfl, g, gp, gq, hq0, hpq, ep, eq, pr, l1, l2, e⟩
      have lp := pr.length
      rw [List.length_map] at l1 l2 e
      walk_at "rd"
      refine rd_append ep (by omega) ?_
      have g1 := (g.fin hq0 gq eq).set (o := .lst (pvs ++ [V.ref q])) hp (by rw [upd_ne hpq]; exact gp)
      have e2 := M.spl_end (Nat.le_refl _) e
      refine k _ _ _ (g1.fin hp (by rw [upd_ne hpq]; exact gp) upd_same) ⟨p, pvs ++ [V.ref q], rfl, upd_same, ?_⟩
      rw [e2]
      have s1 : Same G' (upd (upd G' q (.lst (cur.map iv))) p (.lst (pvs ++ [V.ref q]))) := (Same.upd_none gq).trans (Same.upd_none (by rw [upd_ne hpq]; exact gp))
      refine pr_app (pr_imp (fun _ _ z => LI.mono _ _ _ _ s1 z) pr) (.cons (LI.of ?_) .nil)
      rw [upd_ne hpq.symm, upd_same]
end
end R
set_option linter.all false
set_option Elab.async false
set_option maxRecDepth 100000
set_option maxHeartbeats 4000000
namespace R
open PySem PySem.Spec PyProof.Rows L2
section
variable {P : Program} {w : World} {K : PySem.W.Frag} {mg : Str → Option Value} {base : Heap}
noncomputable def sp_read_number : Sp := fun vs H Q _ => ∃ (G : Hp) (most : Nat) (v : V) (w : List Nat), vs = [.int (most : Int), v] ∧ Same G H ∧ LI G v w ∧ most ≤ 16 ∧ Ret G H NV (M.readNumber most w) Q
noncomputable def I_read_number (G H : Hp) (v : V) (most : Nat) (w : List Nat) (i : Nat) (σ : L2.St) (H' : Hp) : Prop :=
  ∃ (G' : Hp) (x : Option V), σ = [some (.int (most : Int)), some v, x] ∧ Grow G H G' H' ∧ ∀ j, j < i → ¬ w = M.numText (j + 1)
private theorem c_read_number (D : Def K mg "read_number" s_read_number ["most", "word"]) (T : Txt mg) (c_number_text : Cal P w K mg base 1 "number_text" ["number"] sp_number_text) :
    Cal P w K mg base 2 "read_number" ["most", "word"] sp_read_number := by
  refine D.cal sc_read_number (fun vs H Q E h => ?_) (fun f cdv A outer s H vs Q E hr h => ?_)
  · obtain ⟨G, most, v, w, rfl, _⟩ := h
    rfl
  · obtain ⟨G, most, v, ws, rfl, sg, hv, hm, k⟩ := h
    refine ⟨_, (pss_cons (ps_for PassesOwn.never rfl (pi_range2 rfl T.b_range (pa_cons pe_int (pa_cons (pe_op op_add (pv 0) pe_int) pa_nil))) (pg_name (i := 2) sc_read_number.nd rfl (by first | exact Or.inl rfl | exact Or.inr rfl))
 (pss_one (ps_if (pt_cmpR (opEqD (K := K) rfl hr.units) (pv 1) (pcl c_number_text hr (by decide) (pa_cons (pv 2) pa_nil)) (nomark _)) (pss_one (ps_ret (pv 2))) pss_nil)))
 (pss_one (ps_ret pe_int))), ?_⟩
    walk_at "rd"
    refine ⟨_, rfl, _, _, rfl, rfl, 1, (most : Int) + 1, rfl, ⟨by omega, by omega, by omega, by omega⟩, for_range (n := ((most : Int) + 1 - 1).toNat) (I_read_number G H v most ws) ?start ?turn ?after⟩
    case start => exact ⟨G, none, rfl, Grow.refl sg, fun j hj => absurd hj (Nat.not_lt_zero _)⟩
    case turn =>
      rintro i σ H' hi ⟨G', x, rfl, g, hn⟩
      walk_at "rd"
      refine ⟨G', i + 1, by congr 2; omega, g.gh, fun r G1 H1 g1 r1 => ?_⟩
      refine rd_eqI g1.gh (LI.mono _ _ _ _ (g.gg.trans g1.gg) hv) r1 ?_
      walk_at "rd"
      refine ite2 (fun h => ?_) (fun h => ?_)
      · refine k _ _ _ (g.trans g1) ?_
        rw [M.readNumber_hit (by omega) hn h]
        show V.int _ = V.int _
        congr 1
        omega
      · refine ⟨G1, _, rfl, g.trans g1, fun j hj => ?_⟩
        by_cases e : j = i
        · subst e; exact h
        · exact hn j (by omega)
    case after =>
      rintro σ H' ⟨G', x, rfl, g, hn⟩
      walk_at "rd"
      refine k _ _ _ g ?_
      rw [M.readNumber_no fun j hj => hn j (by omega)]
      rfl
noncomputable def sp_read_side : Sp := fun vs H Q _ => ∃ (G : Hp) (n : Nat) (v : V) (w : List Nat), vs = [.int (n : Int), v] ∧ Same G H ∧ LI G v w ∧ n ≤ 16 ∧ Ret G H NV (M.readSide n w) Q
noncomputable def I_read_side (G H : Hp) (v : V) (n : Nat) (w : List Nat) (i : Nat) (σ : L2.St) (H' : Hp) : Prop :=
  ∃ (G' : Hp) (x : Option V), σ = [some (.int (n : Int)), some v, x] ∧ Grow G H G' H' ∧ ∀ j, j < i → ¬ w = M.sideText (j + 2)
private theorem c_read_side (D : Def K mg "read_side" s_read_side ["n", "word"]) (T : Txt mg) (c_side_text : Cal P w K mg base 2 "side_text" ["side"] sp_side_text) :
    Cal P w K mg base 3 "read_side" ["n", "word"] sp_read_side := by
  refine D.cal sc_read_side (fun vs H Q E h => ?_) (fun f cdv A outer s H vs Q E hr h => ?_)
  · obtain ⟨G, most, v, w, rfl, _⟩ := h
    rfl
  · obtain ⟨G, n, v, ws, rfl, sg, hv, hm, k⟩ := h
    refine ⟨_, (pss_cons (ps_for PassesOwn.never rfl (pi_range2 rfl T.b_range (pa_cons pe_int (pa_cons (pe_op op_add (pe_op op_mul pe_int (pv 0)) pe_int) pa_nil))) (pg_name (i := 2) sc_read_side.nd rfl (by first | exact Or.inl rfl | exact Or.inr rfl))
 (pss_one (ps_if (pt_cmpR (opEqD (K := K) rfl hr.units) (pv 1) (pcl c_side_text hr (by decide) (pa_cons (pv 2) pa_nil)) (nomark _)) (pss_one (ps_ret (pv 2))) pss_nil)))
 (pss_one (ps_ret pe_int))), ?_⟩
    walk_at "rd"
    refine ⟨_, rfl, _, _, rfl, rfl, .inl ⟨by decide, by decide⟩, _, _, rfl, rfl, 2, 2 * (n : Int) + 2, rfl, ⟨by omega, by omega, by omega, by omega⟩, for_range (n := (2 * (n : Int) + 2 - 2).toNat) (I_read_side G H v n ws) ?start ?turn ?after⟩
    case start => exact ⟨G, none, rfl, Grow.refl sg, fun j hj => absurd hj (Nat.not_lt_zero _)⟩
    case turn =>
      rintro i σ H' hi ⟨G', x, rfl, g, hn⟩
      walk_at "rd"
      refine ⟨G', i + 2, by congr 2; omega, g.gh, fun r G1 H1 g1 r1 => ?_⟩
      refine rd_eqI g1.gh (LI.mono _ _ _ _ (g.gg.trans g1.gg) hv) r1 ?_
      walk_at "rd"
      refine ite2 (fun h => ?_) (fun h => ?_)
      · refine k _ _ _ (g.trans g1) ?_
        rw [M.readSide_hit (by omega) hn h]
        show V.int _ = V.int _
        congr 1
        omega
      · refine ⟨G1, _, rfl, g.trans g1, fun j hj => ?_⟩
        by_cases e : j = i
        · subst e; exact h
        · exact hn j (by omega)
    case after =>
      rintro σ H' ⟨G', x, rfl, g, hn⟩
      walk_at "rd"
      refine k _ _ _ g ?_
      rw [M.readSide_no fun j hj => hn j (by omega)]
      rfl
noncomputable def sp_is_rising : Sp := fun vs H Q _ => ∃ (G : Hp) (v : V) (ns : List Nat), vs = [v] ∧ Same G H ∧ LI G v ns ∧ Ret G H BV (M.rising 0 ns) Q
noncomputable def I_is_rising (G H : Hp) (v : V) (ns : List Nat) (i : Nat) (σ : L2.St) (H' : Hp) : Prop :=
  ∃ (last : Nat) (x : Option V), σ = [some v, some (.int (last : Int)), x] ∧ H' = H ∧ M.rising 0 ns = M.rising last (ns.drop i)
private theorem c_is_rising (D : Def K mg "is_rising" s_is_rising ["numbers"]) (T : Txt mg) : Cal P w K mg base 1 "is_rising" ["numbers"] sp_is_rising := by
  refine D.cal sc_is_rising (fun vs H Q E h => ?_) (fun f cdv A outer s H vs Q E hr h => ?_)
  · obtain ⟨G, v, ns, rfl, _⟩ := h
    rfl
  · obtain ⟨G, v, ns, rfl, sg, hv, k⟩ := h
    obtain ⟨a, rfl, ha⟩ := hv.at
    refine ⟨_, (pss_cons (ps_set (i := 1) sc_is_rising.nd rfl (by first | exact Or.inl rfl | exact Or.inr rfl) pe_int)
 (pss_cons (ps_for PassesOwn.never rfl (pi_list (pv 0)) (pg_name (i := 2) sc_is_rising.nd rfl (by first | exact Or.inl rfl | exact Or.inr rfl))
 (pss_cons (ps_if (pt_cmpR op_le (pv 2) (pv 1) (nomark _)) (pss_one (ps_ret pe_bl)) pss_nil)
 (pss_one (ps_set (i := 1) sc_is_rising.nd rfl (by first | exact Or.inl rfl | exact Or.inr rfl) (pv 2)))))
 (pss_one (ps_ret pe_bl)))), ?_⟩
    walk_at "rd"
    refine ⟨_, rfl, a, rfl, ⟨_, SqL.of (sg _ _ ha)⟩, for_list (K := K) (a := a) (xs := ns.map iv) (I_is_rising G H (.ref a) ns) ?start ?stays ?turn ?after⟩
    case start => exact ⟨0, none, rfl, rfl, rfl⟩
    case stays =>
      rintro i σ H' hi ⟨last, x, _, rfl, _⟩
      exact SqL.of (sg _ _ ha)
    case turn =>
      rintro i y σ H' hy ⟨last, x, rfl, rfl, e⟩
      obtain ⟨c, hc, rfl⟩ := map_at hy
      walk_at "rdiv"
      refine ite2 (fun h => ?_) (fun h => ?_)
      · refine k _ _ _ (Grow.refl sg) ?_
        rw [e, M.rising_stop hc (by omega)]
        rfl
      · refine ⟨c, _, rfl, rfl, ?_⟩
        rw [e, M.rising_step hc (by omega)]
    case after =>
      rintro σ H' ⟨last, x, rfl, rfl, e⟩
      walk_at "rd"
      refine k _ _ _ (Grow.refl sg) ?_
      rw [e, List.length_map, List.drop_of_length_le (Nat.le_refl _)]
      rfl
end
end R
set_option linter.all false
set_option Elab.async false
set_option maxRecDepth 100000
set_option maxHeartbeats 4000000
namespace R
open PySem PySem.Spec PyProof.Rows L2
section
variable {P : Program} {w : World} {K : PySem.W.Frag} {mg : Str → Option Value} {base : Heap}
noncomputable def sp_read_sides_pair : Sp := fun vs H Q _ => ∃ (G : Hp) (n k : Nat) (v : V) (a b c : List Nat), vs = [.int (n : Int), .int (k : Int), v] ∧ Same G H ∧ LL G v [a, b, c] ∧ n ≤ 16 ∧ Ret G H LI (M.sidesPair n k a c) Q
private theorem c_read_sides_pair (D : Def K mg "read_sides_pair" s_read_sides_pair ["n", "kind", "words"]) (T : Txt mg) (c_read_side : Cal P w K mg base 3 "read_side" ["n", "word"] sp_read_side) :
    Cal P w K mg base 4 "read_sides_pair" ["n", "kind", "words"] sp_read_sides_pair := by
  refine D.cal sc_read_sides_pair (fun vs H Q E h => ?_) (fun f cdv A outer s H vs Q E hr h => ?_)
  · obtain ⟨G, n, k, v, a, b, c, rfl, _⟩ := h
    rfl
  · obtain ⟨G, n, kd, v, a, b, c, rfl, sg, hv, hn, k⟩ := h
    refine ⟨_, (pss_cons (ps_set (i := 3) sc_read_sides_pair.nd rfl (by first | exact Or.inl rfl | exact Or.inr rfl) (pe_lst (pa_cons (pcl c_read_side hr (by decide) (pa_cons (pv 0) (pa_cons (pe_ix (ixL (K := K) rfl) (pv 2) pe_int (fun _ _ => rfl)) pa_nil))) (pa_cons (pcl c_read_side hr (by decide) (pa_cons (pv 0) (pa_cons (pe_ix (ixL (K := K) rfl) (pv 2) pe_int (fun _ _ => rfl)) pa_nil))) pa_nil))))
 (pss_cons (ps_if (PW.pt (pw_or (pt_cmpR (opIn (K := K) rfl) pe_int (pv 3) (by with_unfolding_all rfl)) (pw_or1 (pt_cmpR op_eq (pe_ix (ixL (K := K) rfl) (pv 3) pe_int (fun _ _ => rfl)) (pe_ix (ixL (K := K) rfl) (pv 3) pe_int (fun _ _ => rfl)) (nomark _))))) (pss_one (ps_ret (pe_lst pa_nil))) pss_nil)
 (pss_cons (ps_if (PW.pt (pw_and (pt_cmpR op_eq (pv 1) (pe_gint rfl T.FACING) (nomark _)) (pw_and1 (pt_cmpR op_eq (pe_op op_fdiv (pe_ix (ixL (K := K) rfl) (pv 3) pe_int (fun _ _ => rfl)) pe_int) (pe_op op_fdiv (pe_ix (ixL (K := K) rfl) (pv 3) pe_int (fun _ _ => rfl)) pe_int) (nomark _))))) (pss_one (ps_ret (pe_lst pa_nil))) pss_nil)
 (pss_one (ps_ret (pv 3)))))), ?_⟩
    walk_at "rd"
    refine rd_ix (i := 0) sg hv rfl fun v0 h0 => ⟨G, n, v0, a, rfl, sg, h0, hn, fun r G1 H1 g1 r1 => ?_⟩
    refine rd_ix (i := 2) g1.gh (LL.mono _ _ _ _ g1.gg hv) rfl fun v2 h2 => ⟨G1, n, v2, c, rfl, g1.gh, h2, hn, fun r' G2 H2 g2 r2 => ?_⟩
    cases r1
    cases r2
    intro p hp
    have g := (g1.trans g2).made (o := .lst [V.int (M.readSide n a : Int), V.int (M.readSide n c : Int)]) hp
    have hs : LI (upd G2 p (.lst [V.int (M.readSide n a : Int), V.int (M.readSide n c : Int)])) (.ref p) [M.readSide n a, M.readSide n c] := LI.of upd_same
    have no : ∀ {p' : Addr} {H' : Hp} {G' : Hp}, Grow G H G' H' → H' p' = none → M.sidesPair n kd a c = [] → Q (.ref p') (upd H' p' (.lst [])) := fun g' hp' e => Ret.lst (k.then g') g'.gh (by rw [e]; rfl) hp'
    refine rd_in (x := 0) g.gh hs ?_
    walk_at "rd"
    refine ite2 (fun h p' hp' => no g hp' ?_) (fun h => ?_)
    · unfold M.sidesPair
      simp only [List.mem_cons, List.not_mem_nil, or_false] at h
      rw [if_pos]
      omega
    refine rd_ix (i := 0) g.gh hs rfl fun w0 e0 => rd_ix (i := 1) g.gh hs rfl fun w1 e1 => ?_
    cases e0
    cases e1
    walk_at "rd"
    simp only [List.mem_cons, List.not_mem_nil, or_false] at h
    refine ite2 (fun h' p' hp' => no g hp' ?_) (fun h' => ?_)
    · unfold M.sidesPair
      rw [if_pos]
      omega
    refine ite2 (fun h2 => ?_) (fun h2 => ?_)
    · refine rd_ix (i := 0) g.gh hs rfl fun w0 e0 => ?_
      cases e0
      walk_at "rd"
      refine rd_ix (i := 1) g.gh hs rfl fun w1 e1 => ?_
      cases e1
      walk_at "rd"
      refine ite2 (fun h3 p' hp' => no g hp' ?_) (fun h3 => ?_)
      · unfold M.sidesPair
        rw [if_neg (by omega), if_pos]
        exact ⟨by omega, by omega⟩
      · refine k _ _ _ g ?_
        unfold M.sidesPair
        simp only
        rw [if_neg (by omega), if_neg (by omega)]
        exact hs
    · refine k _ _ _ g ?_
      unfold M.sidesPair
      simp only
      rw [if_neg (by omega), if_neg (by omega)]
      exact hs
end
end R
set_option linter.all false
set_option Elab.async false
set_option maxRecDepth 100000
set_option maxHeartbeats 4000000
namespace R
open PySem PySem.Spec PyProof.Rows L2
section
variable {P : Program} {w : World} {K : PySem.W.Frag} {mg : Str → Option Value} {base : Heap}
noncomputable def sp_read_leaves_pair : Sp := fun vs H Q _ => ∃ (G : Hp) (n k : Nat) (v : V) (a b c : List Nat), vs = [.int (n : Int), .int (k : Int), v] ∧ Same G H ∧ LL G v [a, b, c] ∧ n ≤ 16 ∧ Ret G H LI (M.leavesPair n k a c) Q
private theorem c_read_leaves_pair (D : Def K mg "read_leaves_pair" s_read_leaves_pair ["n", "kind", "words"]) (T : Txt mg) (c_read_number : Cal P w K mg base 2 "read_number" ["most", "word"] sp_read_number) :
    Cal P w K mg base 4 "read_leaves_pair" ["n", "kind", "words"] sp_read_leaves_pair := by
  refine D.cal sc_read_leaves_pair (fun vs H Q E h => ?_) (fun f cdv A outer s H vs Q E hr h => ?_)
  · obtain ⟨G, n, k, v, a, b, c, rfl, _⟩ := h
    rfl
  · obtain ⟨G, n, kd, v, a, b, c, rfl, sg, hv, hn, k⟩ := h
    refine ⟨_, (pss_cons (ps_set (i := 3) sc_read_leaves_pair.nd rfl (by first | exact Or.inl rfl | exact Or.inr rfl) (pe_lst (pa_cons (pcl c_read_number hr (by decide) (pa_cons (pv 0) (pa_cons (pe_ix (ixL (K := K) rfl) (pv 2) pe_int (fun _ _ => rfl)) pa_nil))) (pa_cons (pcl c_read_number hr (by decide) (pa_cons (pv 0) (pa_cons (pe_ix (ixL (K := K) rfl) (pv 2) pe_int (fun _ _ => rfl)) pa_nil))) pa_nil))))
 (pss_cons (ps_if (PW.pt (pw_or (pt_cmpR op_eq (pe_ix (ixL (K := K) rfl) (pv 3) pe_int (fun _ _ => rfl)) pe_int (nomark _)) (pw_or1 (pt_cmpR op_eq (pe_ix (ixL (K := K) rfl) (pv 3) pe_int (fun _ _ => rfl)) (pe_ix (ixL (K := K) rfl) (pv 3) pe_int (fun _ _ => rfl)) (nomark _))))) (pss_one (ps_ret (pe_lst pa_nil))) pss_nil)
 (pss_cons (ps_if (PW.pt (pw_and (pt_cmpR op_eq (pe_ix (ixL (K := K) rfl) (pv 3) pe_int (fun _ _ => rfl)) pe_int (nomark _)) (pw_and1 (PW.pt (pw_or (pt_cmpR op_ne (pv 1) (pe_gint rfl T.PARTNERS) (nomark _)) (pw_or1 (pt_cmpR (opNeD (K := K) rfl hr.units) (pe_ix (ixL (K := K) rfl) (pv 2) pe_int (fun _ _ => rfl)) (pe_lst (pa_cons (pe_gint rfl T.ZERO) pa_nil)) (nomark _)))))))) (pss_one (ps_ret (pe_lst pa_nil))) pss_nil)
 (pss_one (ps_ret (pv 3)))))), ?_⟩
    walk_at "rd"
    refine rd_ix (i := 0) sg hv rfl fun v0 h0 => ⟨G, n, v0, a, rfl, sg, h0, hn, fun r G1 H1 g1 r1 => ?_⟩
    refine rd_ix (i := 2) g1.gh (LL.mono _ _ _ _ g1.gg hv) rfl fun v2 h2 => ⟨G1, n, v2, c, rfl, g1.gh, h2, hn, fun r' G2 H2 g2 r2 => ?_⟩
    cases r1
    cases r2
    intro p hp
    have g := (g1.trans g2).made (o := .lst [V.int (M.readNumber n a : Int), V.int (M.readNumber n c : Int)]) hp
    have hs : LI (upd G2 p (.lst [V.int (M.readNumber n a : Int), V.int (M.readNumber n c : Int)])) (.ref p) [M.readNumber n a, M.readNumber n c] := LI.of upd_same
    have no : ∀ {p' : Addr} {H' : Hp} {G' : Hp}, Grow G H G' H' → H' p' = none → M.leavesPair n kd a c = [] → Q (.ref p') (upd H' p' (.lst [])) := fun g' hp' e => Ret.lst (k.then g') g'.gh (by rw [e]; rfl) hp'
    have yes : ∀ {G' H' : Hp}, Grow G H G' H' → Same (upd G2 p (.lst [V.int (M.readNumber n a : Int), V.int (M.readNumber n c : Int)])) G' → M.leavesPair n kd a c = [M.readNumber n a, M.readNumber n c] → Q (.ref p) H' := fun g' s' e => k _ _ _ g' (by rw [e]; exact LI.mono _ _ _ _ s' hs)
    refine rd_ix (i := 0) g.gh hs rfl fun w0 e0 => ?_
    cases e0
    walk_at "rd"
    refine ite2 (fun h p' hp' => no g hp' ?_) (fun h => ?_)
    · unfold M.leavesPair
      rw [if_pos]
      omega
    refine rd_ix (i := 0) g.gh hs rfl fun w0 e0 => rd_ix (i := 1) g.gh hs rfl fun w1 e1 => ?_
    cases e0
    cases e1
    walk_at "rd"
    refine ite2 (fun h' p' hp' => no g hp' ?_) (fun h' => ?_)
    · unfold M.leavesPair
      rw [if_pos]
      omega
    refine rd_ix (i := 1) g.gh hs rfl fun w1 e1 => ?_
    cases e1
    walk_at "rd"
    refine ite2 (fun h2 => ?_) (fun h2 => ?_)
    · refine ite2 (fun h3 p' hp' => no g hp' ?_) (fun h3 => ?_)
      · unfold M.leavesPair
        simp only
        rw [if_neg (by omega), if_pos]
        exact ⟨by omega, Or.inl (by omega)⟩
      · refine rd_ix (i := 2) g.gh (LL.mono _ _ _ _ g.gg hv) rfl fun v2 h2' p' hp' => ?_
        have g' := g.made (o := .lst [V.int 48]) hp'
        have s' : Same (upd G2 p (.lst [V.int (M.readNumber n a : Int), V.int (M.readNumber n c : Int)])) (upd (upd G2 p (.lst [V.int (M.readNumber n a : Int), V.int (M.readNumber n c : Int)])) p' (.lst [V.int 48])) := Same.upd_none (g.gh.free hp')
        refine rd_neI (ms := [48]) g'.gh (LI.mono _ _ _ _ s' h2') (LI.of upd_same) ?_
        walk_at "rd"
        refine ite2 (fun h4 p'' hp'' => no g' hp'' ?_) (fun h4 => yes g' s' ?_)
        · unfold M.leavesPair
          simp only
          rw [if_neg (by omega), if_pos]
          exact ⟨by omega, Or.inr h4⟩
        · unfold M.leavesPair
          simp only
          rw [if_neg (by omega), if_neg]
          rintro ⟨_, z | z⟩
          · omega
          · exact h4 z
    · refine yes g (Same.refl _) ?_
      unfold M.leavesPair
      simp only
      rw [if_neg (by omega), if_neg (by omega)]
end
end R
set_option linter.all false
set_option Elab.async false
set_option maxRecDepth 100000
set_option maxHeartbeats 4000000
namespace R
open PySem PySem.Spec PyProof.Rows L2
section
variable {P : Program} {w : World} {K : PySem.W.Frag} {mg : Str → Option Value} {base : Heap}
noncomputable def sp_read_three : Sp := fun vs H Q _ => ∃ (G : Hp) (n : Nat) (v : V) (a b c : List Nat), vs = [.int (n : Int), v] ∧ Same G H ∧ LL G v [a, b, c] ∧ n ≤ 16 ∧ Ret G H (OP KP) (M.readThree n a b c) Q
noncomputable def fiveK : List Nat := [62, 124, 61, 60, 126]
noncomputable def I_read_three (G H : Hp) (D : Addr) (b : List Nat) (i : Nat) (H' : Hp) : Prop :=
  ∃ (G' : Hp), Grow G H G' H' ∧ G' D = none ∧ H' D = some (.lst (((fiveK.take i).filter fun k => decide (b = [k])).map iv))
private theorem c_read_three (D : Def K mg "read_three" s_read_three ["n", "words"]) (T : Txt mg) (c_read_sides_pair : Cal P w K mg base 4 "read_sides_pair" ["n", "kind", "words"] sp_read_sides_pair)
    (c_read_leaves_pair : Cal P w K mg base 4 "read_leaves_pair" ["n", "kind", "words"] sp_read_leaves_pair) :
    Cal P w K mg base 5 "read_three" ["n", "words"] sp_read_three := by
  refine D.cal sc_read_three (fun vs H Q E h => ?_) (fun f cdv A outer s H vs Q E hr h => ?_)
  · obtain ⟨G, n, v, a, b, c, rfl, _⟩ := h
    rfl
  · obtain ⟨G, n, v, a, b, c, rfl, sg, hv, hn, k⟩ := h
    refine ⟨_, (pss_cons (ps_setLc (i := 2) rfl sc_read_three.nd rfl rfl (sw_true rfl rfl rfl (by decide +kernel)) (pi_tup (pe_tup (pa_cons (pe_gint rfl T.NEXT_SIDE) (pa_cons (pe_gint rfl T.FACING) (pa_cons (pe_gint rfl T.PARTNERS) (pa_cons (pe_gint rfl T.BEFORE) (pa_cons (pe_gint rfl T.TOGETHER) pa_nil))))))) (blkOk_by (own := [("kind", 3)]) (by kernel_rfl)) (fun _ _ _ _ _ => (pg_name (i := 3) sc_read_three.nd rfl (by first | exact Or.inl rfl | exact Or.inr rfl))) (fun _ _ _ _ _ => (pts_one (pt_cmpR (opEqD (K := K) rfl hr.units) (pe_ix (ixL (K := K) rfl) (pv 1) pe_int (fun _ _ => rfl)) (pe_lst (pa_cons (pv 3) pa_nil)) (nomark _)))) (fun _ _ _ _ _ => (pv 3)))
 (pss_cons (ps_if (pt_cmpR (opEqD (K := K) rfl hr.units) (pv 2) (pe_lst pa_nil) (nomark _)) (pss_one (ps_ret pe_non)) pss_nil)
 (pss_cons (ps_set (i := 3) sc_read_three.nd rfl (by first | exact Or.inl rfl | exact Or.inr rfl) (pe_ix (ixL (K := K) rfl) (pv 2) pe_int (fun _ _ => rfl)))
 (pss_cons (ps_if (PW.pt (pw_or (pt_cmpR op_eq (pv 3) (pe_gint rfl T.NEXT_SIDE) (nomark _)) (pw_or1 (pt_cmpR op_eq (pv 3) (pe_gint rfl T.FACING) (nomark _))))) (pss_one (ps_set (i := 4) sc_read_three.nd rfl (by first | exact Or.inl rfl | exact Or.inr rfl) (pcl c_read_sides_pair hr (by decide) (pa_cons (pv 0) (pa_cons (pv 3) (pa_cons (pv 1) pa_nil)))))) (pss_one (ps_set (i := 4) sc_read_three.nd rfl (by first | exact Or.inl rfl | exact Or.inr rfl) (pcl c_read_leaves_pair hr (by decide) (pa_cons (pv 0) (pa_cons (pv 3) (pa_cons (pv 1) pa_nil)))))))
 (pss_cons (ps_if (pt_cmpR (opEqD (K := K) rfl hr.units) (pv 4) (pe_lst pa_nil) (nomark _)) (pss_one (ps_ret pe_non)) pss_nil)
 (pss_one (ps_ret (pe_tup (pa_cons (pv 3) (pa_cons (pv 4) pa_nil)))))))))), ?_⟩
    walk_at "rd"
    refine ⟨by decide, fun p hp => ⟨p, rfl, ⟨_, SqT.of upd_same⟩, fun D' hD => ?_⟩⟩
    have g1 := (Grow.refl sg).made (o := .tup (fiveK.map iv)) hp
    have hv1 : LL (upd G p (.tup (fiveK.map iv))) v [a, b, c] := LL.mono _ _ _ _ g1.gg hv
    refine lc_tup (K := K) (a := p) (xs := fiveK.map iv) (I_read_three (upd G p (.tup (fiveK.map iv))) (upd H p (.tup (fiveK.map iv))) D' b) ?start ?stays ?turn ?after
    case start => exact ⟨_, (Grow.refl g1.gh).open hD, g1.gh.free hD, upd_same⟩
    case stays =>
      rintro i H' hi ⟨G', g, _⟩
      exact SqT.of (g.gh _ _ (g.gg _ _ upd_same))
    case turn =>
      rintro i x H' hx ⟨G', g, gD, eD⟩
      obtain ⟨kd, hk, rfl⟩ := map_at hx
      walk_at "rdiv"
      refine rd_ix (i := 1) g.gh (LL.mono _ _ _ _ g.gg hv1) rfl fun u hu q hq => ?_
      have g2 := g.made (o := .lst [V.int (kd : Int)]) hq
      have qD : D' ≠ q := ne_of_none eD hq
      have tk : (fiveK.take (i + 1)).filter (fun k => decide (b = [k])) = (fiveK.take i).filter (fun k => decide (b = [k])) ++ (if decide (b = [kd]) = true then [kd] else []) := take_succ_filter _ _ _ _ hk
      have tl : ((fiveK.take i).filter fun k => decide (b = [k])).length ≤ 5 := Nat.le_trans (List.length_filter_le _ _) (by rw [List.length_take]; exact Nat.min_le_right _ _)
      refine rd_eqI (ms := [kd]) g2.gh (LI.mono _ _ _ _ (Same.upd_none (g.gh.free hq)) hu) (LI.of upd_same) ?_
      walk_at "rd"
      refine ite2 (fun h => ⟨_, by rw [upd_ne qD]; exact eD, szl (by rw [List.length_map]; omega), ?_⟩) (fun h => ?_)
      · refine ⟨_, g2.set hD (by rw [upd_ne qD]; exact gD), by rw [upd_ne qD]; exact gD, ?_⟩
        rw [upd_same, tk, if_pos (decide_eq_true h), List.map_append]
        rfl
      · refine ⟨_, g2, by rw [upd_ne qD]; exact gD, ?_⟩
        rw [upd_ne qD, eD, tk, if_neg (by simpa using h), List.append_nil]
    case after =>
      rintro H' ⟨G', g, gD, eD⟩
      have gg := g1.trans g
      have hD0 : H D' = none := g1.hh.free hD
      have g3 := gg.fin hD0 gD eD
      have e5 : (fiveK.take (fiveK.map iv).length) = fiveK := rfl
      rw [e5] at eD g3
      generalize hf : (fiveK.filter fun k => decide (b = [k])) = fk at eD g3
      have hk0 : LI (upd G' D' (.lst (fk.map iv))) (.ref D') fk := LI.of upd_same
      generalize upd G' D' (.lst (fk.map iv)) = G3 at g3 hk0
      intro q hq
      have g4 := g3.made (o := .lst []) hq
      have hk1 := LI.mono _ _ _ _ (Same.upd_none (o := .lst []) (g3.gh.free hq)) hk0
      refine rd_eqI (ms := []) g4.gh hk1 (LI.of upd_same) ?_
      generalize upd G3 q (.lst []) = G4 at g4 hk1
      generalize upd H' q (.lst []) = H4 at g4
      walk_at "rd"
      refine ite2 (fun h => k _ _ _ g4 ?_) (fun h => ?_)
      · unfold M.readThree
        rw [show ([62, 124, 61, 60, 126] : List Nat).filter (fun k => decide (b = [k])) = fk from hf, h]
        exact rfl
      cases fk with
      | nil => exact absurd rfl h
      | cons kd rest =>
        refine rd_ix (i := 0) g4.gh hk1 rfl fun w0 e0 => ?_
        cases e0
        have mk : M.readThree n a b c = if (if kd = 62 ∨ kd = 124 then M.sidesPair n kd a c else M.leavesPair n kd a c) = [] then none else some (kd, if kd = 62 ∨ kd = 124 then M.sidesPair n kd a c else M.leavesPair n kd a c) := by
          unfold M.readThree
          rw [show ([62, 124, 61, 60, 126] : List Nat).filter (fun k => decide (b = [k])) = kd :: rest from hf]
        have fin : ∀ (ps : List Nat) (u : V) (G5 H5 : Hp), Grow G H G5 H5 → LI G5 u ps → M.readThree n a b c = (if ps = [] then none else some (kd, ps)) → ∀ p, H5 p = none → rEqD K u (.ref p) (upd H5 p (.lst [])) fun x H' => ∃ k, x = V.bl k ∧
            if k = true then Q V.non H' else ∀ (p : Addr), H' p = none → Q (V.ref p) (upd H' p (HO.tup [V.int kd, u])) := by
          intro ps u G5 H5 g5 hu em p' hp'
          have g6 := g5.made (o := .lst []) hp'
          have hu6 := LI.mono _ _ _ _ (Same.upd_none (o := .lst []) (g5.gh.free hp')) hu
          refine rd_eqI (ms := []) g6.gh hu6 (LI.of upd_same) ⟨_, rfl, ?_⟩
          refine ite2 (fun h => k _ _ _ g6 ?_) (fun h p'' hp'' => k _ _ _ (g6.made hp'') ?_)
          · rw [em, if_pos (of_decide_eq_true h)]
            exact rfl
          · rw [em, if_neg (by simpa using h)]
            exact ⟨p'', u, rfl, upd_same, LI.mono _ _ _ _ (Same.upd_none (g6.gh.free hp'')) hu6⟩
        have hv4 : LL G4 v [a, b, c] := LL.mono _ _ _ _ g4.gg hv
        walk_at "rd"
        refine ite2 (fun h2 => ?_) (fun h2 => ite2 (fun h3 => ?_) (fun h3 => ?_))
        · refine ⟨G4, n, kd, v, a, b, c, rfl, g4.gh, hv4, hn, fun u G5 H5 g5 hu => ?_⟩
          refine fin _ u G5 H5 (g4.trans g5) hu ?_
          rw [mk, if_pos (show kd = 62 ∨ kd = 124 by omega)]
        · refine ⟨G4, n, kd, v, a, b, c, rfl, g4.gh, hv4, hn, fun u G5 H5 g5 hu => ?_⟩
          refine fin _ u G5 H5 (g4.trans g5) hu ?_
          rw [mk, if_pos (show kd = 62 ∨ kd = 124 by omega)]
        · refine ⟨G4, n, kd, v, a, b, c, rfl, g4.gh, hv4, hn, fun u G5 H5 g5 hu => ?_⟩
          refine fin _ u G5 H5 (g4.trans g5) hu ?_
          rw [mk, if_neg (show ¬ (kd = 62 ∨ kd = 124) by omega)]
end
end R
set_option linter.all false
set_option Elab.async false
set_option maxRecDepth 100000
set_option maxHeartbeats 4000000
namespace R
open PySem PySem.Spec PyProof.Rows L2
section
variable {P : Program} {w : World} {K : PySem.W.Frag} {mg : Str → Option Value} {base : Heap}
noncomputable def sp_read_plain : Sp := fun vs H Q _ => ∃ (G : Hp) (n : Nat) (v : V) (ws : List (List Nat)), vs = [.int (n : Int), v] ∧ Same G H ∧ LL G v ws ∧ n ≤ 16 ∧ ws.length ≤ 30000 ∧ Ret G H (OP KP) (M.readPlain n ws) Q
private theorem getD_at {α : Type} {l : List α} {i : Nat} {d : α} (h : i < l.length) : l[i]? = some (l.getD i d) := by
  rw [List.getD_eq_getElem?_getD, List.getElem?_eq_getElem h]
  rfl
noncomputable def J_read_plain (G H : Hp) (σ0 : L2.St) (p : Prop) (σ : L2.St) (H' : Hp) : Prop := σ = σ0 ∧ ¬ p ∧ ∃ G', Grow G H G' H'
private theorem c_read_plain (D : Def K mg "read_plain" s_read_plain ["n", "words"]) (T : Txt mg) (c_read_number : Cal P w K mg base 2 "read_number" ["most", "word"] sp_read_number)
    (c_read_side : Cal P w K mg base 3 "read_side" ["n", "word"] sp_read_side) (c_is_rising : Cal P w K mg base 1 "is_rising" ["numbers"] sp_is_rising) (c_read_three : Cal P w K mg base 5 "read_three" ["n", "words"] sp_read_three) :
    Cal P w K mg base 6 "read_plain" ["n", "words"] sp_read_plain := by
  refine D.cal sc_read_plain (fun vs H Q E h => ?_) (fun f cdv A outer s H vs Q E hr h => ?_)
  · obtain ⟨G, n, v, ws, rfl, _⟩ := h
    rfl
  · obtain ⟨G, n, v, ws, rfl, sg, hv, hn, hl, k⟩ := h
    refine ⟨_, (pss_cons (ps_if (PW.pt (pw_and (pt_cmpR op_gt (pe_callB (lenS (K := K) rfl) rfl T.b_len PySem.boot_len (pa_cons (pv 1) pa_nil)) pe_int (nomark _)) (pw_and1 (pt_cmpR (opEqD (K := K) rfl hr.units) (pe_ix (ixL (K := K) rfl) (pv 1) pe_int (fun _ _ => rfl)) (pe_lst (pa_cons (pe_gint rfl T.IN_A_ROW) pa_nil)) (nomark _))))) (pss_cons (ps_setLc (i := 2) rfl sc_read_plain.nd rfl rfl (sw_true rfl rfl rfl (by decide +kernel)) (pi_list (pe_slice (slL (K := K) rfl) (pv 1) (po_some pe_int) po_none)) (blkOk_by (own := [("word", 5)]) (by kernel_rfl)) (fun _ _ _ _ _ => (pg_name (i := 5) sc_read_plain.nd rfl (by first | exact Or.inl rfl | exact Or.inr rfl))) (fun _ _ _ _ _ => pts_nil) (fun _ _ _ _ _ => (pcl c_read_number hr (by decide) (pa_cons (pv 0) (pa_cons (pv 5) pa_nil)))))
 (pss_one (ps_ret (pe_ifExp (ptT (K := K) rfl (pcl c_is_rising hr (by decide) (pa_cons (pv 2) pa_nil)) (fun _ => rfl)) (pe_tup (pa_cons (pe_gint rfl T.IN_A_ROW) (pa_cons (pv 2) pa_nil))) pe_non)))) pss_nil)
 (pss_cons (ps_if (PW.pt (pw_and (pt_cmpR op_gt (pe_callB (lenS (K := K) rfl) rfl T.b_len PySem.boot_len (pa_cons (pv 1) pa_nil)) pe_int (nomark _)) (pw_and1 (pt_cmpR (opEqD (K := K) rfl hr.units) (pe_ix (ixL (K := K) rfl) (pv 1) pe_int (fun _ _ => rfl)) (pe_lst (pa_cons (pe_gint rfl T.MARKED) pa_nil)) (nomark _))))) (pss_cons (ps_setLc (i := 3) rfl sc_read_plain.nd rfl rfl (sw_true rfl rfl rfl (by decide +kernel)) (pi_list (pe_slice (slL (K := K) rfl) (pv 1) (po_some pe_int) po_none)) (blkOk_by (own := [("word", 5)]) (by kernel_rfl)) (fun _ _ _ _ _ => (pg_name (i := 5) sc_read_plain.nd rfl (by first | exact Or.inl rfl | exact Or.inr rfl))) (fun _ _ _ _ _ => pts_nil) (fun _ _ _ _ _ => (pcl c_read_side hr (by decide) (pa_cons (pv 0) (pa_cons (pv 5) pa_nil)))))
 (pss_one (ps_ret (pe_ifExp (ptT (K := K) rfl (pcl c_is_rising hr (by decide) (pa_cons (pv 3) pa_nil)) (fun _ => rfl)) (pe_tup (pa_cons (pe_gint rfl T.MARKED) (pa_cons (pv 3) pa_nil))) pe_non)))) pss_nil)
 (pss_cons (ps_if (PW.pt (pw_and (pt_cmpR op_eq (pe_callB (lenS (K := K) rfl) rfl T.b_len PySem.boot_len (pa_cons (pv 1) pa_nil)) pe_int (nomark _)) (pw_and1 (pt_cmpR (opEqD (K := K) rfl hr.units) (pe_ix (ixL (K := K) rfl) (pv 1) pe_int (fun _ _ => rfl)) (pe_lst (pa_cons (pe_gint rfl T.FRONT) pa_nil)) (nomark _))))) (pss_cons (ps_set (i := 4) sc_read_plain.nd rfl (by first | exact Or.inl rfl | exact Or.inr rfl) (pcl c_read_side hr (by decide) (pa_cons (pv 0) (pa_cons (pe_ix (ixL (K := K) rfl) (pv 1) pe_int (fun _ _ => rfl)) pa_nil))))
 (pss_one (ps_ret (pe_ifExp (pt_cmpR op_ne (pv 4) pe_int (nomark _)) (pe_tup (pa_cons (pe_gint rfl T.FRONT) (pa_cons (pe_lst (pa_cons (pv 4) pa_nil)) pa_nil))) pe_non)))) pss_nil)
 (pss_cons (ps_if (pt_cmpR op_eq (pe_callB (lenS (K := K) rfl) rfl T.b_len PySem.boot_len (pa_cons (pv 1) pa_nil)) pe_int (nomark _)) (pss_one (ps_ret (pcl c_read_three hr (by decide) (pa_cons (pv 0) (pa_cons (pv 1) pa_nil))))) pss_nil)
 (pss_one (ps_ret pe_non)))))), ?_⟩
    -- an expression (kind, numbers) if is_rising(numbers) else None
    have told : ∀ (kd : Nat) (x : V) (ps : List Nat) (G1 H1 : Hp), Grow G H G1 H1 → LI G1 x ps → M.readPlain n ws = (if M.rising 0 ps = true then some (kd, ps) else none) →
        sp_is_rising [x] H1 (fun x_1 H' => ∃ k, TruV K x_1 H' k ∧ if k = true then ∀ (p : Addr), H' p = none → Q (V.ref p) (upd H' p (HO.tup [V.int (kd : Int), x])) else Q V.non H') E0 := by
      intro kd x ps G1 H1 g1 hx em
      refine ⟨G1, x, ps, rfl, g1.gh, hx, fun r G2 H2 g2 r2 => ?_⟩
      cases r2
      refine ⟨_, tru_bl, ite2 (fun h p hp => k _ _ _ ((g1.trans g2).made hp) ?_) (fun h => k _ _ _ (g1.trans g2) ?_)⟩
      · rw [em, if_pos h]
        exact ⟨p, x, rfl, upd_same, LI.mono _ _ _ _ (g2.gg.trans (Same.upd_none (g2.gh.free hp))) hx⟩
      · rw [em, if_neg h]
        exact rfl
    refine rd_two (J_read_plain G H [some (V.int (n : Int)), some v, none, none, none, none] (2 < ws.length ∧ ws.getD 0 [] = [111])) ?rest1 (fun U hU => ?first1)
    case first1 =>
      walk_at "rd"
      refine rd_len sg hv ?_
      walk_at "rd"
      refine ite2 (fun h => ?_) (fun h => hU _ _ ⟨rfl, fun z => h (by omega), G, Grow.refl sg⟩)
      refine rd_ix (i := 0) sg hv (getD_at (d := []) (by omega)) fun u hu p hp => ?_
      have g1 := (Grow.refl sg).made (o := .lst [V.int 111]) hp
      refine rd_eqI (ms := [111]) g1.gh (LI.mono _ _ _ _ g1.gg hu) (LI.of upd_same) ?_
      walk_at "rd"
      refine ite2 (fun h2 => ?_) (fun h2 => hU _ _ ⟨rfl, fun z => h2 z.2, _, g1⟩)
      refine ⟨_, rfl, 1, rfl, ?_⟩
      dsimp only [tNoPart]
      refine rd_from (k := 1) g1 (LL.mono _ _ _ _ g1.gg hv) LI.mono fun q G2 H2 g2 g2' hq => ⟨q, rfl, ?_, fun D' hD => ?_⟩
      · obtain ⟨_, vs, e, e1, _⟩ := hq
        cases e
        exact ⟨vs, SqL.of (g2.gh _ _ e1)⟩
      · refine lc_map (K := K) LI.mono (F := M.readNumber n) g2.gh hq hD (by rw [List.length_drop]; omega) (fun x y G' H' Qk hy g' hx kk => ?_) (fun G' H' g' hD' => ?_)
        · walk_at "rd"
          refine ⟨G', n, x, y, rfl, g'.gh, hx, hn, fun r G3 H3 g3 r3 => ?_⟩
          cases r3
          exact kk _ _ g3
        · refine told 111 _ _ _ _ (g2.trans g') hD' ?_
          unfold M.readPlain
          rw [if_pos ⟨by omega, h2⟩]
    case rest1 =>
      rintro σ H1 ⟨rfl, n1, G1, g1⟩
      have hv1 := LL.mono _ _ _ _ g1.gg hv
      refine rd_two (J_read_plain G H [some (V.int (n : Int)), some v, none, none, none, none] (1 < ws.length ∧ ws.getD 0 [] = [104])) ?rest2 (fun U hU => ?first2)
      case first2 =>
        walk_at "rd"
        refine rd_len g1.gh hv1 ?_
        walk_at "rd"
        refine ite2 (fun h => ?_) (fun h => hU _ _ ⟨rfl, fun z => h (by omega), _, g1⟩)
        refine rd_ix (i := 0) g1.gh hv1 (getD_at (d := []) (by omega)) fun u hu p hp => ?_
        have g2 := g1.made (o := .lst [V.int 104]) hp
        have s2 := Same.upd_none (o := .lst [V.int 104]) (g1.gh.free hp)
        refine rd_eqI (ms := [104]) g2.gh (LI.mono _ _ _ _ s2 hu) (LI.of upd_same) ?_
        walk_at "rd"
        refine ite2 (fun h2 => ?_) (fun h2 => hU _ _ ⟨rfl, fun z => h2 z.2, _, g2⟩)
        refine ⟨_, rfl, 1, rfl, ?_⟩
        dsimp only [tNoPart]
        refine rd_from (k := 1) g2 (LL.mono _ _ _ _ g2.gg hv) LI.mono fun q G3 H3 g3 g3' hq => ⟨q, rfl, ?_, fun D' hD => ?_⟩
        · obtain ⟨_, vs, e, e1, _⟩ := hq
          cases e
          exact ⟨vs, SqL.of (g3.gh _ _ e1)⟩
        · refine lc_map (K := K) LI.mono (F := M.readSide n) g3.gh hq hD (by rw [List.length_drop]; omega) (fun x y G' H' Qk hy g' hx kk => ?_) (fun G' H' g' hD' => ?_)
          · walk_at "rd"
            refine ⟨G', n, x, y, rfl, g'.gh, hx, hn, fun r G4 H4 g4 r4 => ?_⟩
            cases r4
            exact kk _ _ g4
          · refine told 104 _ _ _ _ (g3.trans g') hD' ?_
            unfold M.readPlain
            rw [if_neg n1, if_pos ⟨by omega, h2⟩]
      case rest2 =>
        rintro σ H2 ⟨rfl, n2, G2, g2⟩
        have hv2 := LL.mono _ _ _ _ g2.gg hv
        refine rd_two (J_read_plain G H [some (V.int (n : Int)), some v, none, none, none, none] (ws.length = 2 ∧ ws.getD 1 [] = [94])) ?rest3 (fun U hU => ?first3)
        case first3 =>
          walk_at "rd"
          refine rd_len g2.gh hv2 ?_
          walk_at "rd"
          refine ite2 (fun h => ?_) (fun h => hU _ _ ⟨rfl, fun z => h (by omega), _, g2⟩)
          refine rd_ix (i := 1) g2.gh hv2 (getD_at (d := []) (by omega)) fun u hu p hp => ?_
          have g3 := g2.made (o := .lst [V.int 94]) hp
          have s3 := Same.upd_none (o := .lst [V.int 94]) (g2.gh.free hp)
          refine rd_eqI (ms := [94]) g3.gh (LI.mono _ _ _ _ s3 hu) (LI.of upd_same) ?_
          walk_at "rd"
          refine ite2 (fun h2 => ?_) (fun h2 => hU _ _ ⟨rfl, fun z => h2 z.2, _, g3⟩)
          refine rd_ix (i := 0) g3.gh (LL.mono _ _ _ _ s3 hv2) (getD_at (d := []) (by omega)) fun u0 hu0 => ?_
          refine ⟨_, n, u0, _, rfl, g3.gh, hu0, hn, fun r G4 H4 g4 r4 => ?_⟩
          cases r4
          have em : M.readPlain n ws = if M.readSide n (ws.getD 0 []) ≠ 0 then some (94, [M.readSide n (ws.getD 0 [])]) else none := by
            unfold M.readPlain
            rw [if_neg n1, if_neg n2, if_pos ⟨by omega, h2⟩]
          walk_at "rd"
          refine ite2 (fun h3 p1 hp1 p2 hp2 => ?_) (fun h3 => k _ _ _ (g3.trans g4) ?_)
          · have g5 := (g3.trans g4).made (o := .lst [V.int (M.readSide n (ws.getD 0 []) : Int)]) hp1
            refine k _ _ _ (g5.made hp2) ?_
            rw [em, if_pos (by omega)]
            refine ⟨p2, .ref p1, rfl, upd_same, LI.of ?_⟩
            rw [upd_ne (ne_of_none upd_same hp2)]
            exact upd_same
          · rw [em, if_neg (by omega)]
            exact rfl
        case rest3 =>
          rintro σ H3 ⟨rfl, n3, G3, g3⟩
          have hv3 := LL.mono _ _ _ _ g3.gg hv
          walk_at "rd"
          refine rd_len g3.gh hv3 ?_
          walk_at "rd"
          refine ite2 (fun h => ?_) (fun h => k _ _ _ g3 ?_)
          · have h3 : ws.length = 3 := by omega
            match ws, h3 with
            | [a, b, c], _ =>
              refine ⟨G3, n, v, a, b, c, rfl, g3.gh, hv3, hn, ?_⟩
              have em : M.readPlain n [a, b, c] = M.readThree n a b c := by
                unfold M.readPlain
                rw [if_neg n1, if_neg n2, if_neg n3]
                rfl
              rw [em] at k
              exact k.then g3
          · unfold M.readPlain
            rw [if_neg n1, if_neg n2, if_neg n3, if_neg (by omega)]
            exact rfl
end
end R
set_option linter.all false
set_option Elab.async false
set_option maxRecDepth 100000
set_option maxHeartbeats 4000000
namespace R
open PySem PySem.Spec PyProof.Rows L2
section
variable {P : Program} {w : World} {K : PySem.W.Frag} {mg : Str → Option Value} {base : Heap}
noncomputable def sp_read_finding (K : PySem.W.Frag) : Sp := fun vs H Q _ => ∃ (G : Hp) (n : Nat) (v : V) (ns : List Nat), vs = [.int (n : Int), v] ∧ Same G H ∧ TX K G v ns ∧ n ≤ 16 ∧ ns.length ≤ 20000 ∧ Ret G H (OP FD) (M.readFinding n ns) Q
private theorem c_read_finding (D : Def K mg "read_finding" s_read_finding ["n", "line"]) (T : Txt mg) (c_split_at : Cal P w K mg base 1 "split_at" ["text", "mark"] (sp_split_at K))
    (c_read_plain : Cal P w K mg base 6 "read_plain" ["n", "words"] sp_read_plain) : Cal P w K mg base 7 "read_finding" ["n", "line"] (sp_read_finding K) := by
  refine D.cal sc_read_finding (fun vs H Q E h => ?_) (fun f cdv A outer s H vs Q E hr h => ?_)
  · obtain ⟨G, n, v, ns, rfl, _⟩ := h
    rfl
  · obtain ⟨G, n, v, ns, rfl, sg, hv, hn, hl, k⟩ := h
    refine ⟨_, (pss_cons (ps_set (i := 2) sc_read_finding.nd rfl (by first | exact Or.inl rfl | exact Or.inr rfl) (pcl c_split_at hr (by decide) (pa_cons (pv 1) (pa_cons (pe_gint rfl T.BLANK) pa_nil))))
 (pss_cons (ps_set (i := 3) sc_read_finding.nd rfl (by first | exact Or.inl rfl | exact Or.inr rfl) (pe_cmpR (opNeD (K := K) rfl hr.units) (pe_ix (ixL (K := K) rfl) (pv 2) pe_int (fun _ _ => rfl)) (pe_lst (pa_cons (pe_gint rfl T.NOT) pa_nil)) (nomark _)))
 (pss_cons (ps_set (i := 4) sc_read_finding.nd rfl (by first | exact Or.inl rfl | exact Or.inr rfl) (pcl c_read_plain hr (by decide) (pa_cons (pv 0) (pa_cons (pe_ifExp (ptT (K := K) rfl (pv 3) (fun _ => rfl)) (pv 2) (pe_slice (slL (K := K) rfl) (pv 2) (po_some pe_int) po_none)) pa_nil))))
 (pss_cons (ps_if (pt_cmp (pc_isN (pv 4))) (pss_one (ps_ret pe_non)) pss_nil)
 (pss_one (ps_ret (pe_tup (pa_cons (pv 3) (pa_cons (pe_ix (ixT (K := K) rfl) (pv 4) pe_int (fun _ _ => rfl)) (pa_cons (pe_ix (ixT (K := K) rfl) (pv 4) pe_int (fun _ _ => rfl)) pa_nil)))))))))), ?_⟩
    walk_at "rd"
    refine ⟨G, v, ns, 32, rfl, sg, hv, hl, fun u G1 H1 g1 hu => ?_⟩
    have ne := M.spl_ne 32 ns
    have sl := (M.spl_len 32 ns).1
    have pos : 0 < (M.spl 32 ns).length := List.length_pos_iff.mpr ne
    refine rd_ix (i := 0) g1.gh hu (getD_at (d := []) pos) fun u0 h0 p hp => ?_
    have g2 := g1.made (o := .lst [V.int 33]) hp
    have s2 := Same.upd_none (o := .lst [V.int 33]) (g1.gh.free hp)
    refine rd_neI (ms := [33]) g2.gh (LI.mono _ _ _ _ s2 h0) (LI.of upd_same) ?_
    have hu2 := LL.mono _ _ _ _ s2 hu
    generalize upd G1 p (.lst [V.int 33]) = G2 at g2 hu2
    generalize upd H1 p (.lst [V.int 33]) = H2 at g2
    -- behind the call
    have fin : ∀ (b : Bool) (wl : List (List Nat)) (x : V) (G3 H3 : Hp), b = decide ((M.spl 32 ns).getD 0 [] ≠ [33]) → wl = (if b = true then M.spl 32 ns else (M.spl 32 ns).drop 1) → Grow G H G3 H3 → LL G3 x wl →
        sp_read_plain [V.int (n : Int), x] H3 (fun x H1 => if x = V.non then Q V.non H1 else rIxT K x (V.int 0) H1 fun x_1 H1 => rIxT K x (V.int 1) H1 fun x_2 H1 => ∀ (p : Addr), H1 p = none → Q (V.ref p) (upd H1 p (HO.tup [V.bl b, x_1, x_2]))) E0 := by
      intro b wl x G3 H3 eb ew g3 hx
      refine ⟨G3, n, x, wl, rfl, g3.gh, hx, hn, ?_, fun r G4 H4 g4 hr4 => ?_⟩
      · rw [ew]
        split
        · omega
        · rw [List.length_drop]; omega
      have em : M.readFinding n ns = (M.readPlain n wl).map fun x => (b, x.1, x.2) := by
        unfold M.readFinding
        simp only
        rw [← eb, ← ew]
      cases e : M.readPlain n wl with
      | none =>
        rw [e] at hr4
        cases hr4
        dsimp only
        rw [if_pos rfl]
        refine k _ _ _ (g3.trans g4) ?_
        rw [em, e]
        exact rfl
      | some z =>
        rw [e] at hr4
        obtain ⟨a, y, rfl, ha, hy⟩ := hr4
        dsimp only
        rw [if_neg (by intro q; cases q)]
        refine rd_ixT (i := 0) g4.gh ha rfl (rd_ixT (i := 1) g4.gh ha rfl fun p hp => ?_)
        refine k _ _ _ ((g3.trans g4).made hp) ?_
        rw [em, e]
        exact ⟨p, y, rfl, upd_same, LI.mono _ _ _ _ (Same.upd_none (g4.gh.free hp)) hy⟩
    by_cases hb : (M.spl 32 ns).getD 0 [] = [33]
    · have e1 : (!decide ((M.spl 32 ns).getD 0 [] = [33])) = false := by rw [decide_eq_true hb]; rfl
      rw [e1]
      refine ⟨false, rfl, ?_⟩
      walk_at "rd"
      refine rd_from (k := 1) g2 hu2 LI.mono fun q G3 H3 g3 g3' hq => ?_
      exact fin false _ _ _ _ (by rw [decide_eq_false (fun z => z hb)]) (by rw [if_neg Bool.false_ne_true]) g3 hq
    · have e1 : (!decide ((M.spl 32 ns).getD 0 [] = [33])) = true := by rw [decide_eq_false hb]; rfl
      rw [e1]
      refine ⟨true, rfl, ?_⟩
      walk_at "rd"
      exact fin true _ _ _ _ (by rw [decide_eq_true hb]) (by rw [if_pos rfl]) g2 hu2
noncomputable def sp_read_findings (K : PySem.W.Frag) : Sp := fun vs H Q _ => ∃ (G : Hp) (v : V) (ns : List Nat), vs = [v] ∧ Same G H ∧ TX K G v ns ∧ ns.length ≤ 20000 ∧ Ret G H (OP FS) (M.readFindings ns) Q
noncomputable def I_read_findings (G H G5 : Hp) (v u : V) (n : Nat) (p : Addr) (ls : List (List Nat)) (i : Nat) (σ : L2.St) (H' : Hp) : Prop :=
  ∃ (G' : Hp) (fs : List (Bool × Nat × List Nat)) (pvs : List V) (x y : Option V), σ = [some v, some u, some (.int (n : Int)), some (.ref p), x, y] ∧ Grow G H G' H' ∧ Same G5 G' ∧ G' p = none ∧ H' p = some (.lst pvs) ∧ Paired (FD G') pvs fs ∧ fs.length ≤ i ∧
    M.readAll n ls = (M.readAll n (ls.drop i)).map fun r => fs ++ r
private theorem c_read_findings (D : Def K mg "read_findings" s_read_findings ["t"]) (T : Txt mg) (c_split_at : Cal P w K mg base 1 "split_at" ["text", "mark"] (sp_split_at K))
    (c_read_number : Cal P w K mg base 2 "read_number" ["most", "word"] sp_read_number) (c_read_finding : Cal P w K mg base 7 "read_finding" ["n", "line"] (sp_read_finding K)) :
    Cal P w K mg base 8 "read_findings" ["t"] (sp_read_findings K) := by
  refine D.cal sc_read_findings (fun vs H Q E h => ?_) (fun f cdv A outer s H vs Q E hr h => ?_)
  · obtain ⟨G, v, ns, rfl, _⟩ := h
    rfl
  · obtain ⟨G, v, ns, rfl, sg, hv, hl, k⟩ := h
    refine ⟨_, (pss_cons (ps_set (i := 1) sc_read_findings.nd rfl (by first | exact Or.inl rfl | exact Or.inr rfl) (pcl c_split_at hr (by decide) (pa_cons (pv 0) (pa_cons (pe_gint rfl T.LINE_FEED) pa_nil))))
 (pss_cons (ps_if (PW.pt (pw_or (pt_cmpR (opNeD (K := K) rfl hr.units) (pe_ix (ixL (K := K) rfl) (pv 1) (pe_un un_neg pe_int) (fun _ _ => rfl)) (pe_lst pa_nil) (nomark _)) (pw_or1 (pt_cmpR op_gt (pe_callB (lenS (K := K) rfl) rfl T.b_len PySem.boot_len (pa_cons (pv 1) pa_nil)) (pe_op op_add (pe_gint rfl T.MOST_FINDINGS) pe_int) (nomark _))))) (pss_one (ps_ret pe_non)) pss_nil)
 (pss_cons (ps_set (i := 2) sc_read_findings.nd rfl (by first | exact Or.inl rfl | exact Or.inr rfl) (pcl c_read_number hr (by decide) (pa_cons (pe_gint rfl T.MOST_LEAVES) (pa_cons (pe_ix (ixL (K := K) rfl) (pv 1) pe_int (fun _ _ => rfl)) pa_nil))))
 (pss_cons (ps_if (pt_cmpR op_eq (pv 2) pe_int (nomark _)) (pss_one (ps_ret pe_non)) pss_nil)
 (pss_cons (ps_set (i := 3) sc_read_findings.nd rfl (by first | exact Or.inl rfl | exact Or.inr rfl) (pe_lst pa_nil))
 (pss_cons (ps_for PassesOwn.never rfl (pi_list (pe_slice (slL (K := K) rfl) (pv 1) (po_some pe_int) (po_some (pe_un un_neg pe_int)))) (pg_name (i := 4) sc_read_findings.nd rfl (by first | exact Or.inl rfl | exact Or.inr rfl))
 (pss_cons (ps_set (i := 5) sc_read_findings.nd rfl (by first | exact Or.inl rfl | exact Or.inr rfl) (pcl c_read_finding hr (by decide) (pa_cons (pv 2) (pa_cons (pv 4) pa_nil))))
 (pss_cons (ps_if (pt_cmp (pc_isN (pv 5))) (pss_one (ps_ret pe_non)) pss_nil)
 (pss_one (ps_expr (pe_bm PySem.F.plainAttrs_list PySem.F.slot_list_append PySem.F.type_list_append mt_append (pv 3) (pa_cons (pv 5) pa_nil)))))))
 (pss_one (ps_ret (pe_tup (pa_cons (pv 2) (pa_cons (pv 3) pa_nil))))))))))), ?_⟩
    walk_at "rd"
    refine ⟨G, v, ns, 10, rfl, sg, hv, hl, fun u G1 H1 g1 hu => ?_⟩
    have ne := M.spl_ne 10 ns
    obtain ⟨sl, sw⟩ := M.spl_len 10 ns
    have pos : 0 < (M.spl 10 ns).length := List.length_pos_iff.mpr ne
    obtain ⟨lw, hlw⟩ : ∃ lw, (M.spl 10 ns).getLast? = some lw := ⟨_, List.getLast?_eq_some_getLast ne⟩
    refine rd_last g1.gh hu hlw fun u0 h0 p hp => ?_
    have g2 := g1.made (o := .lst []) hp
    have s2 := Same.upd_none (o := .lst []) (g1.gh.free hp)
    refine rd_neI (ms := []) g2.gh (LI.mono _ _ _ _ s2 h0) (LI.of upd_same) ?_
    have hu2 := LL.mono _ _ _ _ s2 hu
    generalize upd G1 p (.lst []) = G2 at g2 hu2
    generalize upd H1 p (.lst []) = H2 at g2
    walk_at "rd"
    refine ite2 (fun h => k _ _ _ g2 ?_) (fun h => ?_)
    · unfold M.readFindings
      simp only
      rw [if_pos]
      · exact rfl
      · left
        rw [hlw]
        intro z
        exact h (Option.some.inj z)
    have h : lw = [] := by
      by_cases z : lw = []
      · exact z
      · exact absurd z h
    refine rd_len g2.gh hu2 ?_
    walk_at "rd"
    refine ite2 (fun h2 => k _ _ _ g2 ?_) (fun h2 => ?_)
    · unfold M.readFindings
      simp only
      rw [if_pos]
      · exact rfl
      · right
        omega
    have nc : ¬ ((M.spl 10 ns).getLast? ≠ some [] ∨ 66 < (M.spl 10 ns).length) := by
      rintro (z | z)
      · rw [hlw, h] at z
        exact z rfl
      · omega
    refine rd_ix (i := 0) g2.gh hu2 (getD_at (d := []) pos) fun u1 h1 => ?_
    refine ⟨G2, 16, u1, _, rfl, g2.gh, h1, by omega, fun r G3 H3 g3 r3 => ?_⟩
    cases r3
    have g23 := g2.trans g3
    generalize hn : M.readNumber 16 ((M.spl 10 ns).getD 0 []) = n
    walk_at "rd"
    refine ite2 (fun h3 => k _ _ _ g23 ?_) (fun h3 => ?_)
    · unfold M.readFindings
      simp only
      rw [if_neg nc, hn, if_pos (by omega)]
      exact rfl
    have n0 : ¬ n = 0 := by omega
    have n16 : n ≤ 16 := by
      rw [← hn]
      exact (M.readNumber_pos (by rw [hn]; exact n0)).2.1
    have em : M.readFindings ns = (M.readAll n ((M.spl 10 ns).drop 1).dropLast).map fun fs => (n, fs) := by
      unfold M.readFindings
      simp only
      rw [if_neg nc, hn, if_neg n0]
    intro q hq
    have hu3 := LL.mono _ _ _ _ g3.gg hu2
    have gq : G3 q = none := g23.gh.free hq
    -- the slice is taken behind the new list: it is finished, the list stands beside it
    have g4 := g23.open (o := .lst []) hq
    show tFor _ _ _ _ _ _
    refine ⟨_, rfl, 1, rfl, _, rfl, -1, rfl, rd_inner g4 hu3 LI.mono fun ps G5 H5 g5 g5' hps => ?_⟩
    obtain ⟨_, vs, e, e1, e2⟩ := hps
    cases e
    obtain ⟨k1, k2⟩ := g5'.keep upd_same gq
    generalize hls : ((M.spl 10 ns).drop 1).dropLast = ls at e2 em
    have hlen : ls.length ≤ 70 := by
      rw [← hls, List.length_dropLast, List.length_drop]
      omega
    have hmem : ∀ l ∈ ls, l.length ≤ 20000 := fun l hm => by
      rw [← hls] at hm
      have := sw l (List.mem_of_mem_drop ((List.dropLast_sublist _).subset hm))
      omega
    have q0 : H q = none := g23.hh.free hq
    refine ⟨ps, rfl, ⟨_, SqL.of (g5.gh _ _ e1)⟩, for_list (K := K) (a := ps) (xs := vs) (I_read_findings G H G5 v u n q ls) ?start ?stays ?turn ?after⟩
    case start => exact ⟨G5, [], [], none, none, rfl, g5, Same.refl _, k2, k1, .nil, Nat.le_refl _, M.readAll_start n ls⟩
    case stays =>
      rintro i σ H' hi ⟨G', fs, pvs, x, y, _, g, sm, _⟩
      exact SqL.of (g.gh _ _ (sm _ _ e1))
    case turn =>
      rintro i z σ H' hz ⟨G', fs, pvs, x, y, rfl, g, sm, gp, ep, pr, hfl, ea⟩
      obtain ⟨l, hl', hz'⟩ := pr_get e2 hz
      have hil : i < ls.length := (List.getElem?_eq_some_iff.mp hl').1
      have lp := pr.length
      walk_at "rd"
      refine ⟨G', n, z, l, rfl, g.gh, (LI.mono _ _ _ _ sm hz').tx, n16, hmem l (List.mem_of_getElem? hl'), fun r G6 H6 g6 r6 => ?_⟩
      obtain ⟨k3, k4⟩ := g6.keep ep gp
      cases ef : M.readFinding n l with
      | none =>
        rw [ef] at r6
        cases r6
        walk_at "rd"
        refine k _ _ _ (g.trans g6) ?_
        rw [em, M.readAll_none hl' ef ea]
        exact rfl
      | some fd =>
        rw [ef] at r6
        obtain ⟨a, y', rfl, ha, hy'⟩ := id r6
        rw [if_neg (by intro q; cases q)]
        refine rd_append k3 (by omega) ?_
        refine ⟨G6, fs ++ [fd], _, _, _, rfl, (g.trans g6).set q0 k4, sm.trans g6.gg, k4, upd_same, ?_, by simp; omega, M.readAll_step hl' ef ea⟩
        exact pr_app (pr_imp (fun _ _ z => FD.mono _ _ _ _ g6.gg z) pr) (.cons r6 .nil)
    case after =>
      rintro σ H' ⟨G', fs, pvs, x, y, rfl, g, sm, gp, ep, pr, hfl, ea⟩
      walk_at "rd"
      intro p' hp'
      have g7 := (g.fin q0 gp ep)
      refine k _ _ _ (g7.made hp') ?_
      rw [em, M.readAll_end (by rw [e2.length]; exact Nat.le_refl _) ea]
      refine ⟨p', .ref q, rfl, upd_same, q, pvs, rfl, ?_, pr_imp (fun _ _ z => FD.mono _ _ _ _ ((Same.upd_none gp).trans (Same.upd_none (g7.gh.free hp'))) z) pr⟩
      rw [upd_ne (ne_of_none ep hp')]
      exact upd_same
end
end R
set_option linter.all false
set_option Elab.async false
set_option maxRecDepth 100000
set_option maxHeartbeats 4000000
namespace R
open PySem PySem.Spec PyProof.Rows L2
section
variable {P : Program} {w : World} {K : PySem.W.Frag} {mg : Str → Option Value} {base : Heap}
private theorem take_snoc {α β : Type} {l : List α} {i : Nat} {x : α} (h : l[i]? = some x) (f : α → List β) : (l.take (i + 1)).flatMap f = (l.take i).flatMap f ++ f x := by
  rw [List.take_add_one, h]
  simp
noncomputable def sp_sides_in_order : Sp := fun vs H Q _ => ∃ (G : Hp) (v : V) (b : M.PBook), vs = [v] ∧ Same G H ∧ BK G v b ∧ b.length ≤ 1000 ∧ Ret G H LI (M.sidesIn b) Q
noncomputable def I_sides_in_order (G H : Hp) (v : V) (p : Addr) (b : M.PBook) (i : Nat) (σ : L2.St) (H' : Hp) : Prop :=
  ∃ (G' : Hp) (x y z u : Option V), σ = [some v, some (.ref p), x, y, z, u] ∧ Grow G H G' H' ∧ G' p = none ∧ H' p = some (.lst ((M.sidesIn (b.take i)).map iv))
private theorem c_sides_in_order (D : Def K mg "sides_in_order" s_sides_in_order ["book"]) (T : Txt mg) : Cal P w K mg base 1 "sides_in_order" ["book"] sp_sides_in_order := by
  refine D.cal sc_sides_in_order (fun vs H Q E h => ?_) (fun f cdv A outer s H vs Q E hr h => ?_)
  · obtain ⟨G, v, b, rfl, _⟩ := h
    rfl
  · obtain ⟨G, v, b, rfl, sg, hv, hl, k⟩ := h
    obtain ⟨a, vs, rfl, ha, hp⟩ := hv
    refine ⟨_, (pss_cons (ps_set (i := 1) sc_sides_in_order.nd rfl (by first | exact Or.inl rfl | exact Or.inr rfl) (pe_lst pa_nil))
 (pss_cons (ps_for PassesOwn.never rfl (pi_list (pv 0)) (pgT (K := K) (n := 3) rfl rfl (pgs_cons (pg_name (i := 2) sc_sides_in_order.nd rfl (by first | exact Or.inl rfl | exact Or.inr rfl)) (pgs_cons (pg_name (i := 3) sc_sides_in_order.nd rfl (by first | exact Or.inl rfl | exact Or.inr rfl)) (pgs_cons (pg_name (i := 4) sc_sides_in_order.nd rfl (by first | exact Or.inl rfl | exact Or.inr rfl)) pgs_nil))))
 (pss_cons (ps_set (i := 5) sc_sides_in_order.nd rfl (by first | exact Or.inl rfl | exact Or.inr rfl) (pe_op op_sub (pe_op op_add (pv 3) pe_int) (pe_op op_mul pe_int (pe_op op_mod (pv 3) pe_int))))
 (pss_one (ps_expr (pe_bm PySem.F.plainAttrs_list PySem.F.slot_list_extend PySem.F.type_list_extend mt_extend (pv 1) (pa_cons (pe_lst (pa_cons (pv 3) (pa_cons (pv 5) pa_nil))) pa_nil))))))
 (pss_one (ps_ret (pv 1))))), ?_⟩
    walk_at "rd"
    intro p hp0
    have g1 := (Grow.refl sg).open (o := .lst []) hp0
    refine ⟨_, rfl, a, rfl, ⟨_, SqL.of (g1.gh _ _ ha)⟩, for_list (K := K) (a := a) (xs := vs) (I_sides_in_order G H (.ref a) p b) ?start ?stays ?turn ?after⟩
    case start => exact ⟨G, none, none, none, none, rfl, g1, sg.free hp0, upd_same⟩
    case stays =>
      rintro i σ H' hi ⟨G', x, y, z, u, _, g, _⟩
      exact SqL.of (g.gh _ _ (g.gg _ _ ha))
    case turn =>
      rintro i c σ H' hc ⟨G', x, y, z, u, rfl, g, gp, ep⟩
      obtain ⟨lf, hlf, hr'⟩ := pr_get hp hc
      have hil : i < b.length := (List.getElem?_eq_some_iff.mp hlf).1
      refine rd_leaf g.gh (TL.mono _ _ _ _ g.gg hr') ?_
      walk_at "rd"
      refine ⟨ty_list ep, fun q hq => ?_⟩
      have qp : p ≠ q := ne_of_none ep hq
      refine rd_ext (by rw [upd_ne qp]; exact ep) upd_same ?_ ?_
      · rw [List.length_map, M.sidesIn_len, List.length_take]
        simp only [List.length_cons, List.length_nil]
        omega
      · refine ⟨_, _, _, _, _, rfl, (g.made hq).set hp0 (by rw [upd_ne qp]; exact gp), by rw [upd_ne qp]; exact gp, ?_⟩
        rw [upd_same]
        unfold M.sidesIn
        rw [take_snoc hlf, List.map_append]
        congr 3
        have e : (lf.2.1 : Int) + 1 - 2 * ((lf.2.1 : Int) % 2) = ((lf.2.1 + 1 - 2 * (lf.2.1 % 2) : Nat) : Int) := by omega
        rw [e]
        rfl
    case after =>
      rintro σ H' ⟨G', x, y, z, u, rfl, g, gp, ep⟩
      walk_at "rd"
      rw [hp.length, List.take_of_length_le (Nat.le_refl _)] at ep
      exact k _ _ _ (g.fin hp0 gp ep) (LI.of upd_same)
noncomputable def sp_gatherings_of_leaves : Sp := fun vs H Q _ => ∃ (G : Hp) (v : V) (b : M.PBook), vs = [v] ∧ Same G H ∧ BK G v b ∧ b.length ≤ 1000 ∧ Ret G H DM (M.gmap b 0 M.noneM) Q
noncomputable def I_gatherings_of_leaves (G H : Hp) (v : V) (p : Addr) (b : M.PBook) (i : Nat) (σ : L2.St) (H' : Hp) : Prop :=
  ∃ (G' : Hp) (num : Nat) (m : Nat → Option Nat) (kvs : List (Key × V)) (x y z : Option V), σ = [some v, some (.ref p), some (.int (num : Int)), x, y, z] ∧ Grow G H G' H' ∧ G' p = none ∧ H' p = some (.dK kvs) ∧ (∀ k : Nat, valV kvs (Sum.inl (k : Int)) = (m k).map iv) ∧ kvs.length ≤ i ∧
    M.gmap b 0 M.noneM = M.gmap (b.drop i) num m
private theorem c_gatherings_of_leaves (D : Def K mg "gatherings_of_leaves" s_gatherings_of_leaves ["book"]) (T : Txt mg) : Cal P w K mg base 1 "gatherings_of_leaves" ["book"] sp_gatherings_of_leaves := by
  refine D.cal sc_gatherings_of_leaves (fun vs H Q E h => ?_) (fun f cdv A outer s H vs Q E hr h => ?_)
  · obtain ⟨G, v, b, rfl, _⟩ := h
    rfl
  · obtain ⟨G, v, b, rfl, sg, hv, hl, k⟩ := h
    obtain ⟨a, vs, rfl, ha, hp⟩ := hv
    have hu := hu_of hr
    refine ⟨_, (pss_cons (ps_set (i := 1) sc_gatherings_of_leaves.nd rfl (by first | exact Or.inl rfl | exact Or.inr rfl) pe_dnewK)
 (pss_cons (ps_set (i := 2) sc_gatherings_of_leaves.nd rfl (by first | exact Or.inl rfl | exact Or.inr rfl) pe_int)
 (pss_cons (ps_for PassesOwn.never rfl (pi_list (pv 0)) (pgT (K := K) (n := 3) rfl rfl (pgs_cons (pg_name (i := 3) sc_gatherings_of_leaves.nd rfl (by first | exact Or.inl rfl | exact Or.inr rfl)) (pgs_cons (pg_name (i := 4) sc_gatherings_of_leaves.nd rfl (by first | exact Or.inl rfl | exact Or.inr rfl)) (pgs_cons (pg_name (i := 5) sc_gatherings_of_leaves.nd rfl (by first | exact Or.inl rfl | exact Or.inr rfl)) pgs_nil))))
 (pss_cons (ps_if (ptT (K := K) rfl (pv 3) (fun _ => rfl)) (pss_one (ps_set (i := 2) sc_gatherings_of_leaves.nd rfl (by first | exact Or.inl rfl | exact Or.inr rfl) (pe_op op_add (pv 2) pe_int))) pss_nil)
 (pss_one (ps_dput hu (pv 1) (pe_op op_fdiv (pv 4) pe_int) (pv 2) rfl))))
 (pss_one (ps_ret (pv 1)))))), ?_⟩
    walk_at "rd"
    intro p hp0
    have g1 := (Grow.refl sg).open (o := .dK []) hp0
    refine ⟨_, rfl, a, rfl, ⟨_, SqL.of (g1.gh _ _ ha)⟩, for_list (K := K) (a := a) (xs := vs) (I_gatherings_of_leaves G H (.ref a) p b) ?start ?stays ?turn ?after⟩
    case start => exact ⟨G, 0, M.noneM, [], none, none, none, rfl, g1, sg.free hp0, upd_same, fun k => rfl, Nat.le_refl _, rfl⟩
    case stays =>
      rintro i σ H' hi ⟨G', num, m, kvs, x, y, z, _, g, _⟩
      exact SqL.of (g.gh _ _ (g.gg _ _ ha))
    case turn =>
      rintro i c σ H' hc ⟨G', num, m, kvs, x, y, z, rfl, g, gp, ep, hm, hk, e⟩
      obtain ⟨lf, hlf, hr'⟩ := pr_get hp hc
      have hil : i < b.length := (List.getElem?_eq_some_iff.mp hlf).1
      rw [M.drop_at hlf, M.gmap] at e
      refine rd_leaf g.gh (TL.mono _ _ _ _ g.gg hr') ?_
      walk_at "rd"
      refine ⟨_, tru_bl, ?_⟩
      have lp := length_putK kvs (Sum.inl ((lf.2.1 / 2 : Nat) : Int))
      cases hs : lf.1 with
      | true =>
        rw [hs] at e
        walk_at "rd"
        refine ⟨_, dput (j := lf.2.1 / 2) ep (by omega), ?_⟩
        refine ⟨G', num + 1, M.putM m (lf.2.1 / 2) (num + 1), _, _, _, _, rfl, g.set hp0 gp, gp, upd_same, dput_val hm _ _, Nat.le_trans (length_putK _ _ _) (by omega), e⟩
      | false =>
        rw [hs] at e
        walk_at "rd"
        refine ⟨_, dput (j := lf.2.1 / 2) ep (by omega), ?_⟩
        refine ⟨G', num, M.putM m (lf.2.1 / 2) num, _, _, _, _, rfl, g.set hp0 gp, gp, upd_same, dput_val hm _ _, Nat.le_trans (length_putK _ _ _) (by omega), e⟩
    case after =>
      rintro σ H' ⟨G', num, m, kvs, x, y, z, rfl, g, gp, ep, hm, hk, e⟩
      walk_at "rd"
      rw [hp.length, List.drop_of_length_le (Nat.le_refl _)] at e
      refine k _ _ _ (g.fin hp0 gp ep) ?_
      rw [e]
      exact DM.of upd_same hm
noncomputable def sp_partners_of_leaves : Sp := fun vs H Q _ => ∃ (G : Hp) (v : V) (b : M.PBook), vs = [v] ∧ Same G H ∧ BK G v b ∧ b.length ≤ 1000 ∧ (∃ d, M.walk 0 b = some d) ∧ Ret G H DM (M.pmap b [] M.noneM) Q
noncomputable def I_partners_of_leaves (G H : Hp) (v : V) (p q : Addr) (b : M.PBook) (i : Nat) (σ : L2.St) (H' : Hp) : Prop :=
  ∃ (G' : Hp) (st : List Nat) (m : Nat → Option Nat) (kvs : List (Key × V)) (x y z u t : Option V), σ = [some v, some (.ref p), some (.ref q), x, y, z, u, t] ∧ Grow G H G' H' ∧ G' p = none ∧ H' p = some (.dK kvs) ∧ (∀ k : Nat, valV kvs (Sum.inl (k : Int)) = (m k).map iv) ∧ kvs.length ≤ 3 * i ∧
    G' q = none ∧ H' q = some (.lst (st.reverse.map iv)) ∧ st.length ≤ i ∧ (∃ d, M.walk st.length (b.drop i) = some d) ∧ M.pmap b [] M.noneM = M.pmap (b.drop i) st m
private theorem c_partners_of_leaves (D : Def K mg "partners_of_leaves" s_partners_of_leaves ["book"]) (T : Txt mg) : Cal P w K mg base 1 "partners_of_leaves" ["book"] sp_partners_of_leaves := by
  refine D.cal sc_partners_of_leaves (fun vs H Q E h => ?_) (fun f cdv A outer s H vs Q E hr h => ?_)
  · obtain ⟨G, v, b, rfl, _⟩ := h
    rfl
  · obtain ⟨G, v, b, rfl, sg, hv, hl, hwk, k⟩ := h
    obtain ⟨a, vs, rfl, ha, hp⟩ := hv
    have hu := hu_of hr
    refine ⟨_, (pss_cons (ps_set (i := 1) sc_partners_of_leaves.nd rfl (by first | exact Or.inl rfl | exact Or.inr rfl) pe_dnewK)
 (pss_cons (ps_set (i := 2) sc_partners_of_leaves.nd rfl (by first | exact Or.inl rfl | exact Or.inr rfl) (pe_lst pa_nil))
 (pss_cons (ps_for PassesOwn.never rfl (pi_list (pv 0)) (pgT (K := K) (n := 3) rfl rfl (pgs_cons (pg_name (i := 3) sc_partners_of_leaves.nd rfl (by first | exact Or.inl rfl | exact Or.inr rfl)) (pgs_cons (pg_name (i := 4) sc_partners_of_leaves.nd rfl (by first | exact Or.inl rfl | exact Or.inr rfl)) (pgs_cons (pg_name (i := 5) sc_partners_of_leaves.nd rfl (by first | exact Or.inl rfl | exact Or.inr rfl)) pgs_nil))))
 (pss_cons (ps_set (i := 6) sc_partners_of_leaves.nd rfl (by first | exact Or.inl rfl | exact Or.inr rfl) (pe_op op_fdiv (pv 4) pe_int))
 (pss_cons (ps_dput hu (pv 1) (pv 6) pe_int rfl)
 (pss_cons (ps_if (pt_cmpR op_eq (pv 5) (pe_gint rfl T.OPENS) (nomark _)) (pss_one (ps_expr (pe_bm PySem.F.plainAttrs_list PySem.F.slot_list_append PySem.F.type_list_append mt_append (pv 2) (pa_cons (pv 6) pa_nil)))) pss_nil)
 (pss_one (ps_if (pt_cmpR op_eq (pv 5) (pe_gint rfl T.CLOSES) (nomark _)) (pss_cons (ps_set (i := 7) sc_partners_of_leaves.nd rfl (by first | exact Or.inl rfl | exact Or.inr rfl) (pe_bm0 PySem.F.plainAttrs_list PySem.F.slot_list_pop PySem.F.type_list_pop mt_pop (pv 2)))
 (pss_cons (ps_dput hu (pv 1) (pv 6) (pv 7) rfl)
 (pss_one (ps_dput hu (pv 1) (pv 7) (pv 6) rfl)))) pss_nil))))))
 (pss_one (ps_ret (pv 1)))))), ?_⟩
    walk_at "rd"
    intro p hp0 q hq
    have hpq : p ≠ q := ne_of_none (upd_same (H := H) (a := p) (o := .dK [])) hq
    have hq0 : H q = none := by rw [upd_ne hpq.symm] at hq; exact hq
    have g1 := ((Grow.refl sg).open (o := .dK []) hp0).open (o := .lst []) hq
    refine ⟨_, rfl, a, rfl, ⟨_, SqL.of (g1.gh _ _ ha)⟩, for_list (K := K) (a := a) (xs := vs) (I_partners_of_leaves G H (.ref a) p q b) ?start ?stays ?turn ?after⟩
    case start => exact ⟨G, [], M.noneM, [], none, none, none, none, none, rfl, g1, sg.free hp0, by rw [upd_ne hpq, upd_same], fun k => rfl, Nat.le_refl _, sg.free hq0, upd_same, Nat.le_refl _, hwk, rfl⟩
    case stays =>
      rintro i σ H' hi ⟨G', st, m, kvs, x, y, z, u, t, _, g, _⟩
      exact SqL.of (g.gh _ _ (g.gg _ _ ha))
    case turn =>
      rintro i c σ H' hc ⟨G', st, m, kvs, x, y, z, u, t, rfl, g, gp, ep, hm, hk, gq, eq, hst, ⟨dw, hw⟩, e⟩
      obtain ⟨lf, hlf, hr'⟩ := pr_get hp hc
      have hil : i < b.length := (List.getElem?_eq_some_iff.mp hlf).1
      rw [M.drop_at hlf] at e hw
      rw [M.pmap] at e
      unfold M.walk at hw
      split at hw
      · cases hw
      refine rd_leaf g.gh (TL.mono _ _ _ _ g.gg hr') ?_
      walk_at "rd"
      have lp := fun v => length_putK kvs (Sum.inl ((lf.2.1 / 2 : Nat) : Int)) v
      have lp2 := fun (kvs : List (Key × V)) (j : Nat) v => length_putK kvs (Sum.inl (j : Int)) v
      refine ⟨_, dput (j := lf.2.1 / 2) ep (by omega), ?_⟩
      have g2 := g.set (o := .dK (putK kvs (Sum.inl ((lf.2.1 / 2 : Nat) : Int)) (V.int 0))) hp0 gp
      have hm2 : ∀ k : Nat, valV (putK kvs (Sum.inl ((lf.2.1 / 2 : Nat) : Int)) (V.int 0)) (Sum.inl (k : Int)) = (M.putM m (lf.2.1 / 2) 0 k).map iv := dput_val hm (lf.2.1 / 2) 0
      have eq2 : upd H' p (.dK (putK kvs (Sum.inl ((lf.2.1 / 2 : Nat) : Int)) (V.int 0))) q = some (.lst (st.reverse.map iv)) := by rw [upd_ne hpq.symm]; exact eq
      have l1 := lp (V.int 0)
      by_cases h40 : lf.2.2 = 40
      · rw [if_pos h40] at hw
        refine ite2 (fun h => ?_) (fun h => absurd h (by omega))
        refine rd_append eq2 (by rw [List.length_map, List.length_reverse]; omega) ?_
        refine ite2 (fun h => absurd h (by omega)) (fun h => ?_)
        refine ⟨G', lf.2.1 / 2 :: st, M.putM m (lf.2.1 / 2) 0, _, _, _, _, _, _, rfl, g2.set hq0 gq, gp, by rw [upd_ne hpq, upd_same], hm2, by omega, gq, ?_, by simp; omega, ⟨dw, hw⟩, ?_⟩
        · rw [upd_same]
          simp [iv]
        · rw [e]
          unfold M.pst M.pm1
          rw [if_pos h40, if_neg (by omega)]
      · rw [if_neg h40] at hw
        refine ite2 (fun h => absurd h (by omega)) (fun _ => ?_)
        by_cases h41 : lf.2.2 = 41
        · rw [if_pos h41] at hw
          refine ite2 (fun h => ?_) (fun h => absurd h (by omega))
          cases st with
          | nil => cases hw
          | cons pt st =>
            have eq3 : upd H' p (.dK (putK kvs (Sum.inl ((lf.2.1 / 2 : Nat) : Int)) (V.int 0))) q = some (.lst (st.reverse.map iv ++ [iv pt])) := by rw [eq2]; simp
            refine rd_pop eq3 ?_
            walk_at "rdiv"
            refine ⟨_, dput (j := lf.2.1 / 2) (by rw [upd_ne hpq, upd_same]) (by omega), ?_⟩
            refine ⟨_, dput (j := pt) upd_same (by have := lp2 (putK kvs (Sum.inl ((lf.2.1 / 2 : Nat) : Int)) (V.int 0)) (lf.2.1 / 2) (V.int (pt : Int)); omega), ?_⟩
            refine ⟨G', st, M.putM (M.putM (M.putM m (lf.2.1 / 2) 0) (lf.2.1 / 2) pt) pt (lf.2.1 / 2), _, _, _, _, _, _, rfl, ((g2.set hq0 gq).set hp0 gp).set hp0 gp, gp, upd_same, dput_val (dput_val hm2 _ _) _ _, ?_, gq, ?_, ?_, ⟨dw, hw⟩, ?_⟩
            · have a1 := lp2 (putK kvs (Sum.inl ((lf.2.1 / 2 : Nat) : Int)) (V.int 0)) (lf.2.1 / 2) (V.int (pt : Int))
              have a2 := lp2 (putK (putK kvs (Sum.inl ((lf.2.1 / 2 : Nat) : Int)) (V.int 0)) (Sum.inl ((lf.2.1 / 2 : Nat) : Int)) (V.int (pt : Int))) pt (V.int ((lf.2.1 : Int) / 2))
              simp only [iv] at *
              omega
            · rw [upd_ne hpq.symm, upd_ne hpq.symm, upd_same]
            · simp only [List.length_cons] at hst
              omega
            · rw [e]
              unfold M.pst M.pm1
              rw [if_neg h40, if_pos h41, if_pos h41]
              rfl
        · rw [if_neg h41] at hw
          refine ite2 (fun h => absurd h (by omega)) (fun _ => ?_)
          refine ⟨G', st, M.putM m (lf.2.1 / 2) 0, _, _, _, _, _, _, rfl, g2, gp, upd_same, hm2, by omega, gq, eq2, by omega, ⟨dw, hw⟩, ?_⟩
          rw [e]
          unfold M.pst M.pm1
          rw [if_neg h40, if_neg h41, if_neg h41]
    case after =>
      rintro σ H' ⟨G', st, m, kvs, x, y, z, u, t, rfl, g, gp, ep, hm, hk, gq, eq, hst, _, e⟩
      walk_at "rd"
      rw [hp.length, List.drop_of_length_le (Nat.le_refl _)] at e
      refine k _ _ _ (g.fin hp0 gp ep) ?_
      rw [e]
      exact DM.of upd_same hm
end
end R
end
section
def wordsOf2 : String := "L2.tSeq L2.tNext L2.tIfS L2.tRet L2.tAsg L2.gName L2.tDrop L2.tTest L2.tOp L2.tUn L2.tVar L2.tC L2.tCons L2.tNil L2.tLst L2.tTup L2.tBM L2.tBM0 L2.rEq L2.rNe L2.scal L2.tCall L2.tCB L2.rI0 L2.rI L2.rU L2.CDiv L2.CMul L2.tIf L2.tAnd L2.tOr L2.tIsN L2.tB L2.start List.map_cons List.map_nil List.length_cons List.length_nil List.replicate Nat.sub_self List.cons_append List.nil_append List.append_nil List.getElem?_cons_zero List.getElem?_cons_succ List.set_cons_zero List.set_cons_succ Option.some.injEq L2.V.int.injEq L2.V.ref.injEq L2.V.bl.injEq List.cons.injEq and_true true_and exists_eq_left exists_eq_left' exists_eq_right exists_eq_right' exists_and_left exists_const decide_eq_true_eq exists_and_right R.sz0 R.sz1 R.sz2 R.sz3 R.sz5 Int.reduceLT Int.reduceNeg Int.reducePow true_or or_true Bool.not_eq_true' decide_eq_false_iff_not L2.tSl L2.tPart L2.tNoPart L2.tYes L2.sDPut L2.tAndV L2.tOrV L2.wipe if_true if_false Bool.false_eq_true reduceIte eq_self and_self"
local macro_rules | `(tactic| walk_at "rd") => do
  let ids : Array (Lean.TSyntax `term) := ((wordsOf2).splitOn " ").toArray.map fun w => Lean.mkIdent w.toName
  `(tactic| simp only [$[$ids:term],*])
local macro_rules | `(tactic| walk_at "rdiv") => do
  let ids : Array (Lean.TSyntax `term) := ((wordsOf2 ++ " R.iv").splitOn " ").toArray.map fun w => Lean.mkIdent w.toName
  `(tactic| simp only [$[$ids:term],*])
local macro_rules | `(tactic| walk_at "re") => do
  let ids : Array (Lean.TSyntax `term) := ((wordsOf2 ++ " R.tFor_eq R.tLc_eq L2.iList L2.iTup L2.iRng1 L2.iRng2 L2.iRng3 L2.iRev R.tDGet_eq L2.tNotV L2.tNot").splitOn " ").toArray.map fun w => Lean.mkIdent w.toName
  `(tactic| simp only [$[$ids:term],*])
local macro_rules | `(tactic| walk_at "reiv") => do
  let ids : Array (Lean.TSyntax `term) := ((wordsOf2 ++ " R.tFor_eq R.tLc_eq L2.iList L2.iTup L2.iRng1 L2.iRng2 L2.iRng3 L2.iRev R.tDGet_eq L2.tNotV L2.tNot R.iv").splitOn " ").toArray.map fun w => Lean.mkIdent w.toName
  `(tactic| simp only [$[$ids:term],*])
set_option linter.all false
set_option Elab.async false
set_option maxRecDepth 100000
set_option maxHeartbeats 4000000
namespace R
open PySem PySem.Spec PyProof.Rows L2
private theorem rgc2 {m : Nat} (h1 : 1 ≤ m) (h : m ≤ 100000) : RgC 1 (((2 * m : Nat) : Int) - 1) 2 (m - 1) := by
  have e : Builtin.Range.rangeSize 1 (((2 * m : Nat) : Int) - 1) 2 = ((m - 1 : Nat) : Int) := by
    unfold Builtin.Range.rangeSize
    simp only [show (2 : Int) > 0 by decide, if_true]
    split <;> omega
  refine ⟨by decide, by decide, ?_, e⟩
  unfold Builtin.Range.small
  rw [e]
  simp only [Builtin.Range.rangeFitsLong, Bool.and_eq_true, Bool.or_eq_true, decide_eq_true_eq, beq_iff_eq, show (2 : Int) > 0 by decide, if_true]
  omega
section
variable {P : Program} {w : World} {K : PySem.W.Frag} {mg : Str → Option Value} {base : Heap}
noncomputable def sp_place_of : Sp := fun vs H Q _ => ∃ (G : Hp) (v : V) (sides : List Nat) (l : Nat), vs = [v, .int (l : Int)] ∧ Same G H ∧ LI G v sides ∧ 2 * l ∈ sides ∧ Ret G H NV (M.placeOf sides l) Q
private theorem c_place_of (D : Def K mg "place_of" s_place_of ["sides", "leaf"]) (T : Txt mg) : Cal P w K mg base 1 "place_of" ["sides", "leaf"] sp_place_of := by
  refine D.cal sc_place_of (fun vs H Q E h => ?_) (fun f cdv A outer s H vs Q E hr h => ?_)
  · obtain ⟨G, v, sides, l, rfl, _⟩ := h
    rfl
  · obtain ⟨G, v, sides, l, rfl, sg, hv, hl, k⟩ := h
    refine ⟨_, (pss_one (ps_ret (pe_op op_fdiv (pe_bm PySem.F.plainAttrs_list PySem.F.slot_list_index PySem.F.type_list_index mt_index (pv 0) (pa_cons (pe_op op_mul pe_int (pv 1)) pa_nil)) pe_int))), ?_⟩
    walk_at "rd"
    obtain ⟨t1, t2⟩ := rd_index (K := K) (Q := fun x H1 => ∃ i, x = V.int i ∧ Q (V.int (i / 2)) H1) sg hv hl ⟨_, rfl, k _ _ _ (Grow.refl sg) (by show V.int _ = V.int _; rfl)⟩
    refine ⟨t1, ?_⟩
    have e : (2 : Int) * (l : Int) = ((2 * l : Nat) : Int) := by omega
    rw [e]
    exact t2
noncomputable def sp_are_facing : Sp := fun vs H Q _ => ∃ (G : Hp) (v : V) (sides : List Nat) (a b : Nat), vs = [v, .int (a : Int), .int (b : Int)] ∧ Same G H ∧ LI G v sides ∧ a ∈ sides ∧ b ∈ sides ∧ Ret G H BV (M.areFacing sides a b) Q
private theorem c_are_facing (D : Def K mg "are_facing" s_are_facing ["sides", "one", "other"]) (T : Txt mg) : Cal P w K mg base 1 "are_facing" ["sides", "one", "other"] sp_are_facing := by
  refine D.cal sc_are_facing (fun vs H Q E h => ?_) (fun f cdv A outer s H vs Q E hr h => ?_)
  · obtain ⟨G, v, sides, a, b, rfl, _⟩ := h
    rfl
  · obtain ⟨G, v, sides, a, b, rfl, sg, hv, ha, hb, k⟩ := h
    refine ⟨_, (pss_cons (ps_set (i := 3) sc_are_facing.nd rfl (by first | exact Or.inl rfl | exact Or.inr rfl) (pe_callB cr_sorted rfl T.b_sorted boot_sorted (pa_cons (pe_lst (pa_cons (pe_bm PySem.F.plainAttrs_list PySem.F.slot_list_index PySem.F.type_list_index mt_index (pv 0) (pa_cons (pv 1) pa_nil)) (pa_cons (pe_bm PySem.F.plainAttrs_list PySem.F.slot_list_index PySem.F.type_list_index mt_index (pv 0) (pa_cons (pv 2) pa_nil)) pa_nil))) pa_nil)))
 (pss_one (ps_ret (pe_and (pe_cmpR op_eq (pe_op op_mod (pe_ix (ixL (K := K) rfl) (pv 3) pe_int (fun _ _ => rfl)) pe_int) pe_int (nomark _)) (pe_one (pe_cmpR op_eq (pe_ix (ixL (K := K) rfl) (pv 3) pe_int (fun _ _ => rfl)) (pe_op op_add (pe_ix (ixL (K := K) rfl) (pv 3) pe_int (fun _ _ => rfl)) pe_int) (nomark _))))))), ?_⟩
    walk_at "rd"
    refine rd_index sg hv ha (rd_index sg hv hb ?_)
    intro p hp
    have g1 := (Grow.refl sg).made (o := .lst [V.int (sides.idxOf a : Int), V.int (sides.idxOf b : Int)]) hp
    refine ⟨p, [(sides.idxOf a : Int), (sides.idxOf b : Int)], rfl, SqL.of upd_same, by simp, fun ns' q hperm hsort hq => ?_⟩
    have e := sort2 hperm hsort
    subst e
    have g2 := g1.made (o := .lst ([((min (sides.idxOf a) (sides.idxOf b) : Nat) : Int), ((max (sides.idxOf a) (sides.idxOf b) : Nat) : Int)].map V.int)) hq
    have hp2 : LI (upd (upd G p (.lst [V.int (sides.idxOf a : Int), V.int (sides.idxOf b : Int)])) q (.lst ([((min (sides.idxOf a) (sides.idxOf b) : Nat) : Int), ((max (sides.idxOf a) (sides.idxOf b) : Nat) : Int)].map V.int))) (.ref q) [min (sides.idxOf a) (sides.idxOf b), max (sides.idxOf a) (sides.idxOf b)] := LI.of upd_same
    walk_at "rd"
    refine rd_ix (i := 0) g2.gh hp2 rfl fun u hu => ?_
    cases hu
    have ef : M.areFacing sides a b = (decide (min (sides.idxOf a) (sides.idxOf b) % 2 = 1) && decide (max (sides.idxOf a) (sides.idxOf b) = min (sides.idxOf a) (sides.idxOf b) + 1)) := rfl
    generalize min (sides.idxOf a) (sides.idxOf b) = mi at *
    generalize max (sides.idxOf a) (sides.idxOf b) = ma at *
    walk_at "rd"
    refine ite2 (fun h => ?_) (fun h => k _ _ _ g2 ?_)
    · refine rd_ix (i := 1) g2.gh hp2 rfl fun u hu => rd_ix (i := 0) g2.gh hp2 rfl fun u' hu' => ?_
      cases hu
      cases hu'
      walk_at "rd"
      refine k _ _ _ g2 ?_
      show V.bl _ = V.bl _
      rw [ef, decide_eq_true (show mi % 2 = 1 by omega), Bool.true_and]
      congr 1
      rw [Bool.eq_iff_iff]
      simp
      omega
    · show V.bl _ = V.bl _
      rw [ef, decide_eq_false (show ¬ mi % 2 = 1 by omega), Bool.false_and]
noncomputable def sp_lie_in_a_row : Sp := fun vs H Q _ => ∃ (G : Hp) (v u : V) (sides leaves : List Nat), vs = [v, u] ∧ Same G H ∧ LI G v sides ∧ LI G u leaves ∧ (∀ l ∈ leaves, 2 * l ∈ sides) ∧ leaves ≠ [] ∧ leaves.length ≤ 1000 ∧ Ret G H BV (M.lieRow sides leaves) Q
private theorem c_lie_in_a_row (D : Def K mg "lie_in_a_row" s_lie_in_a_row ["sides", "leaves"]) (T : Txt mg) (c_place_of : Cal P w K mg base 1 "place_of" ["sides", "leaf"] sp_place_of) : Cal P w K mg base 2 "lie_in_a_row" ["sides", "leaves"] sp_lie_in_a_row := by
  refine D.cal sc_lie_in_a_row (fun vs H Q E h => ?_) (fun f cdv A outer s H vs Q E hr h => ?_)
  · obtain ⟨G, v, u, sides, leaves, rfl, _⟩ := h
    rfl
  · obtain ⟨G, v, u, sides, leaves, rfl, sg, hv, hu, hm, hne, hl, k⟩ := h
    refine ⟨_, (pss_cons (ps_setLc (i := 2) rfl sc_lie_in_a_row.nd rfl rfl (sw_true rfl rfl rfl (by decide +kernel)) (pi_list (pv 1)) (blkOk_by (own := [("leaf", 3)]) (by kernel_rfl)) (fun _ _ _ _ _ => (pg_name (i := 3) sc_lie_in_a_row.nd rfl (by first | exact Or.inl rfl | exact Or.inr rfl))) (fun _ _ _ _ _ => pts_nil) (fun _ _ _ _ _ => (pcl c_place_of hr (by decide) (pa_cons (pv 0) (pa_cons (pv 3) pa_nil)))))
 (pss_one (ps_ret (pe_cmpR op_eq (pe_op op_sub (pe_callB (cr_max rfl) rfl T.b_max boot_max (pa_cons (pv 2) pa_nil)) (pe_callB (cr_min rfl) rfl T.b_min boot_min (pa_cons (pv 2) pa_nil))) (pe_op op_sub (pe_callB (lenS (K := K) rfl) rfl T.b_len PySem.boot_len (pa_cons (pv 1) pa_nil)) pe_int) (nomark _))))), ?_⟩
    walk_at "rd"
    obtain ⟨a, rfl, ha⟩ := hu.at
    refine ⟨_, rfl, a, rfl, ⟨_, SqL.of (sg _ _ ha)⟩, fun D' hD => ?_⟩
    refine lc_map (K := K) NV.mono (F := M.placeOf sides) sg hu hD (by omega) (fun x y G' H' Qk hy g' hx kk => ?_) (fun G' H' g' hD' => ?_)
    · cases hx
      walk_at "rd"
      refine ⟨G', v, sides, y, rfl, g'.gh, LI.mono _ _ _ _ g'.gg hv, hm y hy, fun r G2 H2 g2 r2 => ?_⟩
      cases r2
      exact kk _ _ g2
    · obtain ⟨p, e, hp⟩ := hD'.at
      cases e
      have hne' : leaves.map (M.placeOf sides) ≠ [] := by
        intro e
        exact hne (List.map_eq_nil_iff.mp e)
      have hpos : 0 < ((leaves.map (M.placeOf sides)).map fun (n : Nat) => (n : Int)).length := by
        rw [List.length_map]
        exact List.length_pos_iff.mpr hne'
      have back : ∀ {m : Int}, m ∈ ((leaves.map (M.placeOf sides)).map fun (n : Nat) => (n : Int)) → ∃ n : Nat, m = (n : Int) ∧ n ∈ leaves.map (M.placeOf sides) := fun hm => by
        obtain ⟨n, hn, rfl⟩ := List.mem_map.mp hm
        exact ⟨n, rfl, hn⟩
      have sq : SqL K H' D' (((leaves.map (M.placeOf sides)).map fun (n : Nat) => (n : Int)).map V.int) := by rw [← map_iv]; exact SqL.of (g'.gh _ _ hp)
      refine ⟨D', _, rfl, sq, hpos, fun mx hmx hmx2 => ?_⟩
      obtain ⟨mx', rfl, hx1⟩ := back hmx
      have emx := M.maxL_is hx1 fun y hy => by have := hmx2 (y : Int) (List.mem_map.mpr ⟨y, hy, rfl⟩); omega
      refine ⟨D', _, rfl, sq, hpos, fun mn hmn hmn2 => ?_⟩
      obtain ⟨mn', rfl, hn1⟩ := back hmn
      have emn := M.minL_is hn1 fun y hy => by have := hmn2 (y : Int) (List.mem_map.mpr ⟨y, hy, rfl⟩); omega
      have hle : mn' ≤ mx' := by have := hmx2 (mn' : Int) hmn; omega
      walk_at "rd"
      refine rd_len g'.gh (LI.mono _ _ _ _ g'.gg hu) ?_
      walk_at "rd"
      refine k _ _ _ g' ?_
      show V.bl _ = V.bl _
      unfold M.lieRow
      rw [emx, emn]
      congr 1
      have : 0 < leaves.length := List.length_pos_iff.mpr hne
      rw [Bool.eq_iff_iff]
      simp
      omega
noncomputable def sp_marks_meet : Sp := fun vs H Q _ => ∃ (G : Hp) (v u : V) (sides marked : List Nat) (m : Nat), vs = [v, u] ∧ Same G H ∧ LI G v sides ∧ LI G u marked ∧ sides.length = 2 * m ∧ 1 ≤ m ∧ m ≤ 1000 ∧ Ret G H BV (M.marksMeet sides marked) Q
noncomputable def I_marks_meet (H : Hp) (v u : V) (sides marked : List Nat) (i : Nat) (σ : L2.St) (H' : Hp) : Prop :=
  ∃ (x : Option V), σ = [some v, some u, x] ∧ H' = H ∧ ∀ j, j < i → (marked.contains (sides.getD (2 * j + 1) 0) == marked.contains (sides.getD (2 * j + 2) 0)) = true
private theorem c_marks_meet (D : Def K mg "marks_meet" s_marks_meet ["sides", "marked"]) (T : Txt mg) : Cal P w K mg base 1 "marks_meet" ["sides", "marked"] sp_marks_meet := by
  refine D.cal sc_marks_meet (fun vs H Q E h => ?_) (fun f cdv A outer s H vs Q E hr h => ?_)
  · obtain ⟨G, v, u, sides, marked, m, rfl, _⟩ := h
    rfl
  · obtain ⟨G, v, u, sides, marked, m, rfl, sg, hv, hu, hl, h1, hm, k⟩ := h
    refine ⟨_, (pss_cons (ps_for PassesOwn.never rfl (pi_range3 rfl T.b_range (pa_cons pe_int (pa_cons (pe_op op_sub (pe_callB (lenS (K := K) rfl) rfl T.b_len PySem.boot_len (pa_cons (pv 0) pa_nil)) pe_int) (pa_cons pe_int pa_nil)))) (pg_name (i := 2) sc_marks_meet.nd rfl (by first | exact Or.inl rfl | exact Or.inr rfl))
 (pss_one (ps_if (pt_cmpR op_ne (pe_cmpR (opIn (K := K) rfl) (pe_ix (ixL (K := K) rfl) (pv 0) (pv 2) (fun _ _ => rfl)) (pv 1) (by with_unfolding_all rfl)) (pe_cmpR (opIn (K := K) rfl) (pe_ix (ixL (K := K) rfl) (pv 0) (pe_op op_add (pv 2) pe_int) (fun _ _ => rfl)) (pv 1) (by with_unfolding_all rfl)) (nomark _)) (pss_one (ps_ret pe_bl)) pss_nil)))
 (pss_one (ps_ret pe_bl))), ?_⟩
    walk_at "re"
    refine rd_len sg hv ?_
    walk_at "re"
    rw [hl]
    refine ⟨1, _, 2, ⟨rfl, rfl, rfl⟩, m - 1, rgc2 h1 (by omega), for_rangeC (n := m - 1) (I_marks_meet H v u sides marked) ?start ?turn ?after⟩
    case start => exact ⟨none, rfl, rfl, fun j hj => absurd hj (Nat.not_lt_zero _)⟩
    case turn =>
      rintro i σ H' hi ⟨x, rfl, rfl, hn⟩
      walk_at "rd"
      have e1 : (1 : Int) + (i : Int) * 2 = ((2 * i + 1 : Nat) : Int) := by omega
      have e2 : (1 : Int) + (i : Int) * 2 + 1 = ((2 * i + 2 : Nat) : Int) := by omega
      rw [e1]
      refine rd_ix (i := 2 * i + 1) sg hv (getD_at (d := 0) (by omega)) fun w1 hw1 => ?_
      cases hw1
      refine rd_in sg hu ?_
      rw [← e1, e2]
      refine rd_ix (i := 2 * i + 2) sg hv (getD_at (d := 0) (by omega)) fun w2 hw2 => ?_
      cases hw2
      refine rd_in sg hu ?_
      walk_at "rd"
      have ec : ∀ x, marked.contains x = decide (x ∈ marked) := fun x => by simp
      refine ite2 (fun h => k _ _ _ (Grow.refl sg) ?_) (fun h => ⟨_, rfl, rfl, fun j hj => ?_⟩)
      · show V.bl _ = V.bl _
        congr 1
        symm
        unfold M.marksMeet
        rw [List.all_eq_false]
        refine ⟨i, List.mem_range.mpr (by omega), ?_⟩
        rw [ec, ec]
        intro z
        exact h (eq_of_beq z)
      · by_cases e : j = i
        · subst e
          rw [ec, ec]
          have : decide (sides.getD (2 * j + 1) 0 ∈ marked) = decide (sides.getD (2 * j + 2) 0 ∈ marked) := by
            by_cases z : decide (sides.getD (2 * j + 1) 0 ∈ marked) = decide (sides.getD (2 * j + 2) 0 ∈ marked)
            · exact z
            · exact absurd z h
          rw [this]
          simp
        · exact hn j (by omega)
    case after =>
      rintro σ H' ⟨x, rfl, rfl, hn⟩
      walk_at "rd"
      refine k _ _ _ (Grow.refl sg) ?_
      show V.bl _ = V.bl _
      congr 1
      symm
      unfold M.marksMeet
      rw [List.all_eq_true]
      intro i hi
      rw [List.mem_range] at hi
      exact hn i (by omega)
end
end R
set_option linter.all false
set_option Elab.async false
set_option maxRecDepth 100000
set_option maxHeartbeats 4000000
namespace R
open PySem PySem.Spec PyProof.Rows L2
section
variable {P : Program} {w : World} {K : PySem.W.Frag} {mg : Str → Option Value} {base : Heap}
noncomputable def sp_holds : Sp := fun vs H Q _ => ∃ (G : Hp) (kd : Nat) (vp vs' vm vg : V) (parts sides : List Nat) (pm gm : Nat → Option Nat) (m : Nat), vs = [.int (kd : Int), vp, vs', vm, vg] ∧ Same G H ∧ LI G vp parts ∧ LI G vs' sides ∧ DM G vm pm ∧ DM G vg gm ∧
  sides.length = 2 * m ∧ 1 ≤ m ∧ m ≤ 1000 ∧ M.PartsOk kd parts sides pm gm ∧ Ret G H BV (M.holdsM kd parts sides pm gm) Q
noncomputable def J_holds (H : Hp) (σ0 : L2.St) (p : Prop) (σ : L2.St) (H' : Hp) : Prop := σ = σ0 ∧ H' = H ∧ ¬ p
private theorem c_holds (D : Def K mg "holds" s_holds ["kind", "parts", "sides", "partners", "gatherings"]) (T : Txt mg) (c_place_of : Cal P w K mg base 1 "place_of" ["sides", "leaf"] sp_place_of)
    (c_are_facing : Cal P w K mg base 1 "are_facing" ["sides", "one", "other"] sp_are_facing) (c_lie_in_a_row : Cal P w K mg base 2 "lie_in_a_row" ["sides", "leaves"] sp_lie_in_a_row)
    (c_marks_meet : Cal P w K mg base 1 "marks_meet" ["sides", "marked"] sp_marks_meet) : Cal P w K mg base 3 "holds" ["kind", "parts", "sides", "partners", "gatherings"] sp_holds := by
  refine D.cal sc_holds (fun vs H Q E h => ?_) (fun f cdv A outer s H vs Q E hr h => ?_)
  · obtain ⟨G, kd, vp, vs', vm, vg, parts, sides, pm, gm, m, rfl, _⟩ := h
    rfl
  · obtain ⟨G, kd, vp, vs', vm, vg, parts, sides, pm, gm, m, rfl, sg, hp, hs, hm, hg, hl, h1, h1000, hok, k⟩ := h
    have hu := hu_of hr
    refine ⟨_, (pss_cons (ps_if (pt_cmpR op_eq (pv 0) (pe_gint rfl T.NEXT_SIDE) (nomark _)) (pss_one (ps_ret (pe_cmpR op_eq (pe_bm PySem.F.plainAttrs_list PySem.F.slot_list_index PySem.F.type_list_index mt_index (pv 2) (pa_cons (pe_ix (ixL (K := K) rfl) (pv 1) pe_int (fun _ _ => rfl)) pa_nil)) (pe_op op_add (pe_bm PySem.F.plainAttrs_list PySem.F.slot_list_index PySem.F.type_list_index mt_index (pv 2) (pa_cons (pe_ix (ixL (K := K) rfl) (pv 1) pe_int (fun _ _ => rfl)) pa_nil)) pe_int) (nomark _)))) pss_nil)
 (pss_cons (ps_if (pt_cmpR op_eq (pv 0) (pe_gint rfl T.FACING) (nomark _)) (pss_one (ps_ret (pcl c_are_facing hr (by decide) (pa_cons (pv 2) (pa_cons (pe_ix (ixL (K := K) rfl) (pv 1) pe_int (fun _ _ => rfl)) (pa_cons (pe_ix (ixL (K := K) rfl) (pv 1) pe_int (fun _ _ => rfl)) pa_nil)))))) pss_nil)
 (pss_cons (ps_if (pt_cmpR op_eq (pv 0) (pe_gint rfl T.FRONT) (nomark _)) (pss_one (ps_ret (pe_cmpR op_eq (pe_op op_mod (pe_bm PySem.F.plainAttrs_list PySem.F.slot_list_index PySem.F.type_list_index mt_index (pv 2) (pa_cons (pe_ix (ixL (K := K) rfl) (pv 1) pe_int (fun _ _ => rfl)) pa_nil)) pe_int) pe_int (nomark _)))) pss_nil)
 (pss_cons (ps_if (pt_cmpR op_eq (pv 0) (pe_gint rfl T.PARTNERS) (nomark _)) (pss_one (ps_ret (pe_cmpR op_eq (pe_dget hu (pv 3) (pe_ix (ixL (K := K) rfl) (pv 1) pe_int (fun _ _ => rfl)) (fun _ _ => rfl)) (pe_ix (ixL (K := K) rfl) (pv 1) pe_int (fun _ _ => rfl)) (nomark _)))) pss_nil)
 (pss_cons (ps_if (pt_cmpR op_eq (pv 0) (pe_gint rfl T.BEFORE) (nomark _)) (pss_one (ps_ret (pe_cmpR op_lt (pcl c_place_of hr (by decide) (pa_cons (pv 2) (pa_cons (pe_ix (ixL (K := K) rfl) (pv 1) pe_int (fun _ _ => rfl)) pa_nil))) (pcl c_place_of hr (by decide) (pa_cons (pv 2) (pa_cons (pe_ix (ixL (K := K) rfl) (pv 1) pe_int (fun _ _ => rfl)) pa_nil))) (nomark _)))) pss_nil)
 (pss_cons (ps_if (pt_cmpR op_eq (pv 0) (pe_gint rfl T.TOGETHER) (nomark _)) (pss_one (ps_ret (pe_cmpR op_eq (pe_dget hu (pv 4) (pe_ix (ixL (K := K) rfl) (pv 1) pe_int (fun _ _ => rfl)) (fun _ _ => rfl)) (pe_dget hu (pv 4) (pe_ix (ixL (K := K) rfl) (pv 1) pe_int (fun _ _ => rfl)) (fun _ _ => rfl)) (nomark _)))) pss_nil)
 (pss_cons (ps_if (pt_cmpR op_eq (pv 0) (pe_gint rfl T.IN_A_ROW) (nomark _)) (pss_one (ps_ret (pcl c_lie_in_a_row hr (by decide) (pa_cons (pv 2) (pa_cons (pv 1) pa_nil))))) pss_nil)
 (pss_one (ps_ret (pcl c_marks_meet hr (by decide) (pa_cons (pv 2) (pa_cons (pv 1) pa_nil)))))))))))), ?_⟩
    have st : ∀ (p : Prop), (∀ (U : L2.St → Hp → Prop) (σ : L2.St), (∀ σ' H', J_holds H σ p σ' H' → U σ' H') → ¬ p → U σ H) := fun p U σ hU np => hU _ _ ⟨rfl, rfl, np⟩
    refine rd_two (J_holds H [some (V.int (kd : Int)), some vp, some vs', some vm, some vg] (kd = 62)) ?r1 (fun U hU => ?f1)
    case f1 =>
      walk_at "re"
      refine ite2 (fun h => ?_) (fun h => hU _ _ ⟨rfl, rfl, by omega⟩)
      have h : kd = 62 := by omega
      subst h
      obtain ⟨a, b, rfl, ha, hb⟩ := hok
      refine ⟨ty_LI sg hs, rd_ix (i := 1) sg hp rfl fun w1 e1 => ?_⟩
      cases e1
      refine rd_idx sg hs hb ?_
      refine ⟨ty_LI sg hs, rd_ix (i := 0) sg hp rfl fun w0 e0 => ?_⟩
      cases e0
      refine rd_idx sg hs ha ?_
      walk_at "re"
      refine k _ _ _ (Grow.refl sg) ?_
      show V.bl _ = V.bl _
      congr 1
      show _ = decide (sides.idxOf b = sides.idxOf a + 1)
      rw [Bool.eq_iff_iff]
      simp
      omega
    case r1 =>
    rintro σ H' ⟨rfl, rfl, n1⟩
    refine rd_two (J_holds H' [some (V.int (kd : Int)), some vp, some vs', some vm, some vg] (kd = 124)) ?r2 (fun U hU => ?f2)
    case f2 =>
      walk_at "re"
      refine ite2 (fun h => ?_) (fun h => hU _ _ ⟨rfl, rfl, by omega⟩)
      have h : kd = 124 := by omega
      subst h
      obtain ⟨a, b, rfl, ha, hb⟩ := hok
      refine rd_ix (i := 0) sg hp rfl fun w0 e0 => rd_ix (i := 1) sg hp rfl fun w1 e1 => ?_
      cases e0
      cases e1
      exact ⟨G, vs', sides, a, b, rfl, sg, hs, ha, hb, k⟩
    case r2 =>
    rintro σ H ⟨rfl, rfl, n2⟩
    refine rd_two (J_holds H [some (V.int (kd : Int)), some vp, some vs', some vm, some vg] (kd = 94)) ?r3 (fun U hU => ?f3)
    case f3 =>
      walk_at "re"
      refine ite2 (fun h => ?_) (fun h => hU _ _ ⟨rfl, rfl, by omega⟩)
      have h : kd = 94 := by omega
      subst h
      obtain ⟨a, rfl, ha⟩ := hok
      refine ⟨ty_LI sg hs, rd_ix (i := 0) sg hp rfl fun w0 e0 => ?_⟩
      cases e0
      refine rd_idx sg hs ha ?_
      walk_at "re"
      refine k _ _ _ (Grow.refl sg) ?_
      show V.bl _ = V.bl _
      congr 1
      show _ = decide (sides.idxOf a % 2 = 0)
      rw [Bool.eq_iff_iff]
      simp
      omega
    case r3 =>
    rintro σ H' ⟨rfl, rfl, n3⟩
    refine rd_two (J_holds H' [some (V.int (kd : Int)), some vp, some vs', some vm, some vg] (kd = 61)) ?r4 (fun U hU => ?f4)
    case f4 =>
      walk_at "re"
      refine ite2 (fun h => ?_) (fun h => hU _ _ ⟨rfl, rfl, by omega⟩)
      have h : kd = 61 := by omega
      subst h
      obtain ⟨a, b, x, rfl, ha⟩ := hok
      refine rd_ix (i := 0) sg hp rfl fun w0 e0 => ?_
      cases e0
      refine rd_dg sg hm ha ?_
      refine rd_ix (i := 1) sg hp rfl fun w1 e1 => ?_
      cases e1
      walk_at "re"
      refine k _ _ _ (Grow.refl sg) ?_
      show V.bl _ = V.bl _
      congr 1
      show _ = decide (pm a = some b)
      rw [ha, Bool.eq_iff_iff]
      simp
      omega
    case r4 =>
    rintro σ H ⟨rfl, rfl, n4⟩
    refine rd_two (J_holds H [some (V.int (kd : Int)), some vp, some vs', some vm, some vg] (kd = 60)) ?r5 (fun U hU => ?f5)
    case f5 =>
      walk_at "re"
      refine ite2 (fun h => ?_) (fun h => hU _ _ ⟨rfl, rfl, by omega⟩)
      have h : kd = 60 := by omega
      subst h
      obtain ⟨a, b, rfl, ha, hb⟩ := hok
      refine rd_ix (i := 0) sg hp rfl fun w0 e0 => ?_
      cases e0
      refine ⟨G, vs', sides, a, rfl, sg, hs, ha, fun r G1 H1 g1 r1 => ?_⟩
      cases r1
      refine rd_ix (i := 1) g1.gh (LI.mono _ _ _ _ g1.gg hp) rfl fun w1 e1 => ?_
      cases e1
      refine ⟨G1, vs', sides, b, rfl, g1.gh, LI.mono _ _ _ _ g1.gg hs, hb, fun r G2 H2 g2 r2 => ?_⟩
      cases r2
      walk_at "re"
      refine k _ _ _ (g1.trans g2) ?_
      show V.bl _ = V.bl _
      congr 1
      show _ = decide (M.placeOf sides a < M.placeOf sides b)
      rw [Bool.eq_iff_iff]
      simp
    case r5 =>
    rintro σ H' ⟨rfl, rfl, n5⟩
    refine rd_two (J_holds H' [some (V.int (kd : Int)), some vp, some vs', some vm, some vg] (kd = 126)) ?r6 (fun U hU => ?f6)
    case f6 =>
      walk_at "re"
      refine ite2 (fun h => ?_) (fun h => hU _ _ ⟨rfl, rfl, by omega⟩)
      have h : kd = 126 := by omega
      subst h
      obtain ⟨a, b, x, y, rfl, ha, hb⟩ := hok
      refine rd_ix (i := 0) sg hp rfl fun w0 e0 => ?_
      cases e0
      refine rd_dg sg hg ha ?_
      refine rd_ix (i := 1) sg hp rfl fun w1 e1 => ?_
      cases e1
      refine rd_dg sg hg hb ?_
      walk_at "re"
      refine k _ _ _ (Grow.refl sg) ?_
      show V.bl _ = V.bl _
      congr 1
      show _ = decide (gm a = gm b)
      rw [ha, hb, Bool.eq_iff_iff]
      simp
      omega
    case r6 =>
    rintro σ H ⟨rfl, rfl, n6⟩
    walk_at "re"
    refine ite2 (fun h => ?_) (fun h => ?_)
    · have h : kd = 111 := by omega
      subst h
      obtain ⟨h1, h2, h3⟩ := hok
      exact ⟨G, vs', vp, sides, parts, rfl, sg, hs, hp, h3, h1, h2, k⟩
    · refine ⟨G, vs', vp, sides, parts, m, rfl, sg, hs, hp, hl, h1, h1000, ?_⟩
      have e : M.holdsM kd parts sides pm gm = M.marksMeet sides parts := by
        unfold M.holdsM
        rw [if_neg n1, if_neg n2, if_neg n3, if_neg n4, if_neg n5, if_neg n6, if_neg (by omega)]
      rw [← e]
      exact k
end
end R
set_option linter.all false
set_option Elab.async false
set_option maxRecDepth 100000
set_option maxHeartbeats 4000000
namespace R
open PySem PySem.Spec PyProof.Rows L2
section
variable {P : Program} {w : World} {K : PySem.W.Frag} {mg : Str → Option Value} {base : Heap}
noncomputable def holdsF (b : M.PBook) (f : M.MF) : Bool := M.holdsM f.2.1 f.2.2 (M.sidesIn b) (M.pmap b [] M.noneM) (M.gmap b 0 M.noneM) == f.1
noncomputable def sp_agrees : Sp := fun vs H Q _ => ∃ (G : Hp) (vb vf : V) (n : Nat) (b : M.PBook) (fs : List M.MF), vs = [vb, vf] ∧ Same G H ∧ BK G vb b ∧ LS FD G vf fs ∧ M.Whole n b ∧ 1 ≤ n ∧ n ≤ 4 ∧ (∀ f ∈ fs, M.FOk n f) ∧ Ret G H BV (M.agreesM b fs) Q
noncomputable def I_agrees (G H G3 : Hp) (vb vf vs vm vg : V) (b : M.PBook) (fs : List M.MF) (i : Nat) (σ : L2.St) (H' : Hp) : Prop :=
  ∃ (G' : Hp) (x y z : Option V), σ = [some vb, some vf, some vs, some vm, some vg, x, y, z] ∧ Grow G H G' H' ∧ Same G3 G' ∧ ∀ f ∈ fs.take i, holdsF b f = true
private theorem c_agrees (D : Def K mg "agrees" s_agrees ["book", "findings"]) (T : Txt mg) (c_sides_in_order : Cal P w K mg base 1 "sides_in_order" ["book"] sp_sides_in_order)
    (c_partners_of_leaves : Cal P w K mg base 1 "partners_of_leaves" ["book"] sp_partners_of_leaves) (c_gatherings_of_leaves : Cal P w K mg base 1 "gatherings_of_leaves" ["book"] sp_gatherings_of_leaves)
    (c_holds : Cal P w K mg base 3 "holds" ["kind", "parts", "sides", "partners", "gatherings"] sp_holds) : Cal P w K mg base 4 "agrees" ["book", "findings"] sp_agrees := by
  refine D.cal sc_agrees (fun vs H Q E h => ?_) (fun f cdv A outer s H vs Q E hr h => ?_)
  · obtain ⟨G, vb, vf, n, b, fs, rfl, _⟩ := h
    rfl
  · obtain ⟨G, vb, vf, n, b, fs, rfl, sg, hb, hf, wh, h1, h4, hok, k⟩ := h
    have hlen := wh.len
    refine ⟨_, (pss_cons (ps_set (i := 2) sc_agrees.nd rfl (by first | exact Or.inl rfl | exact Or.inr rfl) (pcl c_sides_in_order hr (by decide) (pa_cons (pv 0) pa_nil)))
 (pss_cons (ps_set (i := 3) sc_agrees.nd rfl (by first | exact Or.inl rfl | exact Or.inr rfl) (pcl c_partners_of_leaves hr (by decide) (pa_cons (pv 0) pa_nil)))
 (pss_cons (ps_set (i := 4) sc_agrees.nd rfl (by first | exact Or.inl rfl | exact Or.inr rfl) (pcl c_gatherings_of_leaves hr (by decide) (pa_cons (pv 0) pa_nil)))
 (pss_cons (ps_for PassesOwn.never rfl (pi_list (pv 1)) (pgT (K := K) (n := 3) rfl rfl (pgs_cons (pg_name (i := 5) sc_agrees.nd rfl (by first | exact Or.inl rfl | exact Or.inr rfl)) (pgs_cons (pg_name (i := 6) sc_agrees.nd rfl (by first | exact Or.inl rfl | exact Or.inr rfl)) (pgs_cons (pg_name (i := 7) sc_agrees.nd rfl (by first | exact Or.inl rfl | exact Or.inr rfl)) pgs_nil))))
 (pss_one (ps_if (pt_cmpR op_ne (pcl c_holds hr (by decide) (pa_cons (pv 6) (pa_cons (pv 7) (pa_cons (pv 2) (pa_cons (pv 3) (pa_cons (pv 4) pa_nil)))))) (pv 5) (nomark _)) (pss_one (ps_ret pe_bl)) pss_nil)))
 (pss_one (ps_ret pe_bl)))))), ?_⟩
    walk_at "re"
    refine ⟨G, vb, b, rfl, sg, hb, by omega, fun vs G1 H1 g1 r1 => ?_⟩
    refine ⟨G1, vb, b, rfl, g1.gh, BK.mono _ _ _ _ g1.gg hb, by omega, ⟨_, wh.pre.walk⟩, fun vm G2 H2 g2 r2 => ?_⟩
    refine ⟨G2, vb, b, rfl, g2.gh, BK.mono _ _ _ _ (g1.gg.trans g2.gg) hb, by omega, fun vg G3 H3 g3 r3 => ?_⟩
    have g := (g1.trans g2).trans g3
    have hs := LI.mono _ _ _ _ (g2.gg.trans g3.gg) r1
    have hm := DM.mono _ _ _ _ g3.gg r2
    refine rd_forL g.gh (LS.mono FD.mono _ _ _ _ g.gg hf) fun a ws e ha hp => ?_
    subst e
    refine for_list (K := K) (a := a) (xs := ws) (I_agrees G H G3 vb (.ref a) vs vm vg b fs) ?start ?stays ?turn ?after
    case start => exact ⟨G3, none, none, none, rfl, g, Same.refl _, fun f hf => by simp at hf⟩
    case stays =>
      rintro i σ H' hi ⟨G', x, y, z, _, gr, sm, _⟩
      exact SqL.of (gr.gh _ _ (sm _ _ ha))
    case turn =>
      rintro i c σ H' hc ⟨G', x, y, z, rfl, gr, sm, hn⟩
      obtain ⟨fd, hfd, hr'⟩ := pr_get hp hc
      have hmem : fd ∈ fs := List.mem_of_getElem? hfd
      refine rd_fd gr.gh (FD.mono _ _ _ _ sm hr') fun u hu => ?_
      walk_at "re"
      refine ⟨G', fd.2.1, u, vs, vm, vg, fd.2.2, M.sidesIn b, _, _, b.length, rfl, gr.gh, hu, LI.mono _ _ _ _ sm hs, DM.mono _ _ _ _ sm hm, DM.mono _ _ _ _ sm r3, M.sidesIn_len b, by omega, by omega, M.parts_ok wh h4 (hok fd hmem), fun r G4 H4 g4 r4 => ?_⟩
      cases r4
      walk_at "re"
      have hF : holdsF b fd = (M.holdsM fd.2.1 fd.2.2 (M.sidesIn b) (M.pmap b [] M.noneM) (M.gmap b 0 M.noneM) == fd.1) := rfl
      refine ite2 (fun h => k _ _ _ (gr.trans g4) ?_) (fun h => ⟨G4, _, _, _, rfl, gr.trans g4, sm.trans g4.gg, fun f' hf' => ?_⟩)
      · show V.bl _ = V.bl _
        congr 1
        symm
        unfold M.agreesM
        rw [List.all_eq_false]
        refine ⟨fd, hmem, fun z => h (eq_of_beq z)⟩
      · rw [List.take_add_one, hfd] at hf'
        rcases List.mem_append.mp hf' with z | z
        · exact hn f' z
        · have : f' = fd := by simpa using z
          subst this
          rw [hF]
          by_cases z : M.holdsM f'.2.1 f'.2.2 (M.sidesIn b) (M.pmap b [] M.noneM) (M.gmap b 0 M.noneM) = f'.1
          · rw [z]; simp
          · exact absurd z h
    case after =>
      rintro σ H' ⟨G', x, y, z, rfl, gr, sm, hn⟩
      walk_at "re"
      refine k _ _ _ gr ?_
      show V.bl _ = V.bl _
      congr 1
      symm
      unfold M.agreesM
      rw [List.all_eq_true]
      intro f' hf'
      rw [hp.length, List.take_of_length_le (Nat.le_refl _)] at hn
      exact hn f' hf'
end
end R
set_option linter.all false
set_option Elab.async false
set_option maxRecDepth 100000
set_option maxHeartbeats 4000000
namespace R
open PySem PySem.Spec PyProof.Rows L2
section
variable {P : Program} {w : World} {K : PySem.W.Frag} {mg : Str → Option Value} {base : Heap}
noncomputable def sp_free_fronts : Sp := fun vs H Q _ => ∃ (G : Hp) (n : Nat) (vb : V) (b : M.PBook), vs = [.int (n : Int), vb] ∧ Same G H ∧ BK G vb b ∧ b.length ≤ 1000 ∧ 1 ≤ n ∧ n ≤ 4 ∧ Ret G H LI (M.freeFronts n b) Q
private theorem fmap_some {α β : Type} (f : α → β) (l : List α) : l.filterMap (fun x => some (f x)) = l.map f := by
  induction l with
  | nil => rfl
  | cons x r ih => simp [ih]
private theorem c_free_fronts (D : Def K mg "free_fronts" s_free_fronts ["n", "book"]) (T : Txt mg) : Cal P w K mg base 1 "free_fronts" ["n", "book"] sp_free_fronts := by
  refine D.cal sc_free_fronts (fun vs H Q E h => ?_) (fun f cdv A outer s H vs Q E hr h => ?_)
  · obtain ⟨G, n, vb, b, rfl, _⟩ := h
    rfl
  · obtain ⟨G, n, vb, b, rfl, sg, hb, hl, h1, h4, k⟩ := h
    refine ⟨_, (pss_cons (ps_set (i := 2) sc_free_fronts.nd rfl (by first | exact Or.inl rfl | exact Or.inr rfl) (pe_lc rfl sc_free_fronts.nd (pi_list (pv 1)) (blkOk_by (own := [("starts", 4), ("front", 5), ("sign", 6)]) (by kernel_rfl)) (fun _ _ _ _ _ => (pgT (K := K) (n := 3) rfl rfl (pgs_cons (pg_name (i := 4) sc_free_fronts.nd rfl (by first | exact Or.inl rfl | exact Or.inr rfl)) (pgs_cons (pg_name (i := 5) sc_free_fronts.nd rfl (by first | exact Or.inl rfl | exact Or.inr rfl)) (pgs_cons (pg_name (i := 6) sc_free_fronts.nd rfl (by first | exact Or.inl rfl | exact Or.inr rfl)) pgs_nil))))) (fun _ _ _ _ _ => pts_nil) (fun _ _ _ _ _ => (pe_op op_fdiv (pv 5) pe_int))))
 (pss_cons (ps_set (i := 3) sc_free_fronts.nd rfl (by first | exact Or.inl rfl | exact Or.inr rfl) (pe_op op_cat (pe_callTy (callListR rfl) rfl T.b_list boot_list (pa_cons (pe_callTy callRange rfl T.b_range boot_range (pa_cons pe_int (pa_cons (pe_op op_add (pe_op op_mul pe_int (pv 0)) pe_int) pa_nil))) pa_nil)) (pe_callTy (callListR rfl) rfl T.b_list boot_list (pa_cons (pe_callTy callRange rfl T.b_range boot_range (pa_cons pe_int (pa_cons (pe_op op_add (pe_op op_mul pe_int (pe_callB (callMin2 rfl) rfl T.b_min boot_min (pa_cons (pv 0) (pa_cons pe_int pa_nil)))) pe_int) pa_nil))) pa_nil))))
 (pss_one (ps_ret (pe_lc rfl sc_free_fronts.nd (pi_list (pv 3)) (blkOk_by (own := [("side", 7)]) (by kernel_rfl)) (fun _ _ _ _ _ => (pg_name (i := 7) sc_free_fronts.nd rfl (by first | exact Or.inl rfl | exact Or.inr rfl))) (fun _ _ _ _ _ => (pts_one (pt_cmpR (opNotIn (K := K) rfl) (pe_op op_fdiv (pv 7) pe_int) (pv 2) (by with_unfolding_all rfl)))) (fun _ _ _ _ _ => (pv 7))))))), ?_⟩
    walk_at "re"
    refine rd_lcL sg hb fun a ha => lc_fm TL.mono NV.mono (o := fun x => some (x.2.1 / 2)) sg ha (by omega) (fun x y G' H' Nx Qk hy g' hx ks kn => ?_) (fun D' G1 H1 g1 hD => ?_)
    · refine rd_leaf g'.gh hx ?_
      walk_at "re"
      refine ks _ rfl _ G' H' (Grow.refl g'.gh) ?_
      show V.int _ = V.int _
      congr 1
    · rw [fmap_some] at hD
      have eu : b.map (fun x => x.2.1 / 2) = M.used b := rfl
      rw [eu] at hD
      have e1 : (20 : Int) = ((20 : Nat) : Int) := rfl
      have e2 : (2 : Int) * (n : Int) + 2 = ((2 * n + 2 : Nat) : Int) := by omega
      rw [e1, e2]
      refine rd_listRange (a := 20) (b := 2 * n + 2) g1 (by omega) (by omega) fun p2 G2 H2 g2 g2' hp2 => ?_
      refine ⟨_, _, rfl, ?_⟩
      rw [show (if (9 : Int) < (n : Int) then 9 else (n : Int)) = (n : Int) from if_neg (by omega)]
      walk_at "re"
      have e3 : (2 : Int) * (n : Int) + 2 = ((2 * n + 2 : Nat) : Int) := by omega
      rw [show (2 : Int) * (n : Int) + 2 = ((2 * n + 2 : Nat) : Int) from e3]
      refine rd_listRange (a := 2) (b := 2 * n + 2) g2 (by omega) (by omega) fun p3 G3 H3 g3 g3' hp3 => ?_
      have z : (List.range (2 * n + 2 - 20)).map (· + 20) = [] := by
        rw [show 2 * n + 2 - 20 = 0 by omega]
        rfl
      rw [z] at hp2
      rw [show 2 * n + 2 - 2 = 2 * n by omega] at hp3
      refine rd_cat g3.gh (LI.mono _ _ _ _ g3'.gg hp2) hp3 (by simp; omega) fun p4 hp4 => ?_
      have g4 := g3.made (o := .lst (([] ++ (List.range (2 * n)).map (· + 2)).map iv)) hp4
      have h4' : LI (upd G3 p4 (.lst (([] ++ (List.range (2 * n)).map (· + 2)).map iv))) (.ref p4) ((List.range (2 * n)).map (· + 2)) := LI.of (by rw [upd_same]; rfl)
      have hD4 := LI.mono _ _ _ _ (Same.trans (Same.trans g2'.gg g3'.gg) (Same.upd_none (o := .lst (([] ++ (List.range (2 * n)).map (· + 2)).map iv)) (g3.gh.free hp4))) hD
      generalize upd G3 p4 (.lst (([] ++ (List.range (2 * n)).map (· + 2)).map iv)) = G4 at g4 h4' hD4
      generalize upd H3 p4 (.lst (([] ++ (List.range (2 * n)).map (· + 2)).map iv)) = H4 at g4
      walk_at "re"
      refine ⟨h4'.sq g4.gh, lc_fm NV.mono NV.mono (o := fun s => if (!(M.used b).contains (s / 2)) = true then some s else none) g4.gh h4' (by simp; omega) (fun x y G' H' Nx Qk hy g' hx ks kn => ?_) (fun D'' G5 H5 g5 hD5 => ?_)⟩
      · cases hx
        walk_at "re"
        have e5 : (y : Int) / 2 = ((y / 2 : Nat) : Int) := by omega
        rw [e5]
        refine rd_notin g'.gh (LI.mono _ _ _ _ g'.gg hD4) ?_
        walk_at "re"
        refine ite2 (fun h => ks y ?_ _ _ _ (Grow.refl g'.gh) rfl) (fun h => kn ?_ _ _ (Grow.refl g'.gh))
        · rw [if_pos]
          simpa using h
        · rw [if_neg]
          simpa using h
      · refine k _ _ _ (g4.trans g5) ?_
        have ef : M.freeFronts n b = ((List.range (2 * n)).map (· + 2)).filterMap (fun s => if (!(M.used b).contains (s / 2)) = true then some s else none) := by
          unfold M.freeFronts
          rw [← List.filterMap_eq_filter]
          rfl
        rw [ef]
        exact hD5
end
end R
set_option linter.all false
set_option Elab.async false
set_option maxRecDepth 100000
set_option maxHeartbeats 4000000
namespace R
open PySem PySem.Spec PyProof.Rows L2
section
variable {P : Program} {w : World} {K : PySem.W.Frag} {mg : Str → Option Value} {base : Heap}
noncomputable def sp_next_ways : Sp := fun vs H Q _ => ∃ (G : Hp) (n : Nat) (vb : V) (b : M.PBook), vs = [.int (n : Int), vb] ∧ Same G H ∧ BK G vb b ∧ M.Pre n b ∧ 1 ≤ n ∧ n ≤ 4 ∧ Ret G H (LS WY) (M.nextWays n b) Q
noncomputable def opOf (n : Nat) (b : M.PBook) : List Nat := if M.depth b + 2 ≤ n - b.length then [40] else []
noncomputable def alOf (n : Nat) (b : M.PBook) : List Nat := if M.depth b + 1 ≤ n - b.length then [124] else []
noncomputable def clOf (b : M.PBook) : List Nat := if 0 < M.depth b then [41] else []
noncomputable def S_ways (G H : Hp) (n : Nat) (vb : V) (b : M.PBook) (o a c : Bool) (ws : Option (List (Bool × List Nat))) (σ : L2.St) (H' : Hp) : Prop :=
  ∃ (G' : Hp) (sv vo va vc : V) (q : Addr) (pvs : List V), σ = [some (.int (n : Int)), some vb, some sv, some (.int (M.depth b : Int)), some (.int ((n - b.length : Nat) : Int)), if o = true then some vo else none, if a = true then some va else none, if c = true then some vc else none, if ws.isSome = true then some (.ref q) else none, none, none, none] ∧
    Grow G H G' H' ∧ (o = true → LI G' vo (opOf n b)) ∧ (a = true → LI G' va (alOf n b)) ∧ (c = true → LI G' vc (clOf b)) ∧ (∀ l, ws = some l → H q = none ∧ G' q = none ∧ H' q = some (.lst pvs) ∧ Paired (WY G') pvs l ∧ l.length ≤ 4)
noncomputable def S2_ways (G H : Hp) (n : Nat) (vb : V) (b : M.PBook) (q : Addr) (l : List (Bool × List Nat)) (σ : L2.St) (H' : Hp) : Prop :=
  ∃ (G' : Hp) (sv vo va vc : V) (pvs : List V), σ = [some (.int (n : Int)), some vb, some sv, some (.int (M.depth b : Int)), some (.int ((n - b.length : Nat) : Int)), some vo, some va, some vc, some (.ref q), none, none, none] ∧
    Grow G H G' H' ∧ LI G' vo (opOf n b) ∧ LI G' va (alOf n b) ∧ LI G' vc (clOf b) ∧ G' q = none ∧ H' q = some (.lst pvs) ∧ Paired (WY G') pvs l
private theorem c_next_ways (D : Def K mg "next_ways" s_next_ways ["n", "book"]) (T : Txt mg) : Cal P w K mg base 1 "next_ways" ["n", "book"] sp_next_ways := by
  refine D.cal sc_next_ways (fun vs H Q E h => ?_) (fun f cdv A outer s H vs Q E hr h => ?_)
  · obtain ⟨G, n, vb, b, rfl, _⟩ := h
    rfl
  · obtain ⟨G, n, vb, b, rfl, sg, hb, pre, h1, h4, k⟩ := h
    have hlen := pre.len
    refine ⟨_, (pss_cons (ps_setLc (i := 2) rfl sc_next_ways.nd rfl rfl (sw_true rfl rfl rfl (by decide +kernel)) (pi_list (pv 1)) (blkOk_by (own := [("starts", 9), ("front", 10), ("sign", 11)]) (by kernel_rfl)) (fun _ _ _ _ _ => (pgT (K := K) (n := 3) rfl rfl (pgs_cons (pg_name (i := 9) sc_next_ways.nd rfl (by first | exact Or.inl rfl | exact Or.inr rfl)) (pgs_cons (pg_name (i := 10) sc_next_ways.nd rfl (by first | exact Or.inl rfl | exact Or.inr rfl)) (pgs_cons (pg_name (i := 11) sc_next_ways.nd rfl (by first | exact Or.inl rfl | exact Or.inr rfl)) pgs_nil))))) (fun _ _ _ _ _ => pts_nil) (fun _ _ _ _ _ => (pv 11)))
 (pss_cons (ps_set (i := 3) sc_next_ways.nd rfl (by first | exact Or.inl rfl | exact Or.inr rfl) (pe_op op_sub (pe_bm PySem.F.plainAttrs_list PySem.F.slot_list_count PySem.F.type_list_count mtCount (pv 2) (pa_cons (pe_gint rfl T.OPENS) pa_nil)) (pe_bm PySem.F.plainAttrs_list PySem.F.slot_list_count PySem.F.type_list_count mtCount (pv 2) (pa_cons (pe_gint rfl T.CLOSES) pa_nil))))
 (pss_cons (ps_set (i := 4) sc_next_ways.nd rfl (by first | exact Or.inl rfl | exact Or.inr rfl) (pe_op op_sub (pv 0) (pe_callB (lenS (K := K) rfl) rfl T.b_len PySem.boot_len (pa_cons (pv 1) pa_nil))))
 (pss_cons (ps_set (i := 5) sc_next_ways.nd rfl (by first | exact Or.inl rfl | exact Or.inr rfl) (pe_ifExp (pt_cmpR op_le (pe_op op_add (pv 3) pe_int) (pv 4) (nomark _)) (pe_lst (pa_cons (pe_gint rfl T.OPENS) pa_nil)) (pe_lst pa_nil)))
 (pss_cons (ps_set (i := 6) sc_next_ways.nd rfl (by first | exact Or.inl rfl | exact Or.inr rfl) (pe_ifExp (pt_cmpR op_le (pe_op op_add (pv 3) pe_int) (pv 4) (nomark _)) (pe_lst (pa_cons (pe_gint rfl T.ALONE) pa_nil)) (pe_lst pa_nil)))
 (pss_cons (ps_set (i := 7) sc_next_ways.nd rfl (by first | exact Or.inl rfl | exact Or.inr rfl) (pe_ifExp (pt_cmpR op_gt (pv 3) pe_int (nomark _)) (pe_lst (pa_cons (pe_gint rfl T.CLOSES) pa_nil)) (pe_lst pa_nil)))
 (pss_cons (ps_set (i := 8) sc_next_ways.nd rfl (by first | exact Or.inl rfl | exact Or.inr rfl) (pe_lst pa_nil))
 (pss_cons (ps_if (pt_cmpR (opNeD (K := K) rfl hr.units) (pv 1) (pe_lst pa_nil) (nomark _)) (pss_one (ps_expr (pe_bm PySem.F.plainAttrs_list PySem.F.slot_list_append PySem.F.type_list_append mt_append (pv 8) (pa_cons (pe_tup (pa_cons pe_bl (pa_cons (pv 5) pa_nil))) pa_nil)))) pss_nil)
 (pss_cons (ps_if (pt_cmpR op_eq (pv 3) pe_int (nomark _)) (pss_cons (ps_expr (pe_bm PySem.F.plainAttrs_list PySem.F.slot_list_append PySem.F.type_list_append mt_append (pv 8) (pa_cons (pe_tup (pa_cons pe_bl (pa_cons (pv 5) pa_nil))) pa_nil)))
 (pss_one (ps_expr (pe_bm PySem.F.plainAttrs_list PySem.F.slot_list_append PySem.F.type_list_append mt_append (pv 8) (pa_cons (pe_tup (pa_cons pe_bl (pa_cons (pv 6) pa_nil))) pa_nil))))) pss_nil)
 (pss_cons (ps_if (pt_cmpR (opNeD (K := K) rfl hr.units) (pv 1) (pe_lst pa_nil) (nomark _)) (pss_one (ps_expr (pe_bm PySem.F.plainAttrs_list PySem.F.slot_list_append PySem.F.type_list_append mt_append (pv 8) (pa_cons (pe_tup (pa_cons pe_bl (pa_cons (pe_op op_cat (pv 6) (pv 7)) pa_nil))) pa_nil)))) pss_nil)
 (pss_one (ps_ret (pv 8))))))))))))), ?_⟩
    -- signs
    refine rd_two (fun σ H' => ∃ (G' : Hp) (sv : V), σ = [some (.int (n : Int)), some vb, some sv, none, none, none, none, none, none, none, none, none] ∧ Grow G H G' H' ∧ LI G' sv (M.signsOf b)) ?r1 (fun U hU => ?f1)
    case f1 =>
      walk_at "re"
      refine rd_lcL sg hb fun a ha => lc_fm TL.mono NV.mono (o := fun x => some x.2.2) sg ha (by omega) (fun x y G' H' Nx Qk hy g' hx ks kn => ?_) (fun D' G1 H1 g1 hD => ?_)
      · refine rd_leaf g'.gh hx ?_
        walk_at "re"
        exact ks _ rfl _ G' H' (Grow.refl g'.gh) rfl
      · rw [fmap_some] at hD
        exact hU _ _ ⟨G1, _, rfl, g1, hD⟩
    case r1 =>
    rintro σ H1 ⟨G1, sv, rfl, g1, hsv⟩
    -- depth
    refine rd_two (fun σ H' => σ = [some (.int (n : Int)), some vb, some sv, some (.int (M.depth b : Int)), none, none, none, none, none, none, none, none] ∧ H' = H1) ?r2 (fun U hU => ?f2)
    case f2 =>
      walk_at "re"
      refine rd_count (x := 40) g1.gh hsv (rd_count (x := 41) g1.gh hsv ?_)
      walk_at "re"
      have e : ((M.signsOf b).count 40 : Int) - ((M.signsOf b).count 41 : Int) = (M.depth b : Int) := by
        have := pre.le
        unfold M.depth
        omega
      rw [e]
      exact hU _ _ ⟨rfl, rfl⟩
    case r2 =>
    rintro σ H' ⟨rfl, rfl⟩
    -- left
    refine rd_two (S_ways G H n vb b false false false none) ?r3 (fun U hU => ?f3)
    case f3 =>
      walk_at "re"
      refine rd_len g1.gh (BK.mono _ _ _ _ g1.gg hb) ?_
      walk_at "re"
      have e : (n : Int) - (b.length : Int) = ((n - b.length : Nat) : Int) := by omega
      rw [e]
      exact hU _ _ ⟨G1, sv, .non, .non, .non, 0, [], rfl, g1, nofun, nofun, nofun, nofun⟩
    case r3 =>
    rintro σ H1 ⟨G1, sv, vo, va, vc, q, pvs, rfl, g1, _, _, _, _⟩
    -- opening
    refine rd_two (S_ways G H n vb b true false false none) ?r4 (fun U hU => ?f4)
    case f4 =>
      walk_at "re"
      refine ite2 (fun h p hp => ?_) (fun h p hp => ?_)
      · exact hU _ _ ⟨_, sv, .ref p, .non, .non, 0, [], rfl, g1.made hp, fun _ => LI.of (by rw [upd_same, opOf, if_pos (by omega)]; rfl), nofun, nofun, nofun⟩
      · exact hU _ _ ⟨_, sv, .ref p, .non, .non, 0, [], rfl, g1.made hp, fun _ => LI.of (by rw [upd_same, opOf, if_neg (by omega)]; rfl), nofun, nofun, nofun⟩
    case r4 =>
    rintro σ H1 ⟨G1, sv, vo, va, vc, q, pvs, rfl, g1, ho, _, _, _⟩
    have ho := ho rfl
    -- alone
    refine rd_two (S_ways G H n vb b true true false none) ?r5 (fun U hU => ?f5)
    case f5 =>
      walk_at "re"
      refine ite2 (fun h p hp => ?_) (fun h p hp => ?_)
      · exact hU _ _ ⟨_, sv, vo, .ref p, .non, 0, [], rfl, g1.made hp, fun _ => LI.mono _ _ _ _ (Same.upd_none (g1.gh.free hp)) ho, fun _ => LI.of (by rw [upd_same, alOf, if_pos (by omega)]; rfl), nofun, nofun⟩
      · exact hU _ _ ⟨_, sv, vo, .ref p, .non, 0, [], rfl, g1.made hp, fun _ => LI.mono _ _ _ _ (Same.upd_none (g1.gh.free hp)) ho, fun _ => LI.of (by rw [upd_same, alOf, if_neg (by omega)]; rfl), nofun, nofun⟩
    case r5 =>
    rintro σ H1 ⟨G1, sv, vo, va, vc, q, pvs, rfl, g1, ho, ha, _, _⟩
    have ho := ho rfl
    have ha := ha rfl
    -- closing
    refine rd_two (S_ways G H n vb b true true true none) ?r6 (fun U hU => ?f6)
    case f6 =>
      walk_at "re"
      refine ite2 (fun h p hp => ?_) (fun h p hp => ?_)
      · exact hU _ _ ⟨_, sv, vo, va, .ref p, 0, [], rfl, g1.made hp, fun _ => LI.mono _ _ _ _ (Same.upd_none (g1.gh.free hp)) ho, fun _ => LI.mono _ _ _ _ (Same.upd_none (g1.gh.free hp)) ha, fun _ => LI.of (by rw [upd_same, clOf, if_pos (by omega)]; rfl), nofun⟩
      · exact hU _ _ ⟨_, sv, vo, va, .ref p, 0, [], rfl, g1.made hp, fun _ => LI.mono _ _ _ _ (Same.upd_none (g1.gh.free hp)) ho, fun _ => LI.mono _ _ _ _ (Same.upd_none (g1.gh.free hp)) ha, fun _ => LI.of (by rw [upd_same, clOf, if_neg (by omega)]; rfl), nofun⟩
    case r6 =>
    rintro σ H1 ⟨G1, sv, vo, va, vc, q, pvs, rfl, g1, ho, ha, hc, _⟩
    have ho := ho rfl
    have ha := ha rfl
    have hc := hc rfl
    -- ways
    refine rd_two (fun σ H' => ∃ q, H q = none ∧ S2_ways G H n vb b q [] σ H') ?r7 (fun U hU => ?f7)
    case f7 =>
      walk_at "re"
      intro p hp
      exact hU _ _ ⟨p, g1.hh.free hp, G1, sv, vo, va, vc, [], rfl, g1.open hp, ho, ha, hc, g1.gh.free hp, upd_same, .nil⟩
    case r7 =>
    rintro σ H1 ⟨q, q0, G1, sv, vo, va, vc, pvs, rfl, g1, ho, ha, hc, gq, eq, pr⟩
    -- a way is put behind: what is common to all four places
    have put : ∀ {vo va vc : V} {G2 H2 : Hp} {qvs : List V} {l : List (Bool × List Nat)} {x : Bool} {u : V} {us : List Nat} {Qk : VK}, Grow G H G2 H2 → G2 q = none → H2 q = some (.lst qvs) → Paired (WY G2) qvs l → l.length ≤ 5 → LI G2 u us → LI G2 vo (opOf n b) → LI G2 va (alOf n b) → LI G2 vc (clOf b) →
        (∀ G3 H3 qvs', Grow G H G3 H3 → LI G3 vo (opOf n b) → LI G3 va (alOf n b) → LI G3 vc (clOf b) → G3 q = none → H3 q = some (.lst qvs') → Paired (WY G3) qvs' (l ++ [(x, us)]) → Qk .non H3) →
        tyV K "list" (.ref q) H2 ∧ ∀ p, H2 p = none → rAppend (.ref q) [.ref p] (upd H2 p (.tup [.bl x, u])) Qk := by
      intro vo va vc G2 H2 qvs l x u us Qk g2 gq2 eq2 pr2 hl3 hu2 ho2 ha2 hc2 kk
      refine ⟨ty_list eq2, fun p hp => ?_⟩
      have pq : q ≠ p := ne_of_none eq2 hp
      have g3 := g2.made (o := .tup [.bl x, u]) hp
      have sm := Same.upd_none (o := .tup [.bl x, u]) (g2.gh.free hp)
      have lp := pr2.length
      refine rd_app (by rw [upd_ne pq]; exact eq2) (by omega) ?_
      refine kk _ _ _ (g3.set q0 (by rw [upd_ne pq]; exact gq2)) (LI.mono _ _ _ _ sm ho2) (LI.mono _ _ _ _ sm ha2) (LI.mono _ _ _ _ sm hc2) (by rw [upd_ne pq]; exact gq2) upd_same ?_
      exact pr_app (pr_imp (fun _ _ z => WY.mono _ _ _ _ sm z) pr2) (.cons ⟨p, u, rfl, upd_same, LI.mono _ _ _ _ sm hu2⟩ .nil)
    -- if book != []
    refine rd_two (S2_ways G H n vb b q (if b = [] then [] else [(false, opOf n b)])) ?r8 (fun U hU => ?f8)
    case f8 =>
      walk_at "re"
      intro p hp
      have pq : q ≠ p := ne_of_none eq hp
      have g2 := g1.made (o := .lst []) hp
      have sm := Same.upd_none (o := .lst []) (g1.gh.free hp)
      refine rd_neNil Dat.leaf (by decide) g2.gh (BK.mono _ _ _ _ (g1.gg.trans sm) hb) upd_same ?_
      walk_at "re"
      refine ite2 (fun h => ?_) (fun h => ?_)
      · rw [if_neg h] at hU
        exact put g2 (by rw [upd_ne pq]; exact gq) (by rw [upd_ne pq]; exact eq) (pr_imp (fun _ _ z => WY.mono _ _ _ _ sm z) pr) (by simp) (LI.mono _ _ _ _ sm ho) (LI.mono _ _ _ _ sm ho) (LI.mono _ _ _ _ sm ha) (LI.mono _ _ _ _ sm hc) fun G3 H3 qvs' g3 ho3 ha3 hc3 gq3 eq3 pr3 => hU _ _ ⟨G3, sv, vo, va, vc, qvs', rfl, g3, ho3, ha3, hc3, gq3, eq3, pr3⟩
      · have h : b = [] := by
          by_cases z : b = []
          · exact z
          · exact absurd z h
        rw [if_pos h] at hU
        exact hU _ _ ⟨_, sv, vo, va, vc, pvs, rfl, g2, LI.mono _ _ _ _ sm ho, LI.mono _ _ _ _ sm ha, LI.mono _ _ _ _ sm hc, by rw [upd_ne pq]; exact gq, by rw [upd_ne pq]; exact eq, pr_imp (fun _ _ z => WY.mono _ _ _ _ sm z) pr⟩
    case r8 =>
    rintro σ H1 ⟨G1, sv, vo, va, vc, pvs, rfl, g1, ho, ha, hc, gq, eq, pr⟩
    have l1 : (if b = [] then [] else [(false, opOf n b)] : List (Bool × List Nat)).length ≤ 1 := by split <;> simp
    -- if depth == 0
    refine rd_two (S2_ways G H n vb b q ((if b = [] then [] else [(false, opOf n b)]) ++ (if M.depth b = 0 then [(true, opOf n b), (true, alOf n b)] else []))) ?r9 (fun U hU => ?f9)
    case f9 =>
      walk_at "re"
      refine ite2 (fun h => ?_) (fun h => ?_)
      · rw [if_pos (show M.depth b = 0 by omega)] at hU
        refine put g1 gq eq pr (by omega) ho ho ha hc fun G2 H2 qvs g2 ho2 ha2 hc2 gq2 eq2 pr2 => ?_
        refine put g2 gq2 eq2 pr2 (by rw [List.length_append]; simp; omega) ha2 ho2 ha2 hc2 fun G3 H3 qvs' g3 ho3 ha3 hc3 gq3 eq3 pr3 => ?_
        exact hU _ _ ⟨G3, sv, vo, va, vc, qvs', rfl, g3, ho3, ha3, hc3, gq3, eq3, by rw [List.append_assoc] at pr3; exact pr3⟩
      · rw [if_neg (show ¬ M.depth b = 0 by omega), List.append_nil] at hU
        exact hU _ _ ⟨G1, sv, vo, va, vc, pvs, rfl, g1, ho, ha, hc, gq, eq, pr⟩
    case r9 =>
    rintro σ H1 ⟨G1, sv, vo, va, vc, pvs, rfl, g1, ho, ha, hc, gq, eq, pr⟩
    have l2 : (if M.depth b = 0 then [(true, opOf n b), (true, alOf n b)] else [] : List (Bool × List Nat)).length ≤ 2 := by split <;> simp
    -- if book != []
    refine rd_two (S2_ways G H n vb b q (M.nextWays n b)) ?r10 (fun U hU => ?f10)
    case f10 =>
      walk_at "re"
      intro p hp
      have pq : q ≠ p := ne_of_none eq hp
      have g2 := g1.made (o := .lst []) hp
      have sm := Same.upd_none (o := .lst []) (g1.gh.free hp)
      refine rd_neNil Dat.leaf (by decide) g2.gh (BK.mono _ _ _ _ (g1.gg.trans sm) hb) upd_same ?_
      walk_at "re"
      refine ite2 (fun h => ?_) (fun h => ?_)
      · have en : M.nextWays n b = ((if b = [] then [] else [(false, opOf n b)]) ++ (if M.depth b = 0 then [(true, opOf n b), (true, alOf n b)] else [])) ++ [(false, alOf n b ++ clOf b)] := by
          unfold M.nextWays opOf alOf clOf
          simp only [if_neg h, List.append_assoc]
        rw [en] at hU
        refine ⟨ty_list (by rw [upd_ne pq]; exact eq), ?_⟩
        refine rd_cat g2.gh (LI.mono _ _ _ _ sm ha) (LI.mono _ _ _ _ sm hc) (by unfold alOf clOf; split <;> split <;> simp) fun p' hp' => ?_
        have g3 := g2.made (o := .lst ((alOf n b ++ clOf b).map iv)) hp'
        have pq' : q ≠ p' := ne_of_none (show upd H1 p (.lst []) q = some (.lst pvs) by rw [upd_ne pq]; exact eq) hp'
        have sm' := Same.upd_none (o := .lst ((alOf n b ++ clOf b).map iv)) (g2.gh.free hp')
        have sm2 := sm.trans sm'
        exact (put (x := false) (u := .ref p') (us := alOf n b ++ clOf b) g3 (by rw [upd_ne pq', upd_ne pq]; exact gq) (by rw [upd_ne pq', upd_ne pq]; exact eq) (pr_imp (fun _ _ z => WY.mono _ _ _ _ sm2 z) pr) (by rw [List.length_append]; omega) (LI.of upd_same) (LI.mono _ _ _ _ sm2 ho) (LI.mono _ _ _ _ sm2 ha) (LI.mono _ _ _ _ sm2 hc) fun G4 H4 qvs' g4 ho4 ha4 hc4 gq4 eq4 pr4 => hU _ _ ⟨G4, sv, vo, va, vc, qvs', rfl, g4, ho4, ha4, hc4, gq4, eq4, pr4⟩).2
      · have h : b = [] := by
          by_cases z : b = []
          · exact z
          · exact absurd z h
        have en : M.nextWays n b = ((if b = [] then [] else [(false, opOf n b)]) ++ (if M.depth b = 0 then [(true, opOf n b), (true, alOf n b)] else [])) := by
          unfold M.nextWays opOf alOf
          simp only [if_pos h, List.append_nil]
        rw [en] at hU
        exact hU _ _ ⟨_, sv, vo, va, vc, pvs, rfl, g2, LI.mono _ _ _ _ sm ho, LI.mono _ _ _ _ sm ha, LI.mono _ _ _ _ sm hc, by rw [upd_ne pq]; exact gq, by rw [upd_ne pq]; exact eq, pr_imp (fun _ _ z => WY.mono _ _ _ _ sm z) pr⟩
    case r10 =>
    rintro σ H1 ⟨G1, sv, vo, va, vc, pvs, rfl, g1, ho, ha, hc, gq, eq, pr⟩
    walk_at "re"
    exact k _ _ _ (g1.fin q0 gq eq) ⟨q, pvs, rfl, upd_same, pr_imp (fun _ _ z => WY.mono _ _ _ _ (Same.upd_none gq) z) pr⟩
end
end R
set_option linter.all false
set_option Elab.async false
set_option maxRecDepth 100000
set_option maxHeartbeats 4000000
namespace R
open PySem PySem.Spec PyProof.Rows L2
section
variable {P : Program} {w : World} {K : PySem.W.Frag} {mg : Str → Option Value} {base : Heap}
noncomputable def sp_next_leaves : Sp := fun vs H Q _ => ∃ (G : Hp) (n : Nat) (vb : V) (b : M.PBook), vs = [.int (n : Int), vb] ∧ Same G H ∧ BK G vb b ∧ M.Pre n b ∧ 1 ≤ n ∧ n ≤ 4 ∧ Ret G H BK (M.nextLeaves n b) Q
noncomputable def lf1 (w : Bool × List Nat) (f : Nat) (ss : List Nat) : List M.Leaf := ss.map fun s => (w.1, f, s)
noncomputable def lf2 (w : Bool × List Nat) (fs : List Nat) : List M.Leaf := fs.flatMap fun f => lf1 w f w.2
noncomputable def I_next_leaves (G H G2 : Hp) (q : Addr) (done : List M.Leaf) (σ0 : List (Option V)) (σ : L2.St) (H' : Hp) : Prop :=
  ∃ (G' : Hp) (pvs : List V) (rest : List (Option V)), σ = σ0 ++ rest ∧ σ.length = 8 ∧ Grow G H G' H' ∧ Same G2 G' ∧ G' q = none ∧ H' q = some (.lst pvs) ∧ Paired (TL G') pvs done
private theorem leavesOf_take {ws : List (Bool × List Nat)} {fs : List Nat} {i : Nat} {w : Bool × List Nat} (h : ws[i]? = some w) : M.leavesOf (ws.take (i + 1)) fs = M.leavesOf (ws.take i) fs ++ lf2 w fs := by
  unfold M.leavesOf
  rw [take_snoc h]
  rfl
private theorem len_flat_take {w : Bool × List Nat} {fs : List Nat} (h1 : fs.length ≤ 8) (h2 : w.2.length ≤ 2) (j : Nat) : (lf2 w (fs.take j)).length ≤ 16 := by
  have := M.flat_len (l := fs.take j) (f := fun f => lf1 w f w.2) (c := 2) fun f _ => by unfold lf1; rw [List.length_map]; exact h2
  unfold lf2
  rw [List.length_take] at this
  omega
private theorem rest1 {α : Type} : ∀ {l : List α}, l.length = 1 → ∃ a0, l = [a0]
  | [a0], _ => ⟨a0, rfl⟩
private theorem rest2 {α : Type} : ∀ {l : List α}, l.length = 2 → ∃ a0 a1, l = [a0, a1]
  | [a0, a1], _ => ⟨a0, a1, rfl⟩
private theorem rest4 {α : Type} : ∀ {l : List α}, l.length = 4 → ∃ a0 a1 a2 a3, l = [a0, a1, a2, a3]
  | [a0, a1, a2, a3], _ => ⟨a0, a1, a2, a3, rfl⟩
private theorem c_next_leaves (D : Def K mg "next_leaves" s_next_leaves ["n", "book"]) (T : Txt mg) (c_free_fronts : Cal P w K mg base 1 "free_fronts" ["n", "book"] sp_free_fronts)
    (c_next_ways : Cal P w K mg base 1 "next_ways" ["n", "book"] sp_next_ways) : Cal P w K mg base 2 "next_leaves" ["n", "book"] sp_next_leaves := by
  refine D.cal sc_next_leaves (fun vs H Q E h => ?_) (fun f cdv A outer s H vs Q E hr h => ?_)
  · obtain ⟨G, n, vb, b, rfl, _⟩ := h
    rfl
  · obtain ⟨G, n, vb, b, rfl, sg, hb, pre, h1, h4, k⟩ := h
    have hlen := pre.len
    refine ⟨_, (pss_cons (ps_set (i := 2) sc_next_leaves.nd rfl (by first | exact Or.inl rfl | exact Or.inr rfl) (pcl c_free_fronts hr (by decide) (pa_cons (pv 0) (pa_cons (pv 1) pa_nil))))
 (pss_cons (ps_set (i := 3) sc_next_leaves.nd rfl (by first | exact Or.inl rfl | exact Or.inr rfl) (pe_lst pa_nil))
 (pss_cons (ps_for PassesOwn.never rfl (pi_list (pcl c_next_ways hr (by decide) (pa_cons (pv 0) (pa_cons (pv 1) pa_nil)))) (pgT (K := K) (n := 2) rfl rfl (pgs_cons (pg_name (i := 4) sc_next_leaves.nd rfl (by first | exact Or.inl rfl | exact Or.inr rfl)) (pgs_cons (pg_name (i := 5) sc_next_leaves.nd rfl (by first | exact Or.inl rfl | exact Or.inr rfl)) pgs_nil)))
 (pss_one (ps_for PassesOwn.never rfl (pi_list (pv 2)) (pg_name (i := 6) sc_next_leaves.nd rfl (by first | exact Or.inl rfl | exact Or.inr rfl))
 (pss_one (ps_for PassesOwn.never rfl (pi_list (pv 5)) (pg_name (i := 7) sc_next_leaves.nd rfl (by first | exact Or.inl rfl | exact Or.inr rfl))
 (pss_one (ps_expr (pe_bm PySem.F.plainAttrs_list PySem.F.slot_list_append PySem.F.type_list_append mt_append (pv 3) (pa_cons (pe_tup (pa_cons (pv 4) (pa_cons (pv 6) (pa_cons (pv 7) pa_nil)))) pa_nil)))))))))
 (pss_one (ps_ret (pv 3)))))), ?_⟩
    walk_at "re"
    refine ⟨G, n, vb, b, rfl, sg, hb, by omega, h1, h4, fun vf G1 H1 g1 hf => ?_⟩
    intro q hq
    have q0 : H q = none := g1.hh.free hq
    have g1' := g1.open (o := .lst []) hq
    refine ⟨G1, n, vb, b, rfl, g1'.gh, BK.mono _ _ _ _ g1.gg hb, pre, h1, h4, fun vw G2 H2 g2 hw => ?_⟩
    obtain ⟨eq0, gq0⟩ := g2.keep upd_same (g1.gh.free hq)
    have g := g1'.trans g2
    have hf2 := LI.mono _ _ _ _ g2.gg hf
    have fl : (M.freeFronts n b).length ≤ 8 := by have := M.fronts_len n b; omega
    obtain ⟨wl, wl2⟩ := M.ways_len n b
    generalize hws : M.nextWays n b = ws at hw wl wl2
    generalize hfs : M.freeFronts n b = fs at hf2 fl
    have tot : ∀ i, (M.leavesOf (ws.take i) fs).length ≤ 64 := fun i => by
      have := M.flat_len (l := ws.take i) (f := fun w => lf2 w fs) (c := 16) fun w hw => by
        have := len_flat_take (w := w) fl (wl2 w (List.mem_of_mem_take hw)) fs.length
        rw [List.take_of_length_le (Nat.le_refl _)] at this
        exact this
      rw [List.length_take] at this
      unfold M.leavesOf
      show ((ws.take i).flatMap fun w => lf2 w fs).length ≤ 64
      omega
    refine rd_forL g.gh hw fun a wv e ha hp => ?_
    refine for_list (K := K) (a := a) (xs := wv) (fun i σ H' => I_next_leaves G H G2 q (M.leavesOf (ws.take i) fs) [some (.int (n : Int)), some vb, some vf, some (.ref q)] σ H') ?start ?stays ?turn ?after
    case start => exact ⟨G2, [], [none, none, none, none], rfl, rfl, g, Same.refl _, gq0, eq0, .nil⟩
    case stays =>
      rintro i σ H' hi ⟨G', pvs, rest, _, _, gr, sm, _⟩
      exact SqL.of (gr.gh _ _ (sm _ _ ha))
    case turn =>
      rintro i x σ H' hx ⟨G', pvs, rest, rfl, hsl, gr, sm, gq, eq, pr⟩
      obtain ⟨wy, hwy, hxr⟩ := pr_get hp hx
      have hw2 := wl2 wy (List.mem_of_getElem? hwy)
      refine rd_way gr.gh (WY.mono _ _ _ _ sm hxr) fun u hu => ?_
      obtain ⟨r1, r2, r3, r4, rfl⟩ := rest4 (l := rest) (by simpa using hsl)
      walk_at "re"
      refine rd_forL gr.gh (LI.mono _ _ _ _ sm hf2) fun a2 fv e2 ha2 hp2 => ?_
      refine for_list (K := K) (a := a2) (xs := fv) (fun j σ H' => I_next_leaves G H G' q (M.leavesOf (ws.take i) fs ++ lf2 wy (fs.take j)) [some (.int (n : Int)), some vb, some vf, some (.ref q), some (.bl wy.1), some u] σ H') ?start2 ?stays2 ?turn2 ?after2
      case start2 => exact ⟨G', pvs, [r3, r4], rfl, rfl, gr, Same.refl _, gq, eq, by rw [show lf2 wy (fs.take 0) = [] from rfl, List.append_nil]; exact pr⟩
      case stays2 =>
        rintro j σ H'' hj ⟨G'', pvs', rest, _, _, gr', sm', _⟩
        exact SqL.of (gr'.gh _ _ (sm' _ _ ha2))
      case turn2 =>
        rintro j y σ H'' hy ⟨G'', pvs', rest, rfl, hsl, gr', sm', gq', eq', pr'⟩
        obtain ⟨ft, hft, hyr⟩ := pr_get hp2 hy
        cases hyr
        obtain ⟨r3, r4, rfl⟩ := rest2 (l := rest) (by simpa using hsl)
        walk_at "re"
        refine rd_forL gr'.gh (LI.mono _ _ _ _ sm' hu) fun a3 sv e3 ha3 hp3 => ?_
        refine for_list (K := K) (a := a3) (xs := sv) (fun l σ H' => I_next_leaves G H G'' q ((M.leavesOf (ws.take i) fs ++ lf2 wy (fs.take j)) ++ lf1 wy ft (wy.2.take l)) [some (.int (n : Int)), some vb, some vf, some (.ref q), some (.bl wy.1), some u, some (.int (ft : Int))] σ H') ?start3 ?stays3 ?turn3 ?after3
        case start3 => exact ⟨G'', pvs', [r4], rfl, rfl, gr', Same.refl _, gq', eq', by rw [show lf1 wy ft (wy.2.take 0) = [] from rfl, List.append_nil]; exact pr'⟩
        case stays3 =>
          rintro l σ H3 hl ⟨G3, pvs3, rest, _, _, gr3, sm3, _⟩
          exact SqL.of (gr3.gh _ _ (sm3 _ _ ha3))
        case turn3 =>
          rintro l z σ H3 hz ⟨G3, pvs3, rest, rfl, hsl, gr3, sm3, gq3, eq3, pr3⟩
          obtain ⟨sn, hsn, hzr⟩ := pr_get hp3 hz
          cases hzr
          obtain ⟨r4, rfl⟩ := rest1 (l := rest) (by simpa using hsl)
          walk_at "re"
          refine ⟨ty_list eq3, fun p hp0 => ?_⟩
          have pq : q ≠ p := ne_of_none eq3 hp0
          have g4 := gr3.made (o := .tup [.bl wy.1, .int (ft : Int), .int (sn : Int)]) hp0
          have sm4 := Same.upd_none (o := .tup [.bl wy.1, .int (ft : Int), .int (sn : Int)]) (gr3.gh.free hp0)
          have lp := pr3.length
          refine rd_app (by rw [upd_ne pq]; exact eq3) ?_ ?_
          · have t1 := tot i
            have t2 := len_flat_take (w := wy) fl hw2 j
            rw [lp, List.length_append, List.length_append]
            have t3 : (lf1 wy ft (wy.2.take l)).length ≤ 2 := by unfold lf1; rw [List.length_map, List.length_take]; omega
            omega
          · refine ⟨_, _, [some (.int (sn : Int))], rfl, rfl, g4.set q0 (by rw [upd_ne pq]; exact gq3), sm3.trans sm4, by rw [upd_ne pq]; exact gq3, upd_same, ?_⟩
            have et : lf1 wy ft (wy.2.take (l + 1)) = lf1 wy ft (wy.2.take l) ++ [(wy.1, ft, sn)] := by
              unfold lf1
              rw [List.take_add_one, hsn]
              simp
            rw [et, ← List.append_assoc]
            exact pr_app (pr_imp (fun _ _ z => TL.mono _ _ _ _ sm4 z) pr3) (.cons ⟨p, rfl, upd_same⟩ .nil)
        case after3 =>
          rintro σ H3 ⟨G3, pvs3, rest, rfl, hsl, gr3, sm3, gq3, eq3, pr3⟩
          obtain ⟨r4, rfl⟩ := rest1 (l := rest) (by simpa using hsl)
          refine ⟨G3, pvs3, [some (.int (ft : Int)), r4], rfl, rfl, gr3, sm'.trans sm3, gq3, eq3, ?_⟩
          rw [hp3.length, List.take_of_length_le (Nat.le_refl _), List.append_assoc] at pr3
          have et : lf2 wy (fs.take (j + 1)) = lf2 wy (fs.take j) ++ lf1 wy ft wy.2 := by
            unfold lf2
            exact take_snoc hft _
          rw [et]
          exact pr3
      case after2 =>
        rintro σ H3 ⟨G3, pvs3, rest, rfl, hsl, gr3, sm3, gq3, eq3, pr3⟩
        obtain ⟨r3, r4, rfl⟩ := rest2 (l := rest) (by simpa using hsl)
        refine ⟨G3, pvs3, [some (.bl wy.1), some u, r3, r4], rfl, rfl, gr3, sm.trans sm3, gq3, eq3, ?_⟩
        rw [hp2.length, List.take_of_length_le (Nat.le_refl _)] at pr3
        rw [leavesOf_take hwy]
        exact pr3
    case after =>
      rintro σ H3 ⟨G3, pvs3, rest, rfl, hsl, gr3, sm3, gq3, eq3, pr3⟩
      obtain ⟨r1, r2, r3, r4, rfl⟩ := rest4 (l := rest) (by simpa using hsl)
      walk_at "re"
      rw [hp.length, List.take_of_length_le (Nat.le_refl _)] at pr3
      have en : M.nextLeaves n b = M.leavesOf ws fs := by
        unfold M.nextLeaves
        rw [hws, hfs]
      rw [← en] at pr3
      exact k _ _ _ (gr3.fin q0 gq3 eq3) ⟨q, pvs3, rfl, upd_same, pr_imp (fun _ _ z => TL.mono _ _ _ _ (Same.upd_none gq3) z) pr3⟩
end
end R
set_option linter.all false
set_option Elab.async false
set_option maxRecDepth 100000
set_option maxHeartbeats 4000000
namespace R
open PySem PySem.Spec PyProof.Rows L2
section
variable {P : Program} {w : World} {K : PySem.W.Frag} {mg : Str → Option Value} {base : Heap}
noncomputable def sp_put_beginnings : Sp := fun vs H Q _ => ∃ (G : Hp) (wa : Addr) (vb vl : V) (b : M.PBook) (lv : List M.Leaf) (ws : List V) (bs : List M.PBook), vs = [.ref wa, vb, vl] ∧ Same G H ∧ G wa = none ∧ H wa = some (.lst ws) ∧ Paired (BK G) ws bs ∧ BK G vb b ∧ BK G vl lv ∧
  bs.length + lv.length ≤ 900000 ∧ b.length ≤ 1000 ∧ ∀ G' H' ws', GrowM wa G H G' H' → G' wa = none → H' wa = some (.lst ws') → Paired (BK G') ws' (bs ++ lv.reverse.map fun x => b ++ [x]) → Q .non H'
noncomputable def I_put_beginnings (G H : Hp) (wa : Addr) (vb vl : V) (b : M.PBook) (lv : List M.Leaf) (bs : List M.PBook) (i : Nat) (σ : L2.St) (H' : Hp) : Prop :=
  ∃ (G' : Hp) (ws' : List V) (x : Option V), σ = [some (.ref wa), some vb, some vl, x] ∧ GrowM wa G H G' H' ∧ G' wa = none ∧ H' wa = some (.lst ws') ∧ Paired (BK G') ws' (bs ++ (lv.reverse.take i).map fun x => b ++ [x])
private theorem c_put_beginnings (D : Def K mg "put_beginnings" s_put_beginnings ["waiting", "book", "leaves"]) (T : Txt mg) : Cal P w K mg base 1 "put_beginnings" ["waiting", "book", "leaves"] sp_put_beginnings := by
  refine D.cal sc_put_beginnings (fun vs H Q E h => ?_) (fun f cdv A outer s H vs Q E hr h => ?_)
  · obtain ⟨G, wa, vb, vl, b, lv, ws, bs, rfl, _⟩ := h
    rfl
  · obtain ⟨G, wa, vb, vl, b, lv, ws, bs, rfl, sg, gw, ew, pr, hb, hl, hsz, hbl, k⟩ := h
    refine ⟨_, (pss_one (ps_for PassesOwn.never rfl (pi_reversed rfl T.b_reversed (pa_cons (pv 2) pa_nil)) (pg_name (i := 3) sc_put_beginnings.nd rfl (by first | exact Or.inl rfl | exact Or.inr rfl))
 (pss_one (ps_expr (pe_bm PySem.F.plainAttrs_list PySem.F.slot_list_append PySem.F.type_list_append mt_append (pv 0) (pa_cons (pe_op op_cat (pv 1) (pe_lst (pa_cons (pv 3) pa_nil))) pa_nil)))))), ?_⟩
    walk_at "re"
    obtain ⟨a, vs, rfl, ha, hp⟩ := hl
    refine ⟨a, rfl, vs, SqL.of (sg _ _ ha), for_rev (I_put_beginnings G H wa vb (.ref a) b lv bs) ?start ?stays ?turn ?after⟩
    case start => exact ⟨G, ws, none, rfl, GrowM.refl sg, gw, ew, by rw [List.take_zero, List.map_nil, List.append_nil]; exact pr⟩
    case stays =>
      rintro i σ H' hi ⟨G', ws', x, _, gr, _⟩
      exact SqL.of (gr.gh _ _ (gr.gg _ _ ha))
    case turn =>
      rintro i z σ H' hz ⟨G', ws', x, rfl, gr, gw', ew', pr'⟩
      obtain ⟨lf, hlf, hr'⟩ := pr_get (pr_rev hp) hz
      have hil : i < lv.length := by have := (List.getElem?_eq_some_iff.mp hlf).1; rw [List.length_reverse] at this; exact this
      walk_at "re"
      refine ⟨ty_list ew', fun p hp0 => ?_⟩
      have g2 := (Grow.refl gr.gh).made (o := .lst [z]) hp0
      have sm2 := Same.upd_none (o := .lst [z]) (gr.gh.free hp0)
      have pw : wa ≠ p := ne_of_none ew' hp0
      refine rd_catL g2.gh (BK.mono _ _ _ _ (gr.gg.trans sm2) hb) upd_same (by simp; omega) fun us hus p' hp' => ?_
      have g3 := g2.made (o := .lst (us ++ [z])) hp'
      have sm3 := Same.upd_none (o := .lst (us ++ [z])) (g2.gh.free hp')
      have ew2 : upd H' p (.lst [z]) wa = some (.lst ws') := by rw [upd_ne pw]; exact ew'
      have pw' : wa ≠ p' := ne_of_none ew2 hp'
      have lp := pr'.length
      rw [List.length_append, List.length_map, List.length_take, List.length_reverse] at lp
      refine rd_app (by rw [upd_ne pw']; exact ew2) (by omega) ?_
      have gw3 : (upd (upd G' p (.lst [z])) p' (.lst (us ++ [z]))) wa = none := by rw [upd_ne pw', upd_ne pw]; exact gw'
      refine ⟨_, _, _, rfl, (gr.then (fun _ => by rw [ew']; simp) g3).set gw3, gw3, upd_same, ?_⟩
      rw [List.take_add_one, hlf, List.map_append, ← List.append_assoc]
      refine pr_app (pr_imp (fun _ _ q => BK.mono _ _ _ _ (sm2.trans sm3) q) pr') (.cons ⟨p', _, rfl, upd_same, ?_⟩ .nil)
      refine pr_app (pr_imp (fun _ _ q => TL.mono _ _ _ _ sm3 q) hus) (.cons (TL.mono _ _ _ _ ((gr.gg.trans sm2).trans sm3) hr') .nil)
    case after =>
      rintro σ H' ⟨G', ws', x, rfl, gr, gw', ew', pr'⟩
      rw [hp.length, List.take_of_length_le (by simp)] at pr'
      exact k G' H' ws' gr gw' ew' pr'
noncomputable def Took (n : Nat) (fs : List M.MF) (bs : List M.PBook) (res : M.PBook) (bs' : List M.PBook) : Prop :=
  (((M.remOf n bs).filter fun b => M.agreesM b fs) = [] ∧ res = [] ∧ bs' = []) ∨ (M.Whole n res ∧ ((M.remOf n bs).filter fun b => M.agreesM b fs) = res :: ((M.remOf n bs').filter fun b => M.agreesM b fs))
noncomputable def sp_take_agreeing : Sp := fun vs H Q _ => ∃ (G : Hp) (n : Nat) (vf : V) (wa : Addr) (fs : List M.MF) (ws : List V) (bs : List M.PBook), vs = [.int (n : Int), vf, .ref wa] ∧ Same G H ∧ G wa = none ∧ H wa = some (.lst ws) ∧ Paired (BK G) ws bs ∧ (∀ b ∈ bs, M.Pre n b) ∧ M.costs n bs ≤ 800000 ∧
  LS FD G vf fs ∧ 1 ≤ n ∧ n ≤ 4 ∧ (∀ f ∈ fs, M.FOk n f) ∧
  ∀ v G' H' ws' bs' res, GrowM wa G H G' H' → G' wa = none → H' wa = some (.lst ws') → Paired (BK G') ws' bs' → (∀ b ∈ bs', M.Pre n b) → M.costs n bs' ≤ M.costs n bs → BK G' v res → Took n fs bs res bs' → (res ≠ [] → M.costs n bs' < M.costs n bs) → Q v H'
noncomputable def W_take (G H : Hp) (n : Nat) (vf : V) (wa : Addr) (fs : List M.MF) (bs0 : List M.PBook) (m : Nat) (σ : L2.St) (H' : Hp) : Prop :=
  ∃ (G' : Hp) (ws : List V) (bs : List M.PBook) (x : Option V), σ = [some (.int (n : Int)), some vf, some (.ref wa), x] ∧ GrowM wa G H G' H' ∧ G' wa = none ∧ H' wa = some (.lst ws) ∧ Paired (BK G') ws bs ∧ (∀ b ∈ bs, M.Pre n b) ∧ m = M.costs n bs ∧ M.costs n bs ≤ M.costs n bs0 ∧
    ((M.remOf n bs).filter fun b => M.agreesM b fs) = ((M.remOf n bs0).filter fun b => M.agreesM b fs)
private theorem c_take_agreeing (D : Def K mg "take_agreeing" s_take_agreeing ["n", "findings", "waiting"]) (T : Txt mg) (c_put_beginnings : Cal P w K mg base 1 "put_beginnings" ["waiting", "book", "leaves"] sp_put_beginnings)
    (c_next_leaves : Cal P w K mg base 2 "next_leaves" ["n", "book"] sp_next_leaves) (c_agrees : Cal P w K mg base 4 "agrees" ["book", "findings"] sp_agrees) : Cal P w K mg base 5 "take_agreeing" ["n", "findings", "waiting"] sp_take_agreeing := by
  refine D.cal sc_take_agreeing (fun vs H Q E h => ?_) (fun f cdv A outer s H vs Q E hr h => ?_)
  · obtain ⟨G, n, vf, wa, fs, ws, bs, rfl, _⟩ := h
    rfl
  · obtain ⟨G, n, vf, wa, fs, ws, bs0, rfl, sg, gw, ew, pr, hpre, hcost, hf, h1, h4, hok, k⟩ := h
    refine ⟨_, (pss_cons (ps_while PassesOwn.never (pt_cmpR (opNeD (K := K) rfl hr.units) (pv 2) (pe_lst pa_nil) (nomark _))
 (pss_cons (ps_set (i := 3) sc_take_agreeing.nd rfl (by first | exact Or.inl rfl | exact Or.inr rfl) (pe_bm0 PySem.F.plainAttrs_list PySem.F.slot_list_pop PySem.F.type_list_pop mt_pop (pv 2)))
 (pss_one (ps_if (pt_cmpR op_lt (pe_callB (lenS (K := K) rfl) rfl T.b_len PySem.boot_len (pa_cons (pv 3) pa_nil)) (pv 0) (nomark _)) (pss_one (ps_expr (pcl c_put_beginnings hr (by decide) (pa_cons (pv 2) (pa_cons (pv 3) (pa_cons (pcl c_next_leaves hr (by decide) (pa_cons (pv 0) (pa_cons (pv 3) pa_nil))) pa_nil)))))) (pss_one (ps_if (ptT (K := K) rfl (pcl c_agrees hr (by decide) (pa_cons (pv 3) (pa_cons (pv 1) pa_nil))) (fun _ => rfl)) (pss_one (ps_ret (pv 3))) pss_nil))))))
 (pss_one (ps_ret (pe_lst pa_nil)))), ?_⟩
    walk_at "re"
    have hw0 : H wa ≠ none := by rw [ew]; simp
    refine ⟨W_take G H n vf wa fs bs0, ⟨_, G, ws, bs0, none, rfl, GrowM.refl sg, gw, ew, pr, hpre, rfl, Nat.le_refl _, rfl⟩, ?_⟩
    rintro m σ H1 ⟨G1, ws1, bs, x, rfl, gr, gw1, ew1, pr1, hpre1, rfl, hc1, hfil⟩
    walk_at "re"
    intro p hp
    have pw : wa ≠ p := ne_of_none ew1 hp
    have g2 := (Grow.refl gr.gh).made (o := .lst []) hp
    have sm2 := Same.upd_none (o := .lst []) (gr.gh.free hp)
    have ew2 : upd H1 p (.lst []) wa = some (.lst ws1) := by rw [upd_ne pw]; exact ew1
    have gw2 : upd G1 p (.lst []) wa = none := by rw [upd_ne pw]; exact gw1
    have gm2 := gr.then (fun _ => by rw [ew1]; simp) g2
    have pr2 := pr_imp (fun _ _ q => BK.mono _ _ _ _ sm2 q) pr1
    refine rd_neNil Dat.book (by decide) (Same.refl _) (⟨wa, ws1, rfl, ew2, pr_imp (fun _ _ q => BK.mono _ _ _ _ g2.gh q) pr2⟩ : LS BK (upd H1 p (.lst [])) (.ref wa) bs) upd_same ?_
    generalize upd H1 p (.lst []) = H2 at g2 gm2 ew2
    generalize upd G1 p (.lst []) = G2 at g2 gm2 gw2 pr2
    walk_at "re"
    refine ite2 (fun hne => ?_) (fun hne => ?_)
    · obtain ⟨ws0, v, bs1, b, rfl, rfl, pr0, hvb⟩ := pr_last pr2 hne
      refine ⟨fun σ' H' => ∃ m', m' < M.costs n (bs1 ++ [b]) ∧ W_take G H n vf wa fs bs0 m' σ' H', fun _ _ z => z, ?_⟩
      walk_at "re"
      refine rd_pop ew2 ?_
      have pb : M.Pre n b := hpre1 b (by simp)
      have hpre0 : ∀ c ∈ bs1, M.Pre n c := fun c hc => hpre1 c (by simp [hc])
      have gm3 := gm2.set (o := .lst ws0) gw2
      have ew3 : upd H2 wa (.lst ws0) wa = some (.lst ws0) := upd_same
      generalize upd H2 wa (.lst ws0) = H3 at gm3 ew3
      have hbl := pb.len
      have ec : M.costs n (bs1 ++ [b]) = M.costs n bs1 + M.cost n (n - b.length) b := by
        rw [M.costs_app]
        unfold M.costs
        simp
      have cp := M.cost_pos n (n - b.length) b
      refine rd_len gm3.gh hvb ?_
      walk_at "re"
      refine ite2 (fun hlt => ?_) (fun hlt => ?_)
      · have hlt : b.length < n := by omega
        refine ⟨G2, n, v, b, rfl, gm3.gh, hvb, pb, h1, h4, fun vl G4 H4 g4 hvl => ?_⟩
        obtain ⟨ew4, gw4⟩ := g4.keep ew3 gw2
        have gm4 := gm3.then (fun _ => by rw [ew3]; simp) g4
        have cpush := M.costs_push hlt
        have few := M.next_few pb
        refine ⟨G4, wa, v, vl, b, M.nextLeaves n b, ws0, bs1, rfl, gm4.gh, gw4, ew4, pr_imp (fun _ _ q => BK.mono _ _ _ _ g4.gg q) pr0, BK.mono _ _ _ _ g4.gg hvb, hvl, ?_, by omega, fun G5 H5 ws5 gm5 gw5 ew5 pr5 => ?_⟩
        · have := M.costs_len n bs1
          omega
        · refine ⟨M.costs n (bs1 ++ (M.nextLeaves n b).reverse.map fun x => b ++ [x]), ?_, G5, ws5, _, _, rfl, gm4.trans (fun _ => by rw [ew4]; simp) gm5, gw5, ew5, pr5, ?_, rfl, ?_, ?_⟩
          · rw [M.costs_app, ec]
            omega
          · intro c hc
            rcases List.mem_append.mp hc with hc | hc
            · exact hpre0 c hc
            · obtain ⟨y, hy, rfl⟩ := List.mem_map.mp hc
              exact pb.snoc (List.mem_reverse.mp hy)
          · rw [M.costs_app]
            omega
          · rw [M.rem_push bs1 hlt]
            exact hfil
      · have hbn : b.length = n := by omega
        have wh : M.Whole n b := ⟨pb, hbn, by omega⟩
        have hrem : M.remOf n (bs1 ++ [b]) = b :: M.remOf n bs1 := by
          rw [M.rem_snoc, hbn, Nat.sub_self]
          rfl
        rw [hrem, List.filter_cons] at hfil
        refine ⟨G2, v, vf, n, b, fs, rfl, gm3.gh, hvb, LS.mono FD.mono _ _ _ _ gm3.gg hf, wh, h1, h4, hok, fun r G4 H4 g4 hr4 => ?_⟩
        cases hr4
        obtain ⟨ew4, gw4⟩ := g4.keep ew3 gw2
        have gm4 := gm3.then (fun _ => by rw [ew3]; simp) g4
        have pr4 := pr_imp (fun _ _ q => BK.mono _ _ _ _ g4.gg q) pr0
        refine ⟨_, tru_bl, ite2 (fun ha => ?_) (fun ha => ?_)⟩
        · rw [if_pos ha] at hfil
          refine k v G4 H4 ws0 bs1 b gm4 gw4 ew4 pr4 hpre0 (by omega) (BK.mono _ _ _ _ g4.gg hvb) (.inr ⟨wh, hfil.symm⟩) (fun _ => by omega)
        · rw [if_neg ha] at hfil
          exact ⟨M.costs n bs1, by omega, G4, ws0, bs1, _, rfl, gm4, gw4, ew4, pr4, hpre0, rfl, by omega, hfil⟩
    · have hnil : bs = [] := by
        by_cases z : bs = []
        · exact z
        · exact absurd z hne
      subst hnil
      intro p' hp'
      have pw' : wa ≠ p' := ne_of_none ew2 hp'
      have g3 := (Grow.refl gm2.gh).made (o := .lst []) hp'
      refine k (.ref p') _ _ ws1 [] [] (gm2.then (fun _ => by rw [ew2]; simp) g3) (by rw [upd_ne pw']; exact gw2) (by rw [upd_ne pw']; exact ew2) (pr_imp (fun _ _ q => BK.mono _ _ _ _ g3.gg q) pr2) (fun _ h => nomatch h) (Nat.zero_le _) ⟨p', [], rfl, upd_same, .nil⟩ (.inl ⟨?_, rfl, rfl⟩) (fun h => absurd rfl h)
      rw [← hfil]
      rfl
end
end R
set_option linter.all false
set_option Elab.async false
set_option maxRecDepth 100000
set_option maxHeartbeats 4000000
namespace R
open PySem PySem.Spec PyProof.Rows L2
section
variable {P : Program} {w : World} {K : PySem.W.Frag} {mg : Str → Option Value} {base : Heap}
noncomputable def sp_opposite : Sp := fun vs H Q _ => ∃ (G : Hp) (v : V) (f : M.MF), vs = [v] ∧ Same G H ∧ FD G v f ∧ Ret G H FD (M.oppM f) Q
private theorem c_opposite (D : Def K mg "opposite" s_opposite ["finding"]) (T : Txt mg) : Cal P w K mg base 1 "opposite" ["finding"] sp_opposite := by
  refine D.cal sc_opposite (fun vs H Q E h => ?_) (fun f cdv A outer s H vs Q E hr h => ?_)
  · obtain ⟨G, v, f, rfl, _⟩ := h
    rfl
  · obtain ⟨G, v, fd, rfl, sg, hv, k⟩ := h
    obtain ⟨a, u, rfl, ha, hu⟩ := hv
    refine ⟨_, (pss_one (ps_ret (pe_tup (pa_cons (pe_not (pe_ix (ixT (K := K) rfl) (pv 0) pe_int (fun _ _ => rfl))) (pa_cons (pe_ix (ixT (K := K) rfl) (pv 0) pe_int (fun _ _ => rfl)) (pa_cons (pe_ix (ixT (K := K) rfl) (pv 0) pe_int (fun _ _ => rfl)) pa_nil)))))), ?_⟩
    walk_at "re"
    refine rd_ixT (i := 0) sg ha rfl ⟨_, rfl, rd_ixT (i := 1) sg ha rfl (rd_ixT (i := 2) sg ha rfl fun p hp => ?_)⟩
    have g1 := (Grow.refl sg).made (o := .tup [.bl (!fd.1), .int (fd.2.1 : Int), u]) hp
    exact k _ _ _ g1 ⟨p, u, rfl, upd_same, LI.mono _ _ _ _ g1.gg hu⟩
noncomputable def sp_some_agrees : Sp := fun vs H Q _ => ∃ (G : Hp) (n : Nat) (vf : V) (fs : List M.MF), vs = [.int (n : Int), vf] ∧ Same G H ∧ LS FD G vf fs ∧ 1 ≤ n ∧ n ≤ 4 ∧ (∀ f ∈ fs, M.FOk n f) ∧ Ret G H BV (decide (M.allOf n fs ≠ [])) Q
private theorem c_some_agrees (D : Def K mg "some_agrees" s_some_agrees ["n", "findings"]) (T : Txt mg) (c_take_agreeing : Cal P w K mg base 5 "take_agreeing" ["n", "findings", "waiting"] sp_take_agreeing) : Cal P w K mg base 6 "some_agrees" ["n", "findings"] sp_some_agrees := by
  refine D.cal sc_some_agrees (fun vs H Q E h => ?_) (fun f cdv A outer s H vs Q E hr h => ?_)
  · obtain ⟨G, n, vf, fs, rfl, _⟩ := h
    rfl
  · obtain ⟨G, n, vf, fs, rfl, sg, hf, n1, n4, hok, k⟩ := h
    refine ⟨_, (pss_one (ps_ret (pe_cmpR (opNeD (K := K) rfl hr.units) (pcl c_take_agreeing hr (by decide) (pa_cons (pv 0) (pa_cons (pv 1) (pa_cons (pe_lst (pa_cons (pe_lst pa_nil) pa_nil)) pa_nil)))) (pe_lst pa_nil) (nomark _)))), ?_⟩
    walk_at "re"
    intro p hp q hq
    obtain ⟨G2, g2, sm2, gq, q0, pr⟩ := start_stack (Grow.refl sg) hp hq
    refine ⟨G2, n, vf, q, fs, [V.ref p], [[]], rfl, g2.gh, gq, upd_same, pr, ?_, by have := M.cost_start n4; omega, LS.mono FD.mono _ _ _ _ sm2 hf, n1, n4, hok, fun vr G4 H4 ws' bs' res gm4 gq4 eq4 pr4 hpre4 hc4 hres took strict => ?_⟩
    · intro b hb
      rw [List.mem_singleton.mp hb]
      exact M.Pre.nil n
    have g4 := g2.turned q0 gm4
    intro p' hp'
    have g5 := g4.made (o := .lst []) hp'
    refine rd_neNil Dat.leaf (by decide) g5.gh (BK.mono _ _ _ _ (Same.upd_none (g4.gh.free hp')) hres) upd_same ?_
    refine k _ _ _ g5 ?_
    show V.bl _ = V.bl _
    congr 1
    have ea : M.allOf n fs = (M.remOf n [[]]).filter fun b => M.agreesM b fs := by
      rw [M.rem_start]
      rfl
    rw [ea]
    rcases took with ⟨e, er, _⟩ | ⟨wh, e⟩
    · rw [e, er]
      rfl
    · rw [e]
      have : res ≠ [] := by
        intro z
        have := wh.len
        rw [z] at this
        simp at this
        omega
      simp [this]
end
end R
set_option linter.all false
set_option Elab.async false
set_option maxRecDepth 100000
set_option maxHeartbeats 4000000
namespace R
open PySem PySem.Spec PyProof.Rows L2
section
variable {P : Program} {w : World} {K : PySem.W.Frag} {mg : Str → Option Value} {base : Heap}
noncomputable def sp_told_row : Sp := fun vs H Q _ => ∃ (G : Hp) (v : V) (ns : List Nat), vs = [v] ∧ Same G H ∧ LI G v ns ∧ ns.length ≤ 100000 ∧ Ret G H LI (ns.length :: ns) Q
private theorem c_told_row (D : Def K mg "told_row" s_told_row ["row"]) (T : Txt mg) : Cal P w K mg base 1 "told_row" ["row"] sp_told_row := by
  refine D.cal sc_told_row (fun vs H Q E h => ?_) (fun f cdv A outer s H vs Q E hr h => ?_)
  · obtain ⟨G, v, ns, rfl, _⟩ := h
    rfl
  · obtain ⟨G, v, ns, rfl, sg, hv, hl, k⟩ := h
    refine ⟨_, (pss_one (ps_ret (pe_op op_cat (pe_lst (pa_cons (pe_callB (lenS (K := K) rfl) rfl T.b_len PySem.boot_len (pa_cons (pv 0) pa_nil)) pa_nil)) (pv 0)))), ?_⟩
    walk_at "re"
    refine rd_len sg hv ?_
    intro p hp
    have g1 := (Grow.refl sg).made (o := .lst [V.int (ns.length : Int)]) hp
    refine rd_cat (ns := [ns.length]) g1.gh (LI.of upd_same) (LI.mono _ _ _ _ g1.gg hv) (by simp; omega) fun q hq => ?_
    exact k _ _ _ (g1.made hq) (LI.of upd_same)
end
end R
set_option linter.all false
set_option Elab.async false
set_option maxRecDepth 100000
set_option maxHeartbeats 4000000
namespace R
open PySem PySem.Spec PyProof.Rows L2
noncomputable def toL (b : M.PBook) : List M.PBook := if b = [] then [] else [b]
private theorem took_toL {n : Nat} {fs : List M.MF} {bs bs' : List M.PBook} {res : M.PBook} (n1 : 1 ≤ n) (h : Took n fs bs res bs') : ((M.remOf n bs).filter fun b => M.agreesM b fs) = toL res ++ ((M.remOf n bs').filter fun b => M.agreesM b fs) := by
  rcases h with ⟨e, rfl, rfl⟩ | ⟨wh, e⟩
  · rw [e]
    rfl
  · have : res ≠ [] := by
      intro z
      have := wh.len
      rw [z] at this
      simp at this
      omega
    rw [e, toL, if_neg this]
    rfl
private theorem took_end {n : Nat} {fs : List M.MF} {bs bs' : List M.PBook} {res : M.PBook} (n1 : 1 ≤ n) (h : Took n fs bs res bs') (z : res = []) : bs' = [] := by
  rcases h with ⟨_, _, e⟩ | ⟨wh, _⟩
  · exact e
  · have := wh.len
    rw [z] at this
    simp at this
    omega
private theorem took_whole {n : Nat} {fs : List M.MF} {bs bs' : List M.PBook} {res : M.PBook} (h : Took n fs bs res bs') (z : res ≠ []) : M.Whole n res := by
  rcases h with ⟨_, e, _⟩ | ⟨wh, _⟩
  · exact absurd e z
  · exact wh
end R
set_option linter.all false
set_option Elab.async false
set_option maxRecDepth 100000
set_option maxHeartbeats 4000000
namespace R
open PySem PySem.Spec PyProof.Rows L2
section
variable {P : Program} {w : World} {K : PySem.W.Frag} {mg : Str → Option Value} {base : Heap}
noncomputable def sp_speaking_against : Sp := fun vs H Q _ => ∃ (G : Hp) (vb vf : V) (n : Nat) (b : M.PBook) (fs : List M.MF), vs = [vb, vf] ∧ Same G H ∧ BK G vb b ∧ LS FD G vf fs ∧ M.Whole n b ∧ 1 ≤ n ∧ n ≤ 4 ∧ (∀ f ∈ fs, M.FOk n f) ∧ fs.length ≤ 1000 ∧ Ret G H LI (M.speakM fs b) Q
private theorem fm_not (p : Nat → Bool) : ∀ l : List Nat, l.filterMap (fun k => if p k = true then none else some (k + 1)) = (l.filter fun k => !p k).map (· + 1)
  | [] => rfl
  | x :: r => by
    have ih := fm_not p r
    cases h : p x <;> simp [h, ih]
private theorem speak_fm (fs : List M.MF) (b : M.PBook) : (List.range fs.length).filterMap (fun k => if M.agreesM b [fs.getD k (false, 0, [])] = true then none else some (k + 1)) = M.speakM fs b :=
  fm_not (fun k => M.agreesM b [fs.getD k (false, 0, [])]) _
private theorem c_speaking_against (D : Def K mg "speaking_against" s_speaking_against ["book", "findings"]) (T : Txt mg) (c_agrees : Cal P w K mg base 4 "agrees" ["book", "findings"] sp_agrees) : Cal P w K mg base 5 "speaking_against" ["book", "findings"] sp_speaking_against := by
  refine D.cal sc_speaking_against (fun vs H Q E h => ?_) (fun f cdv A outer s H vs Q E hr h => ?_)
  · obtain ⟨G, vb, vf, n, b, fs, rfl, _⟩ := h
    rfl
  · obtain ⟨G, vb, vf, n, b, fs, rfl, sg, hb, hf, wh, n1, n4, hok, hl, k⟩ := h
    refine ⟨_, (pss_one (ps_ret (pe_lc rfl sc_speaking_against.nd (pi_range1 rfl T.b_range (pa_cons (pe_callB (lenS (K := K) rfl) rfl T.b_len PySem.boot_len (pa_cons (pv 1) pa_nil)) pa_nil)) (blkOk_by (own := [("k", 2)]) (by kernel_rfl)) (fun _ _ _ _ _ => (pg_name (i := 2) sc_speaking_against.nd rfl (by first | exact Or.inl rfl | exact Or.inr rfl))) (fun _ _ _ _ _ => (pts_one (pt_not (ptT (K := K) rfl (pcl c_agrees hr (by decide) (pa_cons (pv 0) (pa_cons (pe_lst (pa_cons (pe_ix (ixL (K := K) rfl) (pv 1) (pv 2) (fun _ _ => rfl)) pa_nil)) pa_nil))) (fun _ => rfl))))) (fun _ _ _ _ _ => (pe_op op_add (pv 2) pe_int))))), ?_⟩
    walk_at "re"
    refine rd_len sg hf ⟨_, rfl, by omega, by omega, ?_⟩
    rw [Int.toNat_natCast]
    refine lc_fmR NV.mono (o := fun k => if M.agreesM b [fs.getD k (false, 0, [])] = true then none else some (k + 1)) sg (by omega) (fun i G' H' Nx Qk hi g' ks kn => ?_) (fun D' G3 H3 g3 hD => ?_)
    · walk_at "re"
      have hfi : fs[i]? = some (fs.getD i (false, 0, [])) := by
        rw [List.getD_eq_getElem?_getD, List.getElem?_eq_getElem hi]
        rfl
      refine rd_ix g'.gh (LS.mono FD.mono _ _ _ _ g'.gg hf) hfi fun v hv => ?_
      intro p hp
      have g3 := (Grow.refl g'.gh).made (o := .lst [v]) hp
      have sm3 := Same.upd_none (o := .lst [v]) (g'.gh.free hp)
      refine ⟨_, vb, .ref p, n, b, [fs.getD i (false, 0, [])], rfl, g3.gh, BK.mono _ _ _ _ (g'.gg.trans sm3) hb, ⟨p, [v], rfl, upd_same, .cons (FD.mono _ _ _ _ sm3 hv) .nil⟩, wh, n1, n4, ?_, fun r G4 H4 g4 hr4 => ?_⟩
      · intro x hx
        rw [List.mem_singleton.mp hx]
        exact hok _ (List.mem_of_getElem? hfi)
      · cases hr4
        have g34 := g3.trans g4
        refine ⟨_, tru_bl, ?_⟩
        cases e : M.agreesM b [fs.getD i (false, 0, [])] with
        | true => exact kn (by rw [e]; rfl) _ _ g34
        | false =>
          have := ks (i + 1) (by rw [e]; rfl) (.int ((i + 1 : Nat) : Int)) _ _ g34 rfl
          exact this
    · rw [speak_fm] at hD
      exact k _ _ _ g3 hD
noncomputable def sp_all_against : Sp := fun vs H Q _ => ∃ (G : Hp) (n : Nat) (vf vg : V) (fs gs : List M.MF), vs = [.int (n : Int), vf, vg] ∧ Same G H ∧ LS FD G vf fs ∧ LS FD G vg gs ∧ 1 ≤ n ∧ n ≤ 4 ∧ (∀ f ∈ fs, M.FOk n f) ∧ (∀ f ∈ gs, M.FOk n f) ∧ fs.length ≤ 1000 ∧
  ∀ r H' A, Same G H' → LS TI H' r A → (∀ x, x ∈ A ↔ x ∈ M.againstM n fs gs) → A.length ≤ 300000 → Q r H'
noncomputable def W_against (G H : Hp) (n : Nat) (vf vg : V) (fs gs : List M.MF) (d wa : Addr) (m : Nat) (σ : L2.St) (H' : Hp) : Prop :=
  ∃ (G' : Hp) (ws : List V) (bs : List M.PBook) (kvs : List (List Key × V)) (ks : List (List Nat)) (c : Nat) (vb : V) (res : M.PBook), σ = [some (.int (n : Int)), some vf, some vg, some (.ref d), some (.ref wa), some vb] ∧ Grow G H G' H' ∧ G' wa = none ∧ H' wa = some (.lst ws) ∧ G' d = none ∧ H' d = some (.dT kvs) ∧
    Paired (BK G') ws bs ∧ (∀ b ∈ bs, M.Pre n b) ∧ m = M.costs n bs + (if res = [] then 0 else 1) ∧ c + m ≤ 200001 ∧ BK G' vb res ∧ (res ≠ [] → M.Whole n res) ∧ (M.allOf n gs).drop c = toL res ++ ((M.remOf n bs).filter fun b => M.agreesM b gs) ∧ (res = [] → bs = []) ∧
    kvs.length ≤ c ∧ kvs.map (·.1) = ks.map keyOf ∧ (∀ x, x ∈ ks ↔ ∃ b ∈ (M.allOf n gs).take c, x = M.speakM fs b)
private theorem c_all_against (D : Def K mg "all_against" s_all_against ["n", "findings", "given"]) (T : Txt mg) (c_take_agreeing : Cal P w K mg base 5 "take_agreeing" ["n", "findings", "waiting"] sp_take_agreeing)
    (c_speaking_against : Cal P w K mg base 5 "speaking_against" ["book", "findings"] sp_speaking_against) : Cal P w K mg base 6 "all_against" ["n", "findings", "given"] sp_all_against := by
  refine D.cal sc_all_against (fun vs H Q E h => ?_) (fun f cdv A outer s H vs Q E hr h => ?_)
  · obtain ⟨G, n, vf, vg, fs, gs, rfl, _⟩ := h
    rfl
  · obtain ⟨G, n, vf, vg, fs, gs, rfl, sg, hf, hg, n1, n4, hok, hok2, hl, k⟩ := h
    have hu := hu_of hr
    refine ⟨_, (pss_cons (ps_set (i := 3) sc_all_against.nd rfl (by first | exact Or.inl rfl | exact Or.inr rfl) pe_dnewT)
 (pss_cons (ps_set (i := 4) sc_all_against.nd rfl (by first | exact Or.inl rfl | exact Or.inr rfl) (pe_lst (pa_cons (pe_lst pa_nil) pa_nil)))
 (pss_cons (ps_set (i := 5) sc_all_against.nd rfl (by first | exact Or.inl rfl | exact Or.inr rfl) (pcl c_take_agreeing hr (by decide) (pa_cons (pv 0) (pa_cons (pv 2) (pa_cons (pv 4) pa_nil)))))
 (pss_cons (ps_while PassesOwn.never (pt_cmpR (opNeD (K := K) rfl hr.units) (pv 5) (pe_lst pa_nil) (nomark _))
 (pss_cons (ps_dput hu (pv 3) (pe_callTy (callTup (K := K) rfl) rfl T.b_tuple boot_tuple (pa_cons (pcl c_speaking_against hr (by decide) (pa_cons (pv 5) (pa_cons (pv 1) pa_nil))) pa_nil)) pe_bl rfl)
 (pss_one (ps_set (i := 5) sc_all_against.nd rfl (by first | exact Or.inl rfl | exact Or.inr rfl) (pcl c_take_agreeing hr (by decide) (pa_cons (pv 0) (pa_cons (pv 2) (pa_cons (pv 4) pa_nil))))))))
 (pss_one (ps_ret (pe_callTy (callListD rfl) rfl T.b_list boot_list (pa_cons (pv 3) pa_nil)))))))), ?_⟩
    walk_at "re"
    intro d hd p hp q hq
    have gd := (Grow.refl sg).open (o := .dT []) hd
    have g1 := gd.made (o := .lst []) hp
    have g2 := g1.open (o := .lst [V.ref p]) hq
    have sm2 := Same.upd_none (o := .lst []) (gd.gh.free hp)
    have gq := g1.gh.free hq
    have q0 := g1.hh.free hq
    have pr : Paired (BK (upd G p (.lst []))) [V.ref p] [[]] := .cons ⟨p, [], rfl, upd_same, .nil⟩ .nil
    have dp : d ≠ p := ne_of_none upd_same hp
    have ed1 : upd (upd H d (.dT [])) p (.lst []) d = some (.dT []) := by rw [upd_ne dp, upd_same]
    have dq : d ≠ q := ne_of_none ed1 hq
    have ed2 : upd (upd (upd H d (.dT [])) p (.lst [])) q (.lst [V.ref p]) d = some (.dT []) := by rw [upd_ne dq]; exact ed1
    have gd2 : upd G p (.lst []) d = none := by rw [upd_ne dp]; exact sg.free hd
    generalize upd G p (.lst []) = G2 at g2 sm2 gq pr gd2
    have c0 := M.cost_start n4
    refine ⟨G2, n, vg, q, gs, [V.ref p], [[]], rfl, g2.gh, gq, upd_same, pr, ?_, by omega, LS.mono FD.mono _ _ _ _ sm2 hg, n1, n4, hok2, fun vr G4 H4 ws' bs' res gm4 gq4 eq4 pr4 hpre4 hc4 hres took strict => ?_⟩
    · intro b hb
      rw [List.mem_singleton.mp hb]
      exact M.Pre.nil n
    have ed4 := gm4.hh _ _ dq ed2
    have gd4 := gm4.nw d gd2 (by rw [ed2]; simp)
    refine ⟨W_against G H n vf vg fs gs d q, ⟨_, G4, ws', bs', [], [], 0, vr, res, rfl, g2.turned q0 gm4, gq4, eq4, gd4, ed4, pr4, hpre4, rfl, ?_, hres, took_whole took, ?_, took_end n1 took, Nat.le_refl _, rfl, by simp⟩, ?_⟩
    · split <;> omega
    · rw [← took_toL n1 took, M.rem_start]
      rfl
    rintro m σ H5 ⟨G5, ws, bs, kvs, ks, c, vb, rs, rfl, g5, gq5, eq5, gd5, ed5, pr5, hpre5, rfl, hcm, hvb, hwh, hdrop, hrb, hkl, hks, hmem⟩
    walk_at "re"
    intro p6 hp6
    have g6 := g5.made (o := .lst []) hp6
    have sm6 := Same.upd_none (o := .lst []) (g5.gh.free hp6)
    have pw : q ≠ p6 := ne_of_none eq5 hp6
    have pd : d ≠ p6 := ne_of_none ed5 hp6
    have hvb6 := BK.mono _ _ _ _ sm6 hvb
    refine rd_neNil Dat.leaf (by decide) g6.gh hvb6 upd_same ?_
    have eq6 : upd H5 p6 (.lst []) q = some (.lst ws) := by rw [upd_ne pw]; exact eq5
    have gq6 : upd G5 p6 (.lst []) q = none := by rw [upd_ne pw]; exact gq5
    have ed6 : upd H5 p6 (.lst []) d = some (.dT kvs) := by rw [upd_ne pd]; exact ed5
    have gd6 : upd G5 p6 (.lst []) d = none := by rw [upd_ne pd]; exact gd5
    have pr6 := pr_imp (fun _ _ z => BK.mono _ _ _ _ sm6 z) pr5
    generalize upd G5 p6 (.lst []) = G6 at g6 hvb6 gq6 gd6 pr6
    generalize upd H5 p6 (.lst []) = H6 at g6 eq6 ed6
    walk_at "re"
    refine ite2 (fun hn => ?_) (fun hn => ?_)
    · refine ⟨fun σ' H' => ∃ m', m' < M.costs n bs + (if rs = [] then 0 else 1) ∧ W_against G H n vf vg fs gs d q m' σ' H', fun _ _ z => z, ?_⟩
      rw [if_neg hn] at hcm ⊢
      walk_at "re"
      refine ⟨G6, vb, vf, n, rs, fs, rfl, g6.gh, hvb6, LS.mono FD.mono _ _ _ _ g6.gg hf, hwh hn, n1, n4, hok, hl, fun r7 G7 H7 g7 hr7 => ?_⟩
      obtain ⟨a7, rfl, ha7⟩ := hr7.at
      obtain ⟨eq7, gq7⟩ := g7.keep eq6 gq6
      obtain ⟨ed7, gd7⟩ := g7.keep ed6 gd6
      have g67 := g6.trans g7
      refine ⟨a7, _, rfl, Or.inl ⟨SqL.of (g7.gh _ _ ha7), fun l hll => ?_⟩⟩
      have g8 := g67.made (o := .tup ((M.speakM fs rs).map iv)) hll
      have sm8 := Same.upd_none (o := .tup ((M.speakM fs rs).map iv)) (g67.gh.free hll)
      have dl : d ≠ l := ne_of_none ed7 hll
      have ql : q ≠ l := ne_of_none eq7 hll
      have ed8 : upd H7 l (.tup ((M.speakM fs rs).map iv)) d = some (.dT kvs) := by rw [upd_ne dl]; exact ed7
      have gd8 : upd G7 l (.tup ((M.speakM fs rs).map iv)) d = none := by rw [upd_ne dl]; exact gd7
      have eq8 : upd H7 l (.tup ((M.speakM fs rs).map iv)) q = some (.lst ws) := by rw [upd_ne ql]; exact eq7
      have gq8 : upd G7 l (.tup ((M.speakM fs rs).map iv)) q = none := by rw [upd_ne ql]; exact gq7
      have el8 : upd H7 l (.tup ((M.speakM fs rs).map iv)) l = some (.tup ((keyOf (M.speakM fs rs)).map kV)) := by rw [upd_same, key_vals]
      refine ⟨_, DPut.t ed8 el8 (by rw [sizeLine_eq]; omega), ?_⟩
      have g9 := g8.set (o := .dT (putK kvs (keyOf (M.speakM fs rs)) (.bl true))) hd gd8
      have eq9 : upd (upd H7 l (.tup ((M.speakM fs rs).map iv))) d (.dT (putK kvs (keyOf (M.speakM fs rs)) (.bl true))) q = some (.lst ws) := by rw [upd_ne dq.symm]; exact eq8
      have ed9 : upd (upd H7 l (.tup ((M.speakM fs rs).map iv))) d (.dT (putK kvs (keyOf (M.speakM fs rs)) (.bl true))) d = some (.dT (putK kvs (keyOf (M.speakM fs rs)) (.bl true))) := upd_same
      have pr9 := pr_imp (fun _ _ z => BK.mono _ _ _ _ (g7.gg.trans sm8) z) pr6
      generalize upd (upd H7 l (.tup ((M.speakM fs rs).map iv))) d (.dT (putK kvs (keyOf (M.speakM fs rs)) (.bl true))) = H9 at g9 eq9 ed9
      generalize upd G7 l (.tup ((M.speakM fs rs).map iv)) = G9 at g9 gd8 gq8 pr9
      refine ⟨G9, n, vg, q, gs, ws, bs, rfl, g9.gh, gq8, eq9, pr9, hpre5, by omega, LS.mono FD.mono _ _ _ _ g9.gg hg, n1, n4, hok2, fun vr10 G10 H10 ws10 bs10 res10 gm10 gq10 eq10 pr10 hpre10 hc10 hres10 took10 strict10 => ?_⟩
      have hcons : (M.allOf n gs).drop c = rs :: ((M.remOf n bs).filter fun b => M.agreesM b gs) := by
        rw [hdrop, toL, if_neg hn]
        rfl
      have hget : (M.allOf n gs)[c]? = some rs := by
        have : ((M.allOf n gs).drop c)[0]? = some rs := by
          rw [hcons]
          rfl
        rw [List.getElem?_drop] at this
        exact this
      obtain ⟨ks', hks', hmem'⟩ := keys_put (ns := M.speakM fs rs) (v := .bl true) hks
      have hlt : M.costs n bs10 + (if res10 = [] then 0 else 1) < M.costs n bs + 1 := by
        by_cases z : res10 = []
        · rw [if_pos z]
          omega
        · rw [if_neg z]
          have := strict10 z
          omega
      refine ⟨_, hlt, G10, ws10, bs10, _, ks', c + 1, vr10, res10, rfl, g9.turned q0 gm10, gq10, eq10, gm10.nw d gd8 (by rw [ed9]; simp), gm10.hh _ _ dq ed9, pr10, hpre10, rfl, by omega, hres10, took_whole took10, ?_, took_end n1 took10, ?_, hks', ?_⟩
      · rw [← took_toL n1 took10]
        have : (M.allOf n gs).drop (c + 1) = ((M.allOf n gs).drop c).drop 1 := by rw [List.drop_drop]
        rw [this, hcons]
        rfl
      · have := length_putK kvs (keyOf (M.speakM fs rs)) (.bl true)
        omega
      · intro x
        rw [hmem' x, hmem x, List.take_add_one, hget]
        constructor
        · rintro (⟨b, hb, e⟩ | e)
          · exact ⟨b, List.mem_append_left _ hb, e⟩
          · exact ⟨rs, List.mem_append_right _ (by simp), e⟩
        · rintro ⟨b, hb, e⟩
          rw [List.mem_append] at hb
          rcases hb with hb | hb
          · exact Or.inl ⟨b, hb, e⟩
          · have : b = rs := by simpa using hb
            rw [this] at e
            exact Or.inr e
    · have hn : rs = [] := by
        by_cases z : rs = []
        · exact z
        · exact absurd z hn
      refine ⟨d, kvs, rfl, ed6, fun l vs hll pv => ?_⟩
      have g7 := g6.made (o := .lst vs) hll
      refine k _ _ ks (g7.gg.trans g7.gh) ⟨l, vs, rfl, upd_same, ?_⟩ ?_ ?_
      · have pv2 : Paired (fun (v : V) (key : List Key) => ∃ q, v = .ref q ∧ H6 q = some (.tup (key.map kV))) vs (kvs.map (·.1)) := pr_mapR (fun kv : List Key × V => kv.1) (fun _ _ z => z) pv
        rw [hks] at pv2
        refine pr_unmap keyOf (fun v ns hz => ?_) pv2
        obtain ⟨q', e1, e2⟩ := hz
        rw [key_vals] at e2
        exact ⟨q', e1, by rw [upd_ne (ne_of_none e2 hll)]; exact e2⟩
      · intro x
        have hz : (M.allOf n gs).drop c = [] := by
          rw [hdrop, hrb hn, hn]
          rfl
        rw [hmem x, List.take_of_length_le (List.drop_eq_nil_iff.mp hz)]
        unfold M.againstM
        rw [List.mem_map]
        exact ⟨fun ⟨b, hb, e⟩ => ⟨b, hb, e.symm⟩, fun ⟨b, hb, e⟩ => ⟨b, hb, e.symm⟩⟩
      · have := congrArg List.length hks
        rw [List.length_map, List.length_map] at this
        omega
end
end R
set_option linter.all false
set_option Elab.async false
set_option maxRecDepth 100000
set_option maxHeartbeats 4000000
namespace R
open PySem PySem.Spec PyProof.Rows L2
section
variable {P : Program} {w : World} {K : PySem.W.Frag} {mg : Str → Option Value} {base : Heap}
noncomputable def sp_rules_all_out : Sp := fun vs H Q _ => ∃ (G : Hp) (vr va : V) (row : List Nat) (A : List (List Nat)), vs = [vr, va] ∧ Same G H ∧ LI G vr row ∧ LS TI G va A ∧ (∀ x ∈ A, x.length ≤ 1000) ∧ Ret G H BV (M.outM row A) Q
noncomputable def I_rules (G H : Hp) (vr va : V) (row : List Nat) (A : List (List Nat)) (i : Nat) (σ : L2.St) (H' : Hp) : Prop :=
  ∃ (G' : Hp) (x y : Option V), σ = [some vr, some va, x, y] ∧ Grow G H G' H' ∧ (∀ ns ∈ A.take i, (ns.any fun x => decide (x ∈ row)) = true)
private theorem c_rules_all_out (D : Def K mg "rules_all_out" s_rules_all_out ["row", "against"]) (T : Txt mg) : Cal P w K mg base 1 "rules_all_out" ["row", "against"] sp_rules_all_out := by
  refine D.cal sc_rules_all_out (fun vs H Q E h => ?_) (fun f cdv A outer s H vs Q E hr h => ?_)
  · obtain ⟨G, vr, va, row, A, rfl, _⟩ := h
    rfl
  · obtain ⟨G, vr, va, row, Ag, rfl, sg, hv, ha, hlen, k⟩ := h
    refine ⟨_, (pss_cons (ps_for PassesOwn.never rfl (pi_list (pv 1)) (pg_name (i := 2) sc_rules_all_out.nd rfl (by first | exact Or.inl rfl | exact Or.inr rfl))
 (pss_one (ps_if (pt_not (ptT (K := K) rfl (pe_callB (cr_any rfl) rfl T.b_any boot_any (pa_cons (pe_lc rfl sc_rules_all_out.nd (pi_tup (pv 2)) (blkOk_by (own := [("number", 3)]) (by kernel_rfl)) (fun _ _ _ _ _ => (pg_name (i := 3) sc_rules_all_out.nd rfl (by first | exact Or.inl rfl | exact Or.inr rfl))) (fun _ _ _ _ _ => pts_nil) (fun _ _ _ _ _ => (pe_cmpR (opIn (K := K) rfl) (pv 3) (pv 0) (by with_unfolding_all rfl)))) pa_nil)) (fun _ => rfl))) (pss_one (ps_ret pe_bl)) pss_nil)))
 (pss_one (ps_ret pe_bl))), ?_⟩
    walk_at "re"
    refine rd_forL sg ha fun a vs e hga hp => ?_
    refine for_list (K := K) (a := a) (xs := vs) (I_rules G H vr va row Ag) ?start ?stays ?turn ?after
    case start => exact ⟨G, none, none, rfl, Grow.refl sg, by simp⟩
    case stays =>
      rintro i σ H' hi ⟨G', x, y, _, g, _⟩
      exact SqL.of (g.gh _ _ (g.gg _ _ hga))
    case turn =>
      rintro i z σ H' hz ⟨G', x, y, rfl, g, hall⟩
      obtain ⟨ns, hns, hti⟩ := pr_get hp hz
      obtain ⟨b, rfl, hb⟩ := hti
      have hb' := g.gg _ _ hb
      walk_at "re"
      refine ⟨⟨_, SqT.of (g.gh _ _ hb')⟩, lc_fmT (K := K) BV.mono (o := fun x => some (decide (x ∈ row))) g.gh hb' (by have := hlen ns (List.mem_of_getElem? hns); omega) (fun y G2 H2 Nx Qk hy g2 ks kn => ?_) (fun D' G3 H3 g3 hD => ?_)⟩
      · walk_at "re"
        refine rd_in g2.gh (LI.mono _ _ _ _ (g.gg.trans g2.gg) hv) ?_
        exact ks _ rfl _ _ _ (Grow.refl g2.gh) rfl
      · rw [fmap_some] at hD
        refine rd_any g3.gh hD ?_
        have e2 : (ns.map fun x => decide (x ∈ row)).any id = ns.any fun x => decide (x ∈ row) := by
          rw [List.any_map]
          rfl
        rw [e2]
        refine ⟨_, tru_bl, ?_⟩
        cases e3 : (ns.any fun x => decide (x ∈ row)) with
        | false =>
          refine k _ _ _ (g.trans g3) ?_
          have : M.outM row Ag = false := by
            unfold M.outM
            rw [List.all_eq_false]
            exact ⟨ns, List.mem_of_getElem? hns, by rw [e3]; simp⟩
          rw [this]
          rfl
        | true =>
          refine ⟨_, _, _, rfl, g.trans g3, fun m hm => ?_⟩
          rw [List.take_add_one, hns, List.mem_append] at hm
          rcases hm with hm | hm
          · exact hall m hm
          · have : m = ns := by simpa using hm
            rw [this]
            exact e3
    case after =>
      rintro σ H' ⟨G', x, y, rfl, g, hall⟩
      walk_at "re"
      rw [hp.length, List.take_of_length_le (Nat.le_refl _)] at hall
      refine k _ _ _ g ?_
      have : M.outM row Ag = true := by
        unfold M.outM
        rw [List.all_eq_true]
        exact hall
      rw [this]
      rfl
noncomputable def sp_longer_rows : Sp := fun vs H Q _ => ∃ (G : Hp) (most : Nat) (vr : V) (rows : List (List Nat)), vs = [.int (most : Int), vr] ∧ Same G H ∧ LL G vr rows ∧ most ≤ 8 ∧ rows.length ≤ 1000 ∧ (∀ r ∈ rows, r.length ≤ 1000 ∧ M.lastN r ≤ most) ∧ Ret G H LL (M.longerM most rows) Q
noncomputable def I_longer (G H : Hp) (most : Nat) (vr : V) (q : Addr) (done : List (List Nat)) (σ : L2.St) (H' : Hp) : Prop :=
  ∃ (G' : Hp) (pvs : List V) (x y z : Option V), σ = [some (.int (most : Int)), some vr, some (.ref q), x, y, z] ∧ Grow G H G' H' ∧ G' q = none ∧ H' q = some (.lst pvs) ∧ Paired (LI G') pvs done
noncomputable def J_longer (G H : Hp) (most : Nat) (vr vx : V) (last : Nat) (row : List Nat) (q : Addr) (done : List (List Nat)) (σ : L2.St) (H' : Hp) : Prop :=
  ∃ (G' : Hp) (pvs : List V) (z : Option V), σ = [some (.int (most : Int)), some vr, some (.ref q), some vx, some (.int (last : Int)), z] ∧ Grow G H G' H' ∧ LI G' vx row ∧ G' q = none ∧ H' q = some (.lst pvs) ∧ Paired (LI G') pvs done
noncomputable def ext1 (most : Nat) (r : List Nat) : List (List Nat) := (M.rangeL (M.lastN r) most).map fun x => r ++ [x]
private theorem ext_len (most : Nat) (r : List Nat) (h : most ≤ 8) : (ext1 most r).length ≤ 8 := by
  unfold ext1 M.rangeL
  rw [List.length_map, List.length_map, List.length_range]
  omega
private theorem longer_take {most : Nat} {rows : List (List Nat)} {i : Nat} {r : List Nat} (h : rows[i]? = some r) : M.longerM most (rows.take (i + 1)) = M.longerM most (rows.take i) ++ ext1 most r := by
  unfold M.longerM
  rw [List.take_add_one, h, List.flatMap_append]
  simp [ext1]
private theorem longer_len {most : Nat} (h : most ≤ 8) (rows : List (List Nat)) : (M.longerM most rows).length ≤ rows.length * 8 := M.flat_len (f := ext1 most) fun r _ => ext_len most r h
private theorem c_longer_rows (D : Def K mg "longer_rows" s_longer_rows ["most", "rows"]) (T : Txt mg) : Cal P w K mg base 1 "longer_rows" ["most", "rows"] sp_longer_rows := by
  refine D.cal sc_longer_rows (fun vs H Q E h => ?_) (fun f cdv A outer s H vs Q E hr h => ?_)
  · obtain ⟨G, most, vr, rows, rfl, _⟩ := h
    rfl
  · obtain ⟨G, most, vr, rows, rfl, sg, hv, hm, hl, hrs, k⟩ := h
    refine ⟨_, (pss_cons (ps_set (i := 2) sc_longer_rows.nd rfl (by first | exact Or.inl rfl | exact Or.inr rfl) (pe_lst pa_nil))
 (pss_cons (ps_for PassesOwn.never rfl (pi_list (pv 1)) (pg_name (i := 3) sc_longer_rows.nd rfl (by first | exact Or.inl rfl | exact Or.inr rfl))
 (pss_cons (ps_set (i := 4) sc_longer_rows.nd rfl (by first | exact Or.inl rfl | exact Or.inr rfl) (pe_ifExp (pt_cmpR (opNeD (K := K) rfl hr.units) (pv 3) (pe_lst pa_nil) (nomark _)) (pe_ix (ixL (K := K) rfl) (pv 3) (pe_un un_neg pe_int) (fun _ _ => rfl)) pe_int))
 (pss_one (ps_for PassesOwn.never rfl (pi_range2 rfl T.b_range (pa_cons (pe_op op_add (pv 4) pe_int) (pa_cons (pe_op op_add (pv 0) pe_int) pa_nil))) (pg_name (i := 5) sc_longer_rows.nd rfl (by first | exact Or.inl rfl | exact Or.inr rfl))
 (pss_one (ps_expr (pe_bm PySem.F.plainAttrs_list PySem.F.slot_list_append PySem.F.type_list_append mt_append (pv 2) (pa_cons (pe_op op_cat (pv 3) (pe_lst (pa_cons (pv 5) pa_nil))) pa_nil))))))))
 (pss_one (ps_ret (pv 2))))), ?_⟩
    walk_at "re"
    intro q hq
    have g0 := (Grow.refl sg).open (o := .lst []) hq
    refine rd_forL g0.gh hv fun a vs e hga hp => ?_
    refine for_list (K := K) (a := a) (xs := vs) (fun i σ H' => I_longer G H most vr q (M.longerM most (rows.take i)) σ H') ?start ?stays ?turn ?after
    case start => exact ⟨G, [], none, none, none, rfl, g0, sg.free hq, upd_same, .nil⟩
    case stays =>
      rintro i σ H' hi ⟨G', pvs, x, y, z, _, g, _⟩
      exact SqL.of (g.gh _ _ (g.gg _ _ hga))
    case turn =>
      rintro i vx σ H' hz ⟨G', pvs, x, y, z0, rfl, g, gq, eq, pr⟩
      obtain ⟨row, hrow, hti⟩ := pr_get hp hz
      obtain ⟨hrl, hrm⟩ := hrs row (List.mem_of_getElem? hrow)
      have hil : i < rows.length := (List.getElem?_eq_some_iff.mp hrow).1
      have hti' := LI.mono _ _ _ _ g.gg hti
      have hlt := longer_len hm (rows.take i)
      rw [List.length_take] at hlt
      -- the number of the last
      refine rd_two (J_longer G H most vr vx (M.lastN row) row q (M.longerM most (rows.take i))) ?r1 (fun U hU => ?f1)
      case f1 =>
        walk_at "re"
        intro p hp0
        have g1 := g.made (o := .lst []) hp0
        have sm1 := Same.upd_none (o := .lst []) (g.gh.free hp0)
        have pq : q ≠ p := ne_of_none eq hp0
        have eq1 : upd H' p (.lst []) q = some (.lst pvs) := by rw [upd_ne pq]; exact eq
        have gq1 : upd G' p (.lst []) q = none := by rw [upd_ne pq]; exact gq
        have hr1 := LI.mono _ _ _ _ sm1 hti'
        have pr1 := pr_imp (fun _ _ c => LI.mono _ _ _ _ sm1 c) pr
        refine rd_neNil Dat.nat (by decide) g1.gh hr1 upd_same ?_
        walk_at "re"
        refine ite2 (fun hne => ?_) (fun hne => ?_)
        · cases el : row.getLast? with
          | none => exact absurd (List.getLast?_eq_none_iff.mp el) hne
          | some z =>
            refine rd_last g1.gh hr1 el fun v hv => ?_
            cases hv
            have ez : M.lastN row = z := by unfold M.lastN; rw [el]; rfl
            refine hU _ _ ⟨_, pvs, z0, ?_, g1, hr1, gq1, eq1, pr1⟩
            rw [ez]
        · have hne : row = [] := by
            by_cases z : row = []
            · exact z
            · exact absurd z hne
          refine hU _ _ ⟨_, pvs, z0, ?_, g1, hr1, gq1, eq1, pr1⟩
          rw [hne]
          rfl
      case r1 =>
      rintro σ1 H1 ⟨G1, pvs1, z1, rfl, g1, hr1, gq1, eq1, pr1⟩
      walk_at "re"
      have hn : ((most : Int) + 1 - ((M.lastN row : Int) + 1)).toNat = most - M.lastN row := by omega
      refine ⟨_, _, ⟨rfl, rfl⟩, ⟨by omega, by omega, by omega, by omega⟩, for_range (n := ((most : Int) + 1 - ((M.lastN row : Int) + 1)).toNat) (fun j σ H' => J_longer G H most vr vx (M.lastN row) row q (M.longerM most (rows.take i) ++ (ext1 most row).take j) σ H') ?start2 ?turn2 ?after2⟩
      case start2 => exact ⟨G1, pvs1, z1, rfl, g1, hr1, gq1, eq1, by rw [List.take_zero, List.append_nil]; exact pr1⟩
      case turn2 =>
        rintro j σ H2 hj ⟨G2, pvs2, z2, rfl, g2, hr2, gq2, eq2, pr2⟩
        rw [hn] at hj
        have hx : (ext1 most row)[j]? = some (row ++ [M.lastN row + 1 + j]) := by
          unfold ext1 M.rangeL
          rw [List.getElem?_map, List.getElem?_map, List.getElem?_range hj]
          rfl
        walk_at "re"
        refine ⟨ty_list eq2, fun p hp0 => ?_⟩
        have en : (V.int ((M.lastN row : Int) + 1 + (j : Int))) = iv (M.lastN row + 1 + j) := by
          show V.int _ = V.int _
          congr 1
        rw [en]
        have g3 := g2.made (o := .lst [iv (M.lastN row + 1 + j)]) hp0
        have sm3 := Same.upd_none (o := .lst [iv (M.lastN row + 1 + j)]) (g2.gh.free hp0)
        have pw : q ≠ p := ne_of_none eq2 hp0
        refine rd_cat (ms := [M.lastN row + 1 + j]) g3.gh (LI.mono _ _ _ _ sm3 hr2) (LI.of upd_same) (by simp; omega) fun p' hp' => ?_
        have g4 := g3.made (o := .lst ((row ++ [M.lastN row + 1 + j]).map iv)) hp'
        have sm4 := Same.upd_none (o := .lst ((row ++ [M.lastN row + 1 + j]).map iv)) (g3.gh.free hp')
        have eq3 : upd H2 p (.lst [iv (M.lastN row + 1 + j)]) q = some (.lst pvs2) := by rw [upd_ne pw]; exact eq2
        have pw' : q ≠ p' := ne_of_none eq3 hp'
        have lp := pr2.length
        have el := ext_len most row hm
        rw [List.length_append, List.length_take] at lp
        refine rd_app (by rw [upd_ne pw']; exact eq3) (by omega) ?_
        have gq4 : (upd (upd G2 p (.lst [iv (M.lastN row + 1 + j)])) p' (.lst ((row ++ [M.lastN row + 1 + j]).map iv))) q = none := by rw [upd_ne pw', upd_ne pw]; exact gq2
        refine ⟨_, _, _, rfl, g4.set hq gq4, LI.mono _ _ _ _ (sm3.trans sm4) hr2, gq4, upd_same, ?_⟩
        rw [List.take_add_one, hx, ← List.append_assoc]
        exact pr_app (pr_imp (fun _ _ c => LI.mono _ _ _ _ (sm3.trans sm4) c) pr2) (.cons (LI.of upd_same) .nil)
      case after2 =>
        rintro σ H2 ⟨G2, pvs2, z2, rfl, g2, hr2, gq2, eq2, pr2⟩
        refine ⟨G2, pvs2, _, _, _, rfl, g2, gq2, eq2, ?_⟩
        rw [longer_take hrow]
        have : (ext1 most row).length ≤ ((most : Int) + 1 - ((M.lastN row : Int) + 1)).toNat := by
          unfold ext1 M.rangeL
          rw [List.length_map, List.length_map, List.length_range]
          omega
        rw [List.take_of_length_le this] at pr2
        exact pr2
    case after =>
      rintro σ H' ⟨G', pvs, x, y, z, rfl, g, gq, eq, pr⟩
      walk_at "re"
      rw [hp.length, List.take_of_length_le (Nat.le_refl _)] at pr
      exact k _ _ _ (g.fin hq gq eq) ⟨q, pvs, rfl, upd_same, pr_imp (fun _ _ c => LI.mono _ _ _ _ (Same.upd_none gq) c) pr⟩
noncomputable def sp_fewest_against : Sp := fun vs H Q _ => ∃ (G : Hp) (most : Nat) (va : V) (A : List (List Nat)), vs = [.int (most : Int), va] ∧ Same G H ∧ LS TI G va A ∧ most ≤ 8 ∧ (∀ x ∈ A, x.length ≤ 1000) ∧ Ret G H LI (M.fewestM most A) Q
noncomputable def W_fewest (G H : Hp) (most : Nat) (va : V) (A : List (List Nat)) (m : Nat) (σ : L2.St) (H' : Hp) : Prop :=
  ∃ (G' : Hp) (vr : V) (x : Option V) (j : Nat), σ = [some (.int (most : Int)), some va, some vr, x] ∧ Grow G H G' H' ∧ LL G' vr (M.rowsAt most j) ∧ j ≤ most + 1 ∧ m = most + 1 - j ∧ M.fewFrom most A (most + 1 - j) (M.rowsAt most j) = M.fewestM most A
noncomputable def I_fewest (G H : Hp) (most : Nat) (va vr : V) (A : List (List Nat)) (rows : List (List Nat)) (i : Nat) (σ : L2.St) (H' : Hp) : Prop :=
  ∃ (G' : Hp) (x : Option V), σ = [some (.int (most : Int)), some va, some vr, x] ∧ Grow G H G' H' ∧ ∀ r ∈ rows.take i, M.outM r A = false
private theorem find_first {α : Type} {p : α → Bool} : ∀ {l : List α} {i : Nat} {x : α}, l[i]? = some x → p x = true → (∀ y ∈ l.take i, p y = false) → l.find? p = some x
  | [], _, _, h, _, _ => by simp at h
  | y :: r, 0, x, h, hx, _ => by
    have : y = x := by simpa using h
    subst this
    rw [List.find?_cons, hx]
  | y :: r, i + 1, x, h, hx, hn => by
    rw [List.find?_cons, hn y (by simp)]
    exact find_first (l := r) (i := i) (by simpa using h) hx fun z hz => hn z (by simp [hz])
private theorem rows_last {most j : Nat} (hm : most ≤ 8) (hj : j ≤ most) : ∀ r ∈ M.rowsAt most j, r.length ≤ 1000 ∧ M.lastN r ≤ most := fun r hr => by
  have h := List.all_eq_true.mp (M.rows_short most (by omega) j (by omega)) r hr
  simp only [Bool.and_eq_true, decide_eq_true_eq, List.all_eq_true] at h
  refine ⟨by omega, ?_⟩
  unfold M.lastN
  cases e : r.getLast? with
  | none => exact Nat.zero_le _
  | some x => exact h.2 x (List.mem_of_getLast? e)
private theorem c_fewest_against (D : Def K mg "fewest_against" s_fewest_against ["most", "against"]) (T : Txt mg) (c_rules_all_out : Cal P w K mg base 1 "rules_all_out" ["row", "against"] sp_rules_all_out)
    (c_longer_rows : Cal P w K mg base 1 "longer_rows" ["most", "rows"] sp_longer_rows) : Cal P w K mg base 2 "fewest_against" ["most", "against"] sp_fewest_against := by
  refine D.cal sc_fewest_against (fun vs H Q E h => ?_) (fun f cdv A outer s H vs Q E hr h => ?_)
  · obtain ⟨G, most, va, A, rfl, _⟩ := h
    rfl
  · obtain ⟨G, most, va, Ag, rfl, sg, ha, hm, hal, k⟩ := h
    refine ⟨_, (pss_cons (ps_set (i := 2) sc_fewest_against.nd rfl (by first | exact Or.inl rfl | exact Or.inr rfl) (pe_lst (pa_cons (pe_lst pa_nil) pa_nil)))
 (pss_cons (ps_while PassesOwn.never (pt_cmpR (opNeD (K := K) rfl hr.units) (pv 2) (pe_lst pa_nil) (nomark _))
 (pss_cons (ps_for PassesOwn.never rfl (pi_list (pv 2)) (pg_name (i := 3) sc_fewest_against.nd rfl (by first | exact Or.inl rfl | exact Or.inr rfl))
 (pss_one (ps_if (ptT (K := K) rfl (pcl c_rules_all_out hr (by decide) (pa_cons (pv 3) (pa_cons (pv 1) pa_nil))) (fun _ => rfl)) (pss_one (ps_ret (pv 3))) pss_nil)))
 (pss_one (ps_set (i := 2) sc_fewest_against.nd rfl (by first | exact Or.inl rfl | exact Or.inr rfl) (pcl c_longer_rows hr (by decide) (pa_cons (pv 0) (pa_cons (pv 2) pa_nil)))))))
 (pss_one (ps_ret (pe_lst pa_nil))))), ?_⟩
    walk_at "re"
    intro p hp q hq
    have g1 := (Grow.refl sg).made (o := .lst []) hp
    have g2 := g1.made (o := .lst [V.ref p]) hq
    have sm2 := Same.upd_none (o := .lst [V.ref p]) (g1.gh.free hq)
    refine ⟨W_fewest G H most va Ag, ⟨_, _, _, none, 0, rfl, g2, ⟨q, [V.ref p], rfl, upd_same, .cons (LI.mono _ _ _ _ sm2 (LI.of (ns := []) upd_same)) .nil⟩, Nat.zero_le _, rfl, rfl⟩, ?_⟩
    rintro m σ H3 ⟨G3, vr, x, j, rfl, g3, hv3, hj, rfl, hfew⟩
    walk_at "re"
    intro p4 hp4
    have g4 := g3.made (o := .lst []) hp4
    have hv4 := LL.mono _ _ _ _ (Same.upd_none (o := .lst []) (g3.gh.free hp4)) hv3
    refine rd_neNil Dat.nat.list (by decide) g4.gh hv4 upd_same ?_
    generalize upd G3 p4 (.lst []) = G4 at g4 hv4
    generalize upd H3 p4 (.lst []) = H4 at g4
    walk_at "re"
    refine ite2 (fun hn => ?_) (fun hn p5 hp5 => ?_)
    · have hj2 : j ≤ most := by
        rcases Nat.lt_or_ge most j with z | z
        · have : j = most + 1 := by omega
          rw [this] at hn
          exact absurd (M.rows_end most (by omega)) hn
        · exact z
      obtain ⟨f', hf'⟩ : ∃ f', most + 1 - j = f' + 1 := ⟨most - j, by omega⟩
      rw [hf', M.fewFrom] at hfew
      refine ⟨fun σ' H' => ∃ m', m' < most + 1 - j ∧ W_fewest G H most va Ag m' σ' H', fun _ _ z => z, ?_⟩
      refine rd_forL g4.gh hv4 fun a vs e hga hpp => ?_
      refine for_list (K := K) (a := a) (xs := vs) (I_fewest G4 H4 most va vr Ag (M.rowsAt most j)) ?start ?stays ?turn ?after
      case start => exact ⟨G4, x, rfl, Grow.refl g4.gh, by simp⟩
      case stays =>
        rintro i σ H' hi ⟨G', y, _, g, _⟩
        exact SqL.of (g.gh _ _ (g.gg _ _ hga))
      case turn =>
        rintro i z σ H' hz ⟨G', y, rfl, g, hno⟩
        obtain ⟨row, hrow, hti⟩ := pr_get hpp hz
        have hti' := LI.mono _ _ _ _ g.gg hti
        walk_at "re"
        refine ⟨G', z, va, row, Ag, rfl, g.gh, hti', LS.mono TI.mono _ _ _ _ (g4.gg.trans g.gg) ha, hal, fun r5 G5 H5 g5 hr5 => ?_⟩
        cases hr5
        refine ⟨_, tru_bl, ite2 (fun h => ?_) (fun h => ?_)⟩
        · refine k _ _ _ (g4.trans (g.trans g5)) ?_
          rw [← hfew, find_first hrow h hno]
          exact LI.mono _ _ _ _ g5.gg hti'
        · refine ⟨G5, _, rfl, g.trans g5, fun r hr => ?_⟩
          rw [List.take_add_one, hrow, List.mem_append] at hr
          rcases hr with hr | hr
          · exact hno r hr
          · have : r = row := by simpa using hr
            rw [this]
            simpa using h
      case after =>
        rintro σ H' ⟨G', y, rfl, g, hno⟩
        rw [hpp.length, List.take_of_length_le (Nat.le_refl _)] at hno
        have hnone : (M.rowsAt most j).find? (fun r => M.outM r Ag) = none := by
          rw [List.find?_eq_none]
          intro r hr
          rw [hno r hr]
          simp
        rw [hnone] at hfew
        walk_at "re"
        have few := M.rows_few most (by omega) j (by omega)
        refine ⟨G', most, vr, M.rowsAt most j, rfl, g.gh, LL.mono _ _ _ _ g.gg hv4, hm, by omega, rows_last hm hj2, fun r6 G6 H6 g6 hr6 => ?_⟩
        refine ⟨most + 1 - (j + 1), by omega, G6, r6, _, j + 1, rfl, g4.trans (g.trans g6), hr6, by omega, rfl, ?_⟩
        rw [show most + 1 - (j + 1) = f' by omega]
        exact hfew
    · have hn : M.rowsAt most j = [] := by
        by_cases z : M.rowsAt most j = []
        · exact z
        · exact absurd z hn
      refine k _ _ _ (g4.made (o := .lst []) hp5) ?_
      rw [← hfew, hn]
      have : ∀ f, M.fewFrom most Ag f [] = [] := by
        intro f
        induction f with
        | zero => rfl
        | succ f ih =>
          unfold M.fewFrom
          exact ih
      rw [this]
      exact LI.of upd_same
end
end R
set_option linter.all false
set_option Elab.async false
set_option maxRecDepth 100000
set_option maxHeartbeats 4000000
namespace R
open PySem PySem.Spec PyProof.Rows L2
noncomputable def Few8 (t : List Nat) : Prop := ∀ n fs, M.readFindings t = some (n, fs) → 1 ≤ n ∧ n ≤ 4 ∧ fs.length ≤ 8 ∧ ∀ f ∈ fs, M.FOk n f
noncomputable def ZH (zs : List Int) (r : V) (H : Hp) : Prop := ∃ a, r = .ref a ∧ H a = some (.lst (zs.map V.int))
private theorem zh_new {zs : List Int} {H : Hp} {p : Addr} {vs : List V} (e : vs = zs.map V.int) : ZH zs (.ref p) (upd H p (.lst vs)) := ⟨p, rfl, by rw [upd_same, e]⟩
private theorem zh_row {G H : Hp} {r : V} {ns : List Nat} (s : Same G H) (h : LI G r (ns.length :: ns)) : ZH (M.rowM ns) r H := by
  obtain ⟨a, rfl, ha⟩ := h.at
  refine ⟨a, rfl, ?_⟩
  rw [s _ _ ha, map_iv]
  rfl
private theorem speak_len (fs : List M.MF) (b : M.PBook) : (M.speakM fs b).length ≤ fs.length := by
  unfold M.speakM
  rw [List.length_map]
  have := List.length_filter_le (fun k => !M.agreesM b [fs.getD k (false, 0, [])]) (List.range fs.length)
  rw [List.length_range] at this
  exact this
private theorem against_len {n : Nat} {fs gs : List M.MF} {x : List Nat} (h : x ∈ M.againstM n fs gs) : x.length ≤ fs.length := by
  obtain ⟨b, _, rfl⟩ := List.mem_map.mp h
  exact speak_len fs b
private theorem few_mem {most : Nat} {A : List (List Nat)} : ∀ (f j : Nat), M.fewFrom most A f (M.rowsAt most j) = [] ∨ ∃ i, i < f ∧ M.fewFrom most A f (M.rowsAt most j) ∈ M.rowsAt most (j + i)
  | 0, j => Or.inl rfl
  | f + 1, j => by
    unfold M.fewFrom
    cases e : (M.rowsAt most j).find? fun r => M.outM r A with
    | some r => exact Or.inr ⟨0, by omega, List.mem_of_find?_eq_some e⟩
    | none =>
      rcases few_mem f (j + 1) with h | ⟨i, hi, h⟩
      · exact Or.inl h
      · exact Or.inr ⟨i + 1, by omega, by rw [show j + (i + 1) = j + 1 + i by omega]; exact h⟩
private theorem few_len {most : Nat} {A : List (List Nat)} (h : most ≤ 8) : (M.fewestM most A).length ≤ 100000 := by
  rcases few_mem (most := most) (A := A) (most + 1) 0 with e | ⟨i, hi, e⟩
  · unfold M.fewestM
    rw [show ([[]] : List (List Nat)) = M.rowsAt most 0 from rfl, e]
    simp
  · have h1 := List.all_eq_true.mp (M.rows_short most (by omega) (0 + i) (by omega)) _ e
    simp only [Bool.and_eq_true, decide_eq_true_eq] at h1
    unfold M.fewestM
    rw [show ([[]] : List (List Nat)) = M.rowsAt most 0 from rfl, h1.1]
    omega
end R
set_option linter.all false
set_option Elab.async false
set_option maxRecDepth 100000
set_option maxHeartbeats 4000000
namespace R
open PySem PySem.Spec PyProof.Rows L2
section
variable {P : Program} {w : World} {K : PySem.W.Frag} {mg : Str → Option Value} {base : Heap}
noncomputable def dueWhy (t f : List Nat) : List Int := if 8192 < t.length ∨ 8192 < f.length then [-2] else match M.readFindings t with
  | none => [-6]
  | some x => (match M.readFinding x.1 f with
    | none => [-3]
    | some y => M.whyM x.1 x.2 y)
noncomputable def sp_why (K : PySem.W.Frag) : Sp := fun vs H Q _ => ∃ (G : Hp) (v u : V) (t f : List Nat), vs = [v, u] ∧ Same G H ∧ TX K G v t ∧ TX K G u f ∧ t.length ≤ 8400 ∧ f.length ≤ 8400 ∧ Few8 t ∧ ∀ r H', ZH (dueWhy t f) r H' → Q r H'
private theorem c_why (D : Def K mg "why" s_why ["t", "f"]) (T : Txt mg) (c_read_findings : Cal P w K mg base 8 "read_findings" ["t"] (sp_read_findings K)) (c_read_finding : Cal P w K mg base 7 "read_finding" ["n", "line"] (sp_read_finding K))
    (c_some_agrees : Cal P w K mg base 6 "some_agrees" ["n", "findings"] sp_some_agrees) (c_opposite : Cal P w K mg base 1 "opposite" ["finding"] sp_opposite) (c_all_against : Cal P w K mg base 6 "all_against" ["n", "findings", "given"] sp_all_against)
    (c_told_row : Cal P w K mg base 1 "told_row" ["row"] sp_told_row) (c_fewest_against : Cal P w K mg base 2 "fewest_against" ["most", "against"] sp_fewest_against) : Cal P w K mg base 9 "why" ["t", "f"] (sp_why K) := by
  refine D.cal sc_why (fun vs H Q E h => ?_) (fun f cdv A outer s H vs Q E hr h => ?_)
  · obtain ⟨G, v, u, t, f, rfl, _⟩ := h
    rfl
  · obtain ⟨G, v, u, t, f, rfl, sg, hv, hu, hl, hl2, few, k⟩ := h
    refine ⟨_, (pss_cons (ps_if (PW.pt (pw_or (pt_cmpR op_gt (pe_callB (lenS (K := K) rfl) rfl T.b_len PySem.boot_len (pa_cons (pv 0) pa_nil)) (pe_gint rfl T.MOST_BYTES) (nomark _)) (pw_or1 (pt_cmpR op_gt (pe_callB (lenS (K := K) rfl) rfl T.b_len PySem.boot_len (pa_cons (pv 1) pa_nil)) (pe_gint rfl T.MOST_BYTES) (nomark _))))) (pss_one (ps_ret (pe_lst (pa_cons (pe_un un_neg pe_int) pa_nil)))) pss_nil)
 (pss_cons (ps_set (i := 2) sc_why.nd rfl (by first | exact Or.inl rfl | exact Or.inr rfl) (pcl c_read_findings hr (by decide) (pa_cons (pv 0) pa_nil)))
 (pss_cons (ps_if (pt_cmp (pc_isN (pv 2))) (pss_one (ps_ret (pe_lst (pa_cons (pe_un un_neg pe_int) pa_nil)))) pss_nil)
 (pss_cons (ps_set (i := 3) sc_why.nd rfl (by first | exact Or.inl rfl | exact Or.inr rfl) (pcl c_read_finding hr (by decide) (pa_cons (pe_ix (ixT (K := K) rfl) (pv 2) pe_int (fun _ _ => rfl)) (pa_cons (pv 1) pa_nil))))
 (pss_cons (ps_if (pt_cmp (pc_isN (pv 3))) (pss_one (ps_ret (pe_lst (pa_cons (pe_un un_neg pe_int) pa_nil)))) pss_nil)
 (pss_cons (ps_if (pt_not (ptT (K := K) rfl (pcl c_some_agrees hr (by decide) (pa_cons (pe_ix (ixT (K := K) rfl) (pv 2) pe_int (fun _ _ => rfl)) (pa_cons (pe_ix (ixT (K := K) rfl) (pv 2) pe_int (fun _ _ => rfl)) pa_nil))) (fun _ => rfl))) (pss_one (ps_ret (pe_lst (pa_cons (pe_un un_neg pe_int) pa_nil)))) pss_nil)
 (pss_cons (ps_set (i := 4) sc_why.nd rfl (by first | exact Or.inl rfl | exact Or.inr rfl) (pcl c_all_against hr (by decide) (pa_cons (pe_ix (ixT (K := K) rfl) (pv 2) pe_int (fun _ _ => rfl)) (pa_cons (pe_ix (ixT (K := K) rfl) (pv 2) pe_int (fun _ _ => rfl)) (pa_cons (pe_lst (pa_cons (pcl c_opposite hr (by decide) (pa_cons (pv 3) pa_nil)) pa_nil)) pa_nil)))))
 (pss_cons (ps_if (pt_cmpR (opInD (K := K) rfl hr.units) (pe_tup pa_nil) (pv 4) (by with_unfolding_all rfl)) (pss_one (ps_ret (pe_lst (pa_cons (pe_un un_neg pe_int) pa_nil)))) pss_nil)
 (pss_one (ps_ret (pcl c_told_row hr (by decide) (pa_cons (pcl c_fewest_against hr (by decide) (pa_cons (pe_callB (lenS (K := K) rfl) rfl T.b_len PySem.boot_len (pa_cons (pe_ix (ixT (K := K) rfl) (pv 2) pe_int (fun _ _ => rfl)) pa_nil)) (pa_cons (pv 4) pa_nil))) pa_nil)))))))))))), ?_⟩
    refine rd_two (fun σ H' => σ = [some v, some u, none, none, none] ∧ H' = H ∧ ¬ (8192 < t.length ∨ 8192 < f.length)) ?r1 (fun U hU => ?f1)
    case f1 =>
      have bad : (8192 < t.length ∨ 8192 < f.length) → ∀ p, H p = none → Q (V.ref p) (upd H p (.lst [V.int (-2)])) := fun h p hp => k _ _ (zh_new (by unfold dueWhy; rw [if_pos h]; rfl))
      walk_at "re"
      refine rd_lenT sg hv ?_
      walk_at "re"
      refine ite2 (fun h => bad (Or.inl (by omega))) (fun h => ?_)
      refine rd_lenT sg hu ?_
      walk_at "re"
      exact ite2 (fun h2 => bad (Or.inr (by omega))) (fun h2 => hU _ _ ⟨rfl, rfl, by omega⟩)
    case r1 =>
    rintro σ H' ⟨rfl, rfl, hbig⟩
    walk_at "re"
    refine ⟨G, v, t, rfl, sg, hv, by omega, fun u1 G1 H1 g1 hu1 => ?_⟩
    cases er : M.readFindings t with
    | none =>
      rw [er] at hu1
      cases hu1
      walk_at "re"
      intro p hp
      exact k _ _ (zh_new (by unfold dueWhy; rw [if_neg hbig, er]; rfl))
    | some x =>
      obtain ⟨n, fs⟩ := x
      rw [er] at hu1
      obtain ⟨n1, n4, n8, hok⟩ := few n fs er
      have hu' : FS G1 u1 (n, fs) := hu1
      obtain ⟨a, y, rfl, ha, hy⟩ := hu'
      rw [if_neg (by intro q; cases q)]
      refine rd_ixT (i := 0) g1.gh ha rfl ?_
      refine ⟨G1, n, u, f, rfl, g1.gh, TX.mono _ _ _ _ g1.gg hu, by omega, by omega, fun vf G2 H2 g2 hf => ?_⟩
      have g12 := g1.trans g2
      cases ef : M.readFinding n f with
      | none =>
        rw [ef] at hf
        cases hf
        walk_at "re"
        intro p hp
        exact k _ _ (zh_new (by unfold dueWhy; rw [if_neg hbig, er]; simp only [ef]; rfl))
      | some x =>
        rw [ef] at hf
        have hx := M.said_ok (by omega) ef
        have hd : dueWhy t f = M.whyM n fs x := by
          unfold dueWhy
          rw [if_neg hbig, er]
          simp only [ef]
        rw [hd] at k
        have hf' : FD G2 vf x := hf
        have hne : ¬ vf = .non := by
          obtain ⟨a', u', e, _⟩ := hf'
          rw [e]
          intro q
          cases q
        dsimp only
        rw [if_neg hne]
        have ha2 := g2.gg _ _ ha
        have hy2 := LS.mono FD.mono _ _ _ _ g2.gg hy
        refine rd_ixT (i := 0) g12.gh ha2 rfl (rd_ixT (i := 1) g12.gh ha2 rfl ?_)
        refine ⟨G2, n, y, fs, rfl, g12.gh, hy2, n1, n4, hok, fun rb G3 H3 g3 hr3 => ?_⟩
        cases hr3
        refine ⟨_, tru_bl, ?_⟩
        unfold M.whyM at k
        by_cases hall : M.allOf n fs = []
        · rw [if_pos hall] at k
          rw [show decide (M.allOf n fs ≠ []) = false from decide_eq_false (fun z => z hall)]
          intro p hp
          exact k _ _ (zh_new rfl)
        rw [if_neg hall] at k
        rw [show decide (M.allOf n fs ≠ []) = true from decide_eq_true hall]
        have g123 := g12.trans g3
        have ha3 := g3.gg _ _ ha2
        have hy3 := LS.mono FD.mono _ _ _ _ g3.gg hy2
        rw [if_neg (by simp)]
        refine rd_ixT (i := 0) g123.gh ha3 rfl (rd_ixT (i := 1) g123.gh ha3 rfl ?_)
        refine ⟨G3, vf, x, rfl, g123.gh, FD.mono _ _ _ _ g3.gg hf', fun vo G4 H4 g4 ho4 => ?_⟩
        intro p hp
        have g5 := (Grow.refl g4.gh).made (o := .lst [vo]) hp
        have sm5 := Same.upd_none (o := .lst [vo]) (g4.gh.free hp)
        have sm35 := g4.gg.trans sm5
        refine ⟨_, n, y, .ref p, fs, [M.oppM x], rfl, g5.gh, LS.mono FD.mono _ _ _ _ sm35 hy3, ⟨p, [vo], rfl, upd_same, .cons (FD.mono _ _ _ _ sm5 ho4) .nil⟩, n1, n4, hok, ?_, by omega, fun r H6 Ag sm6 hr6 hmem hal => ?_⟩
        · intro g hg
          rw [List.mem_singleton.mp hg]
          exact hx.opp
        have ha6 := sm6 _ _ (sm35 _ _ ha3)
        have hy6 := LS.mono FD.mono _ _ _ _ (sm35.trans sm6) hy3
        intro p7 hp7
        have sm7 : Same H6 (upd H6 p7 (.tup [])) := Same.upd_none hp7
        refine rd_inT (Same.refl _) (LS.mono TI.mono _ _ _ _ sm7 hr6) upd_same ?_
        walk_at "re"
        refine ite2 (fun hin p8 hp8 => ?_) (fun hin => ?_)
        · rw [if_pos ((hmem []).mp hin)] at k
          exact k _ _ (zh_new rfl)
        · rw [if_neg (fun z => hin ((hmem []).mpr z))] at k
          refine rd_ixT (i := 1) sm7 ha6 rfl ?_
          refine rd_len sm7 hy6 ?_
          refine ⟨_, fs.length, r, Ag, rfl, Same.refl _, LS.mono TI.mono _ _ _ _ sm7 hr6, n8, fun x hx => ?_, fun r8 G8 H8 g8 hr8 => ?_⟩
          · have := against_len ((hmem x).mp hx)
            omega
          · rw [M.fewest_mono hmem] at hr8
            have hfl : (M.fewestM fs.length (M.againstM n fs [M.oppM x])).length ≤ 100000 := few_len n8
            refine ⟨G8, r8, _, rfl, g8.gh, hr8, hfl, fun r9 G9 H9 g9 hr9 => k _ _ (zh_row g9.gh hr9)⟩
end
end R
end
section
set_option linter.all false
set_option Elab.async false
set_option maxRecDepth 100000
set_option maxHeartbeats 4000000
namespace R
open PySem PySem.Spec PyProof.Rows L2
noncomputable def itsOf (o : Obj) : List V := match o.data with
  | .seq its _ => its.toList.filterMap absV
  | _ => []
private theorem abs_vals : ∀ {xs : List V} {us : List Value}, Vals xs us → us.filterMap absV = xs
  | _, _, .nil => rfl
  | _, _, .cons r t => by
    rw [List.filterMap_cons, r.abs]
    simp only
    rw [abs_vals t]
noncomputable def Handed (h : Heap) (a : Addr) (ns : List Int) : Prop := ∃ vs : List Value, h.get? a = some { cls := .type "list", data := .seq vs.toArray } ∧ Vals (ns.map V.int) vs ∧ ns.length ≤ sizeLine
noncomputable def Hin (K : PySem.W.Frag) (h : Heap) (as : List Addr) : Hp := fun b => if b ∈ as ∧ K.lookup b = none then (h.get? b).map fun o => HO.frz o (.lst (itsOf o)) else none
private theorem Hin_in {K : PySem.W.Frag} {h : Heap} {as : List Addr} {a : Addr} {ns : List Int} (ha : a ∈ as) (hk : K.lookup a = none) {vs : List Value} (e : h.get? a = some { cls := .type "list", data := .seq vs.toArray }) (hv : Vals (ns.map V.int) vs) :
    Hin K h as a = some (.frz { cls := .type "list", data := .seq vs.toArray } (.lst (ns.map V.int))) := by
  unfold Hin
  rw [if_pos ⟨ha, hk⟩, e]
  have : itsOf { cls := .type "list", data := .seq vs.toArray } = ns.map V.int := by
    unfold itsOf
    simp only
    exact abs_vals hv
  rw [Option.map_some, this]
private theorem Hin_some {K : PySem.W.Frag} {h : Heap} {as : List Addr} {b : Addr} {u : HO} (e : Hin K h as b = some u) : b ∈ as ∧ K.lookup b = none := by
  unfold Hin at e
  split at e
  · assumption
  · cases e
private theorem spec_call {P : Program} {w : World} {K : PySem.W.Frag} {mg mb : Str → Option Value} {k : Nat} {fa : Addr} {x : Str} {ps : List Str} {sp : Sp} {s₁ : Shared} {us : List Value} {vs : List V} {as : List Addr} {zs : List Int}
    (KX : K.In s₁.heap) (hns : s₁.heap.Ns mainGlobals mg) (hb : s₁.heap.Ns builtinsNs mb) (hbb : ∀ x : Str, x ≠ "__name__" → mb x = bootBuiltins x) (hlim : s₁.heap.NoLimit) (hg : s₁.gens = #[])
    (hh : ∀ a ∈ as, ∃ ns, Handed s₁.heap a ns) (hr : Room k callerA)
    (F : ∀ base : Heap, K.In base → base.Ns mainGlobals mg → Cal P w K mg base k x ps sp) (hmg : mg x = some (.ref fa)) (hlen : us.length = ps.length) (hv : Vals vs us)
    (hsp : ∀ H : Hp, (∀ a ∈ as, ∀ ns, Handed s₁.heap a ns → SqL K H a (ns.map V.int)) → sp vs H (fun v H' => ∃ a, v = .ref a ∧ H' a = some (.lst (zs.map V.int))) E0) :
    codeAny (model P w) callerA (.call (.ref fa) ⟨us, []⟩) (fun r s' => (∃ a its n, r = .ok (.ret (.ref a)) ∧ s'.heap.get? a = some { cls := .type "list", data := .seq its n } ∧ Vals (zs.map V.int) its.toList) ∧ OldK s₁.heap s'.heap ∧ s'.os = s₁.os ∧ AllBare s'.gens) s₁ := by
  have hin : ∀ {b : Addr} {u : HO}, Hin K s₁.heap as b = some u → ∃ (vs : List Value) (ns : List Int), s₁.heap.get? b = some { cls := .type "list", data := .seq vs.toArray } ∧ u = .frz { cls := .type "list", data := .seq vs.toArray } (.lst (ns.map V.int)) ∧ Vals (ns.map V.int) vs ∧ ns.length ≤ sizeLine := fun {b u} e => by
    obtain ⟨h1, h2⟩ := Hin_some e
    obtain ⟨ns, vs, e1, e2, e3⟩ := hh b h1
    rw [Hin_in h1 h2 e1 e2] at e
    exact ⟨vs, ns, e1, (Option.some.inj e).symm, e2, e3⟩
  generalize hH : Hin K s₁.heap as = H at hin
  have hok : HOk P w H s₁.heap := fun b u e => by
    obtain ⟨vs, ns, e1, rfl, e2, e3⟩ := hin e
    exact ⟨e1, by rw [List.length_map]; exact e3, vs, _, e2, e1⟩
  have base_of : ∀ {b : Addr} {o : Obj}, s₁.heap.get? b = some o → H b = none → (hidT s₁.heap H).get? b = some o := fun e n => hidT_get e n
  have noA : ∀ {b : Addr} {o : Obj} {es : Array DictEntry} {ep : Nat}, s₁.heap.get? b = some o → o.data = .dict es ep → H b = none := fun {b o es ep} e d => by
    cases q : H b with
    | none => rfl
    | some u =>
      obtain ⟨vs, ns, e1, _⟩ := hin q
      rw [e1] at e; cases e
      have d' : Data.seq vs.toArray _ = Data.dict es ep := d
      cases d'
  have nsK : ∀ {b : Addr} {m : Str → Option Value}, s₁.heap.Ns b m → (hidT s₁.heap H).Ns b m := fun {b m} ⟨o, es, ep, e, d, r⟩ => ⟨o, es, ep, base_of e (noA e d), d, r⟩
  have hKb : K.In (hidT s₁.heap H) := fun b o e => base_of (KX b o e) (by
    cases q : H b with
    | none => rfl
    | some u =>
      rw [← hH] at q
      rw [(Hin_some q).2] at e
      cases e)
  have hM : Mod K mg (hidT s₁.heap H) := ⟨hKb, nsK hns, ⟨mb, nsK hb, hbb⟩, let ⟨mc, h1, h2⟩ := hlim; ⟨mc, nsK h1, h2⟩⟩
  have e0 : Env0 P w K mg (hidT s₁.heap H) callerA [] s₁ H := ⟨rfl, hM, fun b o e => of_hidT e, Nat.le_of_eq (hidT_size _ _), trivial, fun b hb => absurd (show b ∈ ([] : List Addr) from hb) (by simp), hok, .of_eq hg⟩
  have hS : ∀ a ∈ as, ∀ ns, Handed s₁.heap a ns → SqL K H a (ns.map V.int) := fun a ha ns ⟨vs, e1, e2, e3⟩ => by
    cases hk : K.lookup a with
    | some o =>
      have e := KX a o hk
      rw [e1] at e
      cases e
      have hl := e2.length
      rw [List.length_map] at hl
      exact .inr ⟨_, vs.toArray, _, hk, rfl, rfl, rfl, by rw [List.size_toArray, ← hl]; exact e3, by simpa using e2⟩
    | none =>
      refine .inl (.inr ⟨{ cls := .type "list", data := .seq vs.toArray }, ?_⟩)
      rw [← hH]
      exact Hin_in ha hk e1 e2
  obtain ⟨f, fd, Fo, hm, _, hbd⟩ := (F _ hKb (nsK hns)).ex
  rw [hmg] at hm
  cases hm
  have hbind : BindsTo s₁ fd ⟨us, []⟩ (ps.zip us) := by
    have := hbd s₁ us KX (by rw [List.append_nil]; exact hlen)
    rw [List.append_nil] at this
    exact this
  refine codeAny_mono (Fo.run callerA [] s₁ H ⟨us, []⟩ us vs _ _ hr e0 hbind hv (hsp H hS)) fun r s' h => ?_
  cases r with
  | error e => exact False.elim h
  | ok fl =>
    cases fl with
    | next => exact False.elim h
    | brk => exact False.elim h
    | cont => exact False.elim h
    | ret u =>
      obtain ⟨v, H', os, bare, un, hok', r', a, rfl, ha⟩ := h
      obtain rfl : u = Value.ref a := r'
      obtain ⟨_, its, n, hvs, he⟩ := hok' a _ ha
      refine ⟨⟨a, its.toArray, n, rfl, he, by simpa using hvs⟩, OldK.of_keep fun b o e => ?_, os, bare⟩
      cases q : H b with
      | none => exact un.keep b o e q (by intro z; exact absurd (show b ∈ ([] : List Addr) from z) (by simp)) (by simp)
      | some u =>
        obtain ⟨vs', ns', e1, rfl, _⟩ := hin q
        have z2 := un.frzs b _ _ q
        obtain ⟨e2, _⟩ := hok' b _ z2
        rw [e] at e1; cases e1
        exact e2
private theorem reads_ints {cl : Str → Option Addr} {h : Heap} : ∀ {zs : List Int} {its : List Value}, Vals (zs.map V.int) its → PySem.W.ReadsAllW [] cl h its (zs.map PySem.W.WData.int) []
  | [], _, .nil => .nil
  | z :: r, _, .cons q t => by
    obtain ⟨k, rfl⟩ := q
    exact .cons (as := []) (.int z k) (reads_ints t)
private theorem def_mk {K : PySem.W.Frag} {h : Heap} {mg : Str → Option Value} {x : Str} {st : Stmt} {ps : List Str} {f : Addr} {oc : Value} {od an : Option Addr} {osl : Array (Option Value)} {kV doc pm cdv ct : Value} (X : K.In h) (G : h.Ns mainGlobals mg)
    (a : PySem.W.nsIn K mainGlobals x = some (some (.ref f))) (l : K.lookup f = some ⟨oc, od, .func (PySem.W.fnOf x x (defArgs st) (defBody st) (defScope st) .none kV doc pm an cdv ct), osl⟩) (c : PySem.W.codeIn K cdv x = true) (k : PySem.W.keepIn K (.ref f) = true)
    (hb : ∀ (kV doc pm : Value) (an : Option Addr) (cdv ct : Value) (us : List Value), us.length = ps.length → bindArgs (PySem.W.fnOf x x (defArgs st) (defBody st) (defScope st) .none kV doc pm an cdv ct) ⟨us, []⟩ = pure (ps.zip us)) : Def K mg x st ps :=
  ⟨f, _, fun_mk l c k, PySem.W.mg_of X G a, (fun_mk l c k).binds hb⟩
private theorem walk_spec {r : PySem.W.OpenSpec} {q : Program} {loose : List Str} {XP : (Str → Option Value) → Heap → Prop} {YP : World → Heap → Prop} {d : DefRec} {K : Params → PySem.W.Frag} {k : Nat} {ps : List Str} {sp : PySem.W.Frag → Sp}
    (said : r.wellSaid = true) (hdf : d.params.defaults = []) (hr : Room k callerA) (hY : ∀ (w : World) (h : Heap), YP w h → (K w.params).In h)
    (F : ∀ (w : World) (mg : Str → Option Value) (h : Heap), (K w.params).In h → h.Ns mainGlobals mg → ∀ base : Heap, (K w.params).In base → base.Ns mainGlobals mg → Cal r.prog w (K w.params) mg base k d.name ps (sp (K w.params)))
    (S : ∀ (Kf : PySem.W.Frag) (P' : Params) (h : Heap) (a : PySem.W.Codec.denoteAll r.args) (vals : List Value), PySem.W.Codec.withinAll r.args a = true → PySem.W.Codec.app r.args r.asked a = true → PySem.W.WellAll P' h vals (PySem.W.Codec.encAll r.args a) →
      ∃ (vs : List V) (as : List Addr) (zs : List Int), Vals vs vals ∧ vals.length = ps.length ∧ (∀ x ∈ as, ∃ ns, Handed h x ns) ∧ r.ret.enc (PySem.W.Codec.app r.args r.f a) = .list (zs.map .int) ∧
        ∀ H : Hp, (∀ x ∈ as, ∀ ns, Handed h x ns → SqL Kf H x (ns.map V.int)) → sp Kf vs H (fun v H' => ∃ a, v = .ref a ∧ H' a = some (.lst (zs.map V.int))) E0) :
    PySem.W.WalkOS q loose XP YP r d [] (fun f vs => PySem.call f vs) := by
  intro w s₀ s₁ mg mb G Y fa o pm cd doc dV kV ho hd hcd hD hmg hg args vals as hpre hlay hrd hwl hlo
  obtain rfl : dV = .none := PySem.W.Dflts.none hD hdf
  obtain rfl : kV = .none := PySem.W.Dflts.noKw hD
  obtain ⟨a, hwi, hask, rfl⟩ := (PySem.W.OpenSpec.pre_iff said args).mp hpre
  have KX := hY w _ Y
  obtain ⟨vs, as', zs, hv, hlen, hh, hret, hsp⟩ := S (K w.params) _ s₁.heap a vals hwi hask hwl
  have hF := F w mg _ KX G.T.g
  refine PySem.W.enter_call (codeAny_mono (spec_call KX G.T.g G.T.b G.T.builtins G.T.nolimit hg hh hr hF hmg hlen hv hsp) fun rr s' hq => ?_)
  obtain ⟨⟨ra, its, n, rfl, he, hvs⟩, h2, h3, h4⟩ := hq
  refine ⟨.inl ⟨.ref ra, .list (zs.map .int), _, rfl, fun _ => rfl, .list he rfl rfl (reads_ints hvs), ?_, fun h => absurd h Bool.false_ne_true⟩, h2, h3, h4⟩
  exact (PySem.W.OpenSpec.post_iff said hwi _ _).mpr hret.symm
end R
end
section
set_option maxHeartbeats 4000000
namespace R
open PySem PySem.Spec PyProof.Rows L2
private theorem well_ints {P' : Params} {h : Heap} : ∀ {ns : List Int} {vs : List Value}, PySem.W.WellAll P' h vs (ns.map .int) → Vals (ns.map V.int) vs
  | [], _, w => by
    rw [List.map_nil] at w
    cases w
    exact .nil
  | n :: r, _, w => by
    rw [List.map_cons] at w
    cases w with
    | cons a b =>
      cases a
      exact .cons ⟨_, rfl⟩ (well_ints b)
private theorem handed_of {P' : Params} {h : Heap} {v : Value} {ns : List Int} (hl : ns.length ≤ 8400) (hw : PySem.W.Well P' h v (.list (ns.map .int))) : ∃ a, v = .ref a ∧ Handed h a ns := by
  cases hw with
  | list ho hall => exact ⟨_, rfl, _, ho, well_ints hall, by rw [sizeLine_eq]; omega⟩
private theorem in_bytes {lo hi : Int} {least most : Nat} {ns : List Int} (h : PySem.W.Codec.inList least most (PySem.W.Codec.inInt lo hi) ns = true) : ns.length ≤ most ∧ ∀ x ∈ ns, lo ≤ x ∧ x ≤ hi := by
  unfold PySem.W.Codec.inList PySem.W.Codec.inLen PySem.W.Codec.inNat at h
  simp only [Bool.and_eq_true, decide_eq_true_eq, List.all_eq_true] at h
  refine ⟨h.1.2, fun x hx => ?_⟩
  have := h.2 x hx
  unfold PySem.W.Codec.inInt at this
  simp only [Bool.and_eq_true, decide_eq_true_eq] at this
  exact this
private theorem nat_back {ns : List Int} (h : ∀ x ∈ ns, 0 ≤ x ∧ x ≤ 255) : (M.nat ns).map iv = ns.map V.int := by
  unfold M.nat
  rw [List.map_map]
  refine List.map_congr_left fun x hx => ?_
  have := h x hx
  show V.int ((x.toNat : Nat) : Int) = V.int x
  rw [Int.toNat_of_nonneg this.1]
private theorem tx_of {K : PySem.W.Frag} {H : Hp} {a : Addr} {ns : List Int} (hb : ∀ x ∈ ns, 0 ≤ x ∧ x ≤ 255) (h : SqL K H a (ns.map V.int)) : TX K H (.ref a) (M.nat ns) := ⟨a, rfl, by rw [nat_back hb]; exact h⟩
private theorem nat_len (ns : List Int) : (M.nat ns).length = ns.length := List.length_map ..
end R
namespace R
open PySem PySem.Spec PyProof.Rows L2
private theorem few8_of {t : List Int} (hb : ∀ x ∈ t, 0 ≤ x ∧ x ≤ 255) (h : QuireD.within 3 8 (QhBackNeutral.bytes t) = true) : Few8 (M.nat t) := fun n fs e => by
  rw [← M.bytes_nat hb] at e
  obtain ⟨h1, h2, h3, h4⟩ := M.within_ok h e
  exact ⟨h1, by omega, h3, h4⟩
private theorem S_why (Kf : PySem.W.Frag) (P' : Params) (h : Heap) (a : PySem.W.Codec.denoteAll PySem.Challenge.rw_boundagain_s07_why.args) (vals : List Value) (hwi : PySem.W.Codec.withinAll PySem.Challenge.rw_boundagain_s07_why.args a = true)
    (hask : PySem.W.Codec.app PySem.Challenge.rw_boundagain_s07_why.args PySem.Challenge.rw_boundagain_s07_why.asked a = true) (hw : PySem.W.WellAll P' h vals (PySem.W.Codec.encAll PySem.Challenge.rw_boundagain_s07_why.args a)) :
    ∃ (vs : List V) (as : List Addr) (zs : List Int), Vals vs vals ∧ vals.length = (["t", "f"] : List Str).length ∧ (∀ x ∈ as, ∃ ns, Handed h x ns) ∧ PySem.Challenge.rw_boundagain_s07_why.ret.enc (PySem.W.Codec.app PySem.Challenge.rw_boundagain_s07_why.args PySem.Challenge.rw_boundagain_s07_why.f a) = .list (zs.map .int) ∧
      ∀ H : Hp, (∀ x ∈ as, ∀ ns, Handed h x ns → SqL Kf H x (ns.map V.int)) → sp_why Kf vs H (fun v H' => ∃ a, v = .ref a ∧ H' a = some (.lst (zs.map V.int))) E0 := by
  have go : ∀ (t u : List Int), PySem.W.Codec.inList 0 8400 (PySem.W.Codec.inInt 0 255) t = true → PySem.W.Codec.inList 0 8400 (PySem.W.Codec.inInt 0 255) u = true → PyWqaucf.why_asked t u = true → PySem.W.WellAll P' h vals [.list (t.map .int), .list (u.map .int)] →
      ∃ (vs : List V) (as : List Addr) (zs : List Int), Vals vs vals ∧ vals.length = (["t", "f"] : List Str).length ∧ (∀ x ∈ as, ∃ ns, Handed h x ns) ∧ PySem.W.WData.list ((PyWqaucf.why t u).map .int) = .list (zs.map .int) ∧
        ∀ H : Hp, (∀ x ∈ as, ∀ ns, Handed h x ns → SqL Kf H x (ns.map V.int)) → sp_why Kf vs H (fun v H' => ∃ a, v = .ref a ∧ H' a = some (.lst (zs.map V.int))) E0 := by
    intro t u ht hu hq hw
    obtain ⟨hl, hb⟩ := in_bytes ht
    obtain ⟨hl2, hb2⟩ := in_bytes hu
    cases hw with
    | cons w0 w =>
      cases w with
      | cons w1 w2 =>
        cases w2
        obtain ⟨x, rfl, hx⟩ := handed_of hl w0
        obtain ⟨y, rfl, hy⟩ := handed_of hl2 w1
        refine ⟨[.ref x, .ref y], [x, y], PyWqaucf.why t u, .cons rfl (.cons rfl .nil), rfl, fun z hz => ?_, rfl, fun H hH => ?_⟩
        · simp only [List.mem_cons, List.not_mem_nil, or_false] at hz
          rcases hz with rfl | rfl
          · exact ⟨t, hx⟩
          · exact ⟨u, hy⟩
        refine ⟨H, .ref x, .ref y, M.nat t, M.nat u, rfl, Same.refl _, tx_of hb (hH x (by simp) t hx), tx_of hb2 (hH y (by simp) u hy), by rw [nat_len]; exact hl, by rw [nat_len]; exact hl2, few8_of hb (M.why_in hq), ?_⟩
        have e : PyWqaucf.why t u = dueWhy (M.nat t) (M.nat u) := by
          rw [M.why_due hb hb2 hq]
          unfold dueWhy
          rw [nat_len, nat_len]
          all_goals rfl
        rw [e]
        exact fun r H' z => z
  obtain ⟨t, u, x⟩ := a
  have h1 : (PySem.W.Codec.inList 0 8400 (PySem.W.Codec.inInt 0 255) t && (PySem.W.Codec.inList 0 8400 (PySem.W.Codec.inInt 0 255) u && true)) = true := hwi
  rw [Bool.and_true, Bool.and_eq_true] at h1
  exact go t u h1.1 h1.2 hask hw
end R
end
set_option maxHeartbeats 4000000
namespace R
open PySem PySem.Spec PyProof.Rows L2
private theorem len1 {fn : _} {ps : List Str} (h : ∀ a0 : Value, bindArgs fn ⟨[a0], []⟩ = pure (ps.zip [a0])) : ∀ us : List Value, us.length = 1 → bindArgs fn ⟨us, []⟩ = pure (ps.zip us)
  | [a0], _ => h a0
private theorem len2 {fn : _} {ps : List Str} (h : ∀ a0 a1 : Value, bindArgs fn ⟨[a0, a1], []⟩ = pure (ps.zip [a0, a1])) : ∀ us : List Value, us.length = 2 → bindArgs fn ⟨us, []⟩ = pure (ps.zip us)
  | [a0, a1], _ => h a0 a1
private theorem len3 {fn : _} {ps : List Str} (h : ∀ a0 a1 a2 : Value, bindArgs fn ⟨[a0, a1, a2], []⟩ = pure (ps.zip [a0, a1, a2])) : ∀ us : List Value, us.length = 3 → bindArgs fn ⟨us, []⟩ = pure (ps.zip us)
  | [a0, a1, a2], _ => h a0 a1 a2
private theorem len5 {fn : _} {ps : List Str} (h : ∀ a0 a1 a2 a3 a4 : Value, bindArgs fn ⟨[a0, a1, a2, a3, a4], []⟩ = pure (ps.zip [a0, a1, a2, a3, a4])) : ∀ us : List Value, us.length = 5 → bindArgs fn ⟨us, []⟩ = pure (ps.zip us)
  | [a0, a1, a2, a3, a4], _ => h a0 a1 a2 a3 a4
private theorem all_mk {P : Program} {w : World} {K : PySem.W.Frag} {h : Heap} {mg : Str → Option Value} (X : K.In h) (G : h.Ns mainGlobals mg)
    {f0 : Addr} {oc0 kV0 dc0 pm0 cd0 ct0 : Value} {od0 an0 : Option Addr} {sl0 : Array (Option Value)}
    {f1 : Addr} {oc1 kV1 dc1 pm1 cd1 ct1 : Value} {od1 an1 : Option Addr} {sl1 : Array (Option Value)}
    {f2 : Addr} {oc2 kV2 dc2 pm2 cd2 ct2 : Value} {od2 an2 : Option Addr} {sl2 : Array (Option Value)}
    {f3 : Addr} {oc3 kV3 dc3 pm3 cd3 ct3 : Value} {od3 an3 : Option Addr} {sl3 : Array (Option Value)}
    {f4 : Addr} {oc4 kV4 dc4 pm4 cd4 ct4 : Value} {od4 an4 : Option Addr} {sl4 : Array (Option Value)}
    {f5 : Addr} {oc5 kV5 dc5 pm5 cd5 ct5 : Value} {od5 an5 : Option Addr} {sl5 : Array (Option Value)}
    {f6 : Addr} {oc6 kV6 dc6 pm6 cd6 ct6 : Value} {od6 an6 : Option Addr} {sl6 : Array (Option Value)}
    {f7 : Addr} {oc7 kV7 dc7 pm7 cd7 ct7 : Value} {od7 an7 : Option Addr} {sl7 : Array (Option Value)}
    {f8 : Addr} {oc8 kV8 dc8 pm8 cd8 ct8 : Value} {od8 an8 : Option Addr} {sl8 : Array (Option Value)}
    {f9 : Addr} {oc9 kV9 dc9 pm9 cd9 ct9 : Value} {od9 an9 : Option Addr} {sl9 : Array (Option Value)}
    {f10 : Addr} {oc10 kV10 dc10 pm10 cd10 ct10 : Value} {od10 an10 : Option Addr} {sl10 : Array (Option Value)}
    {f11 : Addr} {oc11 kV11 dc11 pm11 cd11 ct11 : Value} {od11 an11 : Option Addr} {sl11 : Array (Option Value)}
    {f12 : Addr} {oc12 kV12 dc12 pm12 cd12 ct12 : Value} {od12 an12 : Option Addr} {sl12 : Array (Option Value)}
    {f13 : Addr} {oc13 kV13 dc13 pm13 cd13 ct13 : Value} {od13 an13 : Option Addr} {sl13 : Array (Option Value)}
    {f14 : Addr} {oc14 kV14 dc14 pm14 cd14 ct14 : Value} {od14 an14 : Option Addr} {sl14 : Array (Option Value)}
    {f15 : Addr} {oc15 kV15 dc15 pm15 cd15 ct15 : Value} {od15 an15 : Option Addr} {sl15 : Array (Option Value)}
    {f16 : Addr} {oc16 kV16 dc16 pm16 cd16 ct16 : Value} {od16 an16 : Option Addr} {sl16 : Array (Option Value)}
    {f17 : Addr} {oc17 kV17 dc17 pm17 cd17 ct17 : Value} {od17 an17 : Option Addr} {sl17 : Array (Option Value)}
    {f18 : Addr} {oc18 kV18 dc18 pm18 cd18 ct18 : Value} {od18 an18 : Option Addr} {sl18 : Array (Option Value)}
    {f19 : Addr} {oc19 kV19 dc19 pm19 cd19 ct19 : Value} {od19 an19 : Option Addr} {sl19 : Array (Option Value)}
    {f20 : Addr} {oc20 kV20 dc20 pm20 cd20 ct20 : Value} {od20 an20 : Option Addr} {sl20 : Array (Option Value)}
    {f21 : Addr} {oc21 kV21 dc21 pm21 cd21 ct21 : Value} {od21 an21 : Option Addr} {sl21 : Array (Option Value)}
    {f22 : Addr} {oc22 kV22 dc22 pm22 cd22 ct22 : Value} {od22 an22 : Option Addr} {sl22 : Array (Option Value)}
    {f23 : Addr} {oc23 kV23 dc23 pm23 cd23 ct23 : Value} {od23 an23 : Option Addr} {sl23 : Array (Option Value)}
    {f24 : Addr} {oc24 kV24 dc24 pm24 cd24 ct24 : Value} {od24 an24 : Option Addr} {sl24 : Array (Option Value)}
    {f25 : Addr} {oc25 kV25 dc25 pm25 cd25 ct25 : Value} {od25 an25 : Option Addr} {sl25 : Array (Option Value)}
    {f26 : Addr} {oc26 kV26 dc26 pm26 cd26 ct26 : Value} {od26 an26 : Option Addr} {sl26 : Array (Option Value)}
    {f27 : Addr} {oc27 kV27 dc27 pm27 cd27 ct27 : Value} {od27 an27 : Option Addr} {sl27 : Array (Option Value)}
    {f28 : Addr} {oc28 kV28 dc28 pm28 cd28 ct28 : Value} {od28 an28 : Option Addr} {sl28 : Array (Option Value)}
    {f29 : Addr} {oc29 kV29 dc29 pm29 cd29 ct29 : Value} {od29 an29 : Option Addr} {sl29 : Array (Option Value)}
    {f30 : Addr} {oc30 kV30 dc30 pm30 cd30 ct30 : Value} {od30 an30 : Option Addr} {sl30 : Array (Option Value)}
    {f31 : Addr} {oc31 kV31 dc31 pm31 cd31 ct31 : Value} {od31 an31 : Option Addr} {sl31 : Array (Option Value)}
    {f32 : Addr} {oc32 kV32 dc32 pm32 cd32 ct32 : Value} {od32 an32 : Option Addr} {sl32 : Array (Option Value)}
    {f33 : Addr} {oc33 kV33 dc33 pm33 cd33 ct33 : Value} {od33 an33 : Option Addr} {sl33 : Array (Option Value)}
    {f34 : Addr} {oc34 kV34 dc34 pm34 cd34 ct34 : Value} {od34 an34 : Option Addr} {sl34 : Array (Option Value)}
    {t0 : Tok}
    {t1 : Tok}
    {t2 : Tok}
    {t3 : Tok}
    {t4 : Tok}
    {t5 : Tok}
    {t6 : Tok}
    {t7 : Tok}
    {t8 : Tok}
    {t9 : Tok}
    {t10 : Tok}
    {t11 : Tok}
    {t12 : Tok}
    {t13 : Tok}
    {t14 : Tok}
    {t15 : Tok}
    {t16 : Tok}
    {t17 : Tok}
    {t18 : Tok}
    (a0 : PySem.W.nsIn K mainGlobals "number_text" = some (some (.ref f0))) (l0 : K.lookup f0 = some ⟨oc0, od0, .func (PySem.W.fnOf "number_text" "number_text" (defArgs s_number_text) (defBody s_number_text) (defScope s_number_text) .none kV0 dc0 pm0 an0 cd0 ct0), sl0⟩) (c0 : PySem.W.codeIn K cd0 "number_text" = true) (k0 : PySem.W.keepIn K (.ref f0) = true)
    (a1 : PySem.W.nsIn K mainGlobals "side_text" = some (some (.ref f1))) (l1 : K.lookup f1 = some ⟨oc1, od1, .func (PySem.W.fnOf "side_text" "side_text" (defArgs s_side_text) (defBody s_side_text) (defScope s_side_text) .none kV1 dc1 pm1 an1 cd1 ct1), sl1⟩) (c1 : PySem.W.codeIn K cd1 "side_text" = true) (k1 : PySem.W.keepIn K (.ref f1) = true)
    (a2 : PySem.W.nsIn K mainGlobals "split_at" = some (some (.ref f2))) (l2 : K.lookup f2 = some ⟨oc2, od2, .func (PySem.W.fnOf "split_at" "split_at" (defArgs s_split_at) (defBody s_split_at) (defScope s_split_at) .none kV2 dc2 pm2 an2 cd2 ct2), sl2⟩) (c2 : PySem.W.codeIn K cd2 "split_at" = true) (k2 : PySem.W.keepIn K (.ref f2) = true)
    (a3 : PySem.W.nsIn K mainGlobals "read_number" = some (some (.ref f3))) (l3 : K.lookup f3 = some ⟨oc3, od3, .func (PySem.W.fnOf "read_number" "read_number" (defArgs s_read_number) (defBody s_read_number) (defScope s_read_number) .none kV3 dc3 pm3 an3 cd3 ct3), sl3⟩) (c3 : PySem.W.codeIn K cd3 "read_number" = true) (k3 : PySem.W.keepIn K (.ref f3) = true)
    (a4 : PySem.W.nsIn K mainGlobals "read_side" = some (some (.ref f4))) (l4 : K.lookup f4 = some ⟨oc4, od4, .func (PySem.W.fnOf "read_side" "read_side" (defArgs s_read_side) (defBody s_read_side) (defScope s_read_side) .none kV4 dc4 pm4 an4 cd4 ct4), sl4⟩) (c4 : PySem.W.codeIn K cd4 "read_side" = true) (k4 : PySem.W.keepIn K (.ref f4) = true)
    (a5 : PySem.W.nsIn K mainGlobals "is_rising" = some (some (.ref f5))) (l5 : K.lookup f5 = some ⟨oc5, od5, .func (PySem.W.fnOf "is_rising" "is_rising" (defArgs s_is_rising) (defBody s_is_rising) (defScope s_is_rising) .none kV5 dc5 pm5 an5 cd5 ct5), sl5⟩) (c5 : PySem.W.codeIn K cd5 "is_rising" = true) (k5 : PySem.W.keepIn K (.ref f5) = true)
    (a6 : PySem.W.nsIn K mainGlobals "read_sides_pair" = some (some (.ref f6))) (l6 : K.lookup f6 = some ⟨oc6, od6, .func (PySem.W.fnOf "read_sides_pair" "read_sides_pair" (defArgs s_read_sides_pair) (defBody s_read_sides_pair) (defScope s_read_sides_pair) .none kV6 dc6 pm6 an6 cd6 ct6), sl6⟩) (c6 : PySem.W.codeIn K cd6 "read_sides_pair" = true) (k6 : PySem.W.keepIn K (.ref f6) = true)
    (a7 : PySem.W.nsIn K mainGlobals "read_leaves_pair" = some (some (.ref f7))) (l7 : K.lookup f7 = some ⟨oc7, od7, .func (PySem.W.fnOf "read_leaves_pair" "read_leaves_pair" (defArgs s_read_leaves_pair) (defBody s_read_leaves_pair) (defScope s_read_leaves_pair) .none kV7 dc7 pm7 an7 cd7 ct7), sl7⟩) (c7 : PySem.W.codeIn K cd7 "read_leaves_pair" = true) (k7 : PySem.W.keepIn K (.ref f7) = true)
    (a8 : PySem.W.nsIn K mainGlobals "read_three" = some (some (.ref f8))) (l8 : K.lookup f8 = some ⟨oc8, od8, .func (PySem.W.fnOf "read_three" "read_three" (defArgs s_read_three) (defBody s_read_three) (defScope s_read_three) .none kV8 dc8 pm8 an8 cd8 ct8), sl8⟩) (c8 : PySem.W.codeIn K cd8 "read_three" = true) (k8 : PySem.W.keepIn K (.ref f8) = true)
    (a9 : PySem.W.nsIn K mainGlobals "read_plain" = some (some (.ref f9))) (l9 : K.lookup f9 = some ⟨oc9, od9, .func (PySem.W.fnOf "read_plain" "read_plain" (defArgs s_read_plain) (defBody s_read_plain) (defScope s_read_plain) .none kV9 dc9 pm9 an9 cd9 ct9), sl9⟩) (c9 : PySem.W.codeIn K cd9 "read_plain" = true) (k9 : PySem.W.keepIn K (.ref f9) = true)
    (a10 : PySem.W.nsIn K mainGlobals "read_finding" = some (some (.ref f10))) (l10 : K.lookup f10 = some ⟨oc10, od10, .func (PySem.W.fnOf "read_finding" "read_finding" (defArgs s_read_finding) (defBody s_read_finding) (defScope s_read_finding) .none kV10 dc10 pm10 an10 cd10 ct10), sl10⟩) (c10 : PySem.W.codeIn K cd10 "read_finding" = true) (k10 : PySem.W.keepIn K (.ref f10) = true)
    (a11 : PySem.W.nsIn K mainGlobals "opposite" = some (some (.ref f11))) (l11 : K.lookup f11 = some ⟨oc11, od11, .func (PySem.W.fnOf "opposite" "opposite" (defArgs s_opposite) (defBody s_opposite) (defScope s_opposite) .none kV11 dc11 pm11 an11 cd11 ct11), sl11⟩) (c11 : PySem.W.codeIn K cd11 "opposite" = true) (k11 : PySem.W.keepIn K (.ref f11) = true)
    (a12 : PySem.W.nsIn K mainGlobals "read_findings" = some (some (.ref f12))) (l12 : K.lookup f12 = some ⟨oc12, od12, .func (PySem.W.fnOf "read_findings" "read_findings" (defArgs s_read_findings) (defBody s_read_findings) (defScope s_read_findings) .none kV12 dc12 pm12 an12 cd12 ct12), sl12⟩) (c12 : PySem.W.codeIn K cd12 "read_findings" = true) (k12 : PySem.W.keepIn K (.ref f12) = true)
    (a13 : PySem.W.nsIn K mainGlobals "sides_in_order" = some (some (.ref f13))) (l13 : K.lookup f13 = some ⟨oc13, od13, .func (PySem.W.fnOf "sides_in_order" "sides_in_order" (defArgs s_sides_in_order) (defBody s_sides_in_order) (defScope s_sides_in_order) .none kV13 dc13 pm13 an13 cd13 ct13), sl13⟩) (c13 : PySem.W.codeIn K cd13 "sides_in_order" = true) (k13 : PySem.W.keepIn K (.ref f13) = true)
    (a14 : PySem.W.nsIn K mainGlobals "partners_of_leaves" = some (some (.ref f14))) (l14 : K.lookup f14 = some ⟨oc14, od14, .func (PySem.W.fnOf "partners_of_leaves" "partners_of_leaves" (defArgs s_partners_of_leaves) (defBody s_partners_of_leaves) (defScope s_partners_of_leaves) .none kV14 dc14 pm14 an14 cd14 ct14), sl14⟩) (c14 : PySem.W.codeIn K cd14 "partners_of_leaves" = true) (k14 : PySem.W.keepIn K (.ref f14) = true)
    (a15 : PySem.W.nsIn K mainGlobals "gatherings_of_leaves" = some (some (.ref f15))) (l15 : K.lookup f15 = some ⟨oc15, od15, .func (PySem.W.fnOf "gatherings_of_leaves" "gatherings_of_leaves" (defArgs s_gatherings_of_leaves) (defBody s_gatherings_of_leaves) (defScope s_gatherings_of_leaves) .none kV15 dc15 pm15 an15 cd15 ct15), sl15⟩) (c15 : PySem.W.codeIn K cd15 "gatherings_of_leaves" = true) (k15 : PySem.W.keepIn K (.ref f15) = true)
    (a16 : PySem.W.nsIn K mainGlobals "place_of" = some (some (.ref f16))) (l16 : K.lookup f16 = some ⟨oc16, od16, .func (PySem.W.fnOf "place_of" "place_of" (defArgs s_place_of) (defBody s_place_of) (defScope s_place_of) .none kV16 dc16 pm16 an16 cd16 ct16), sl16⟩) (c16 : PySem.W.codeIn K cd16 "place_of" = true) (k16 : PySem.W.keepIn K (.ref f16) = true)
    (a17 : PySem.W.nsIn K mainGlobals "are_facing" = some (some (.ref f17))) (l17 : K.lookup f17 = some ⟨oc17, od17, .func (PySem.W.fnOf "are_facing" "are_facing" (defArgs s_are_facing) (defBody s_are_facing) (defScope s_are_facing) .none kV17 dc17 pm17 an17 cd17 ct17), sl17⟩) (c17 : PySem.W.codeIn K cd17 "are_facing" = true) (k17 : PySem.W.keepIn K (.ref f17) = true)
    (a18 : PySem.W.nsIn K mainGlobals "lie_in_a_row" = some (some (.ref f18))) (l18 : K.lookup f18 = some ⟨oc18, od18, .func (PySem.W.fnOf "lie_in_a_row" "lie_in_a_row" (defArgs s_lie_in_a_row) (defBody s_lie_in_a_row) (defScope s_lie_in_a_row) .none kV18 dc18 pm18 an18 cd18 ct18), sl18⟩) (c18 : PySem.W.codeIn K cd18 "lie_in_a_row" = true) (k18 : PySem.W.keepIn K (.ref f18) = true)
    (a19 : PySem.W.nsIn K mainGlobals "marks_meet" = some (some (.ref f19))) (l19 : K.lookup f19 = some ⟨oc19, od19, .func (PySem.W.fnOf "marks_meet" "marks_meet" (defArgs s_marks_meet) (defBody s_marks_meet) (defScope s_marks_meet) .none kV19 dc19 pm19 an19 cd19 ct19), sl19⟩) (c19 : PySem.W.codeIn K cd19 "marks_meet" = true) (k19 : PySem.W.keepIn K (.ref f19) = true)
    (a20 : PySem.W.nsIn K mainGlobals "holds" = some (some (.ref f20))) (l20 : K.lookup f20 = some ⟨oc20, od20, .func (PySem.W.fnOf "holds" "holds" (defArgs s_holds) (defBody s_holds) (defScope s_holds) .none kV20 dc20 pm20 an20 cd20 ct20), sl20⟩) (c20 : PySem.W.codeIn K cd20 "holds" = true) (k20 : PySem.W.keepIn K (.ref f20) = true)
    (a21 : PySem.W.nsIn K mainGlobals "agrees" = some (some (.ref f21))) (l21 : K.lookup f21 = some ⟨oc21, od21, .func (PySem.W.fnOf "agrees" "agrees" (defArgs s_agrees) (defBody s_agrees) (defScope s_agrees) .none kV21 dc21 pm21 an21 cd21 ct21), sl21⟩) (c21 : PySem.W.codeIn K cd21 "agrees" = true) (k21 : PySem.W.keepIn K (.ref f21) = true)
    (a22 : PySem.W.nsIn K mainGlobals "free_fronts" = some (some (.ref f22))) (l22 : K.lookup f22 = some ⟨oc22, od22, .func (PySem.W.fnOf "free_fronts" "free_fronts" (defArgs s_free_fronts) (defBody s_free_fronts) (defScope s_free_fronts) .none kV22 dc22 pm22 an22 cd22 ct22), sl22⟩) (c22 : PySem.W.codeIn K cd22 "free_fronts" = true) (k22 : PySem.W.keepIn K (.ref f22) = true)
    (a23 : PySem.W.nsIn K mainGlobals "next_ways" = some (some (.ref f23))) (l23 : K.lookup f23 = some ⟨oc23, od23, .func (PySem.W.fnOf "next_ways" "next_ways" (defArgs s_next_ways) (defBody s_next_ways) (defScope s_next_ways) .none kV23 dc23 pm23 an23 cd23 ct23), sl23⟩) (c23 : PySem.W.codeIn K cd23 "next_ways" = true) (k23 : PySem.W.keepIn K (.ref f23) = true)
    (a24 : PySem.W.nsIn K mainGlobals "next_leaves" = some (some (.ref f24))) (l24 : K.lookup f24 = some ⟨oc24, od24, .func (PySem.W.fnOf "next_leaves" "next_leaves" (defArgs s_next_leaves) (defBody s_next_leaves) (defScope s_next_leaves) .none kV24 dc24 pm24 an24 cd24 ct24), sl24⟩) (c24 : PySem.W.codeIn K cd24 "next_leaves" = true) (k24 : PySem.W.keepIn K (.ref f24) = true)
    (a25 : PySem.W.nsIn K mainGlobals "put_beginnings" = some (some (.ref f25))) (l25 : K.lookup f25 = some ⟨oc25, od25, .func (PySem.W.fnOf "put_beginnings" "put_beginnings" (defArgs s_put_beginnings) (defBody s_put_beginnings) (defScope s_put_beginnings) .none kV25 dc25 pm25 an25 cd25 ct25), sl25⟩) (c25 : PySem.W.codeIn K cd25 "put_beginnings" = true) (k25 : PySem.W.keepIn K (.ref f25) = true)
    (a26 : PySem.W.nsIn K mainGlobals "take_agreeing" = some (some (.ref f26))) (l26 : K.lookup f26 = some ⟨oc26, od26, .func (PySem.W.fnOf "take_agreeing" "take_agreeing" (defArgs s_take_agreeing) (defBody s_take_agreeing) (defScope s_take_agreeing) .none kV26 dc26 pm26 an26 cd26 ct26), sl26⟩) (c26 : PySem.W.codeIn K cd26 "take_agreeing" = true) (k26 : PySem.W.keepIn K (.ref f26) = true)
    (a27 : PySem.W.nsIn K mainGlobals "some_agrees" = some (some (.ref f27))) (l27 : K.lookup f27 = some ⟨oc27, od27, .func (PySem.W.fnOf "some_agrees" "some_agrees" (defArgs s_some_agrees) (defBody s_some_agrees) (defScope s_some_agrees) .none kV27 dc27 pm27 an27 cd27 ct27), sl27⟩) (c27 : PySem.W.codeIn K cd27 "some_agrees" = true) (k27 : PySem.W.keepIn K (.ref f27) = true)
    (a28 : PySem.W.nsIn K mainGlobals "speaking_against" = some (some (.ref f28))) (l28 : K.lookup f28 = some ⟨oc28, od28, .func (PySem.W.fnOf "speaking_against" "speaking_against" (defArgs s_speaking_against) (defBody s_speaking_against) (defScope s_speaking_against) .none kV28 dc28 pm28 an28 cd28 ct28), sl28⟩) (c28 : PySem.W.codeIn K cd28 "speaking_against" = true) (k28 : PySem.W.keepIn K (.ref f28) = true)
    (a29 : PySem.W.nsIn K mainGlobals "all_against" = some (some (.ref f29))) (l29 : K.lookup f29 = some ⟨oc29, od29, .func (PySem.W.fnOf "all_against" "all_against" (defArgs s_all_against) (defBody s_all_against) (defScope s_all_against) .none kV29 dc29 pm29 an29 cd29 ct29), sl29⟩) (c29 : PySem.W.codeIn K cd29 "all_against" = true) (k29 : PySem.W.keepIn K (.ref f29) = true)
    (a30 : PySem.W.nsIn K mainGlobals "rules_all_out" = some (some (.ref f30))) (l30 : K.lookup f30 = some ⟨oc30, od30, .func (PySem.W.fnOf "rules_all_out" "rules_all_out" (defArgs s_rules_all_out) (defBody s_rules_all_out) (defScope s_rules_all_out) .none kV30 dc30 pm30 an30 cd30 ct30), sl30⟩) (c30 : PySem.W.codeIn K cd30 "rules_all_out" = true) (k30 : PySem.W.keepIn K (.ref f30) = true)
    (a31 : PySem.W.nsIn K mainGlobals "longer_rows" = some (some (.ref f31))) (l31 : K.lookup f31 = some ⟨oc31, od31, .func (PySem.W.fnOf "longer_rows" "longer_rows" (defArgs s_longer_rows) (defBody s_longer_rows) (defScope s_longer_rows) .none kV31 dc31 pm31 an31 cd31 ct31), sl31⟩) (c31 : PySem.W.codeIn K cd31 "longer_rows" = true) (k31 : PySem.W.keepIn K (.ref f31) = true)
    (a32 : PySem.W.nsIn K mainGlobals "fewest_against" = some (some (.ref f32))) (l32 : K.lookup f32 = some ⟨oc32, od32, .func (PySem.W.fnOf "fewest_against" "fewest_against" (defArgs s_fewest_against) (defBody s_fewest_against) (defScope s_fewest_against) .none kV32 dc32 pm32 an32 cd32 ct32), sl32⟩) (c32 : PySem.W.codeIn K cd32 "fewest_against" = true) (k32 : PySem.W.keepIn K (.ref f32) = true)
    (a33 : PySem.W.nsIn K mainGlobals "told_row" = some (some (.ref f33))) (l33 : K.lookup f33 = some ⟨oc33, od33, .func (PySem.W.fnOf "told_row" "told_row" (defArgs s_told_row) (defBody s_told_row) (defScope s_told_row) .none kV33 dc33 pm33 an33 cd33 ct33), sl33⟩) (c33 : PySem.W.codeIn K cd33 "told_row" = true) (k33 : PySem.W.keepIn K (.ref f33) = true)
    (a34 : PySem.W.nsIn K mainGlobals "why" = some (some (.ref f34))) (l34 : K.lookup f34 = some ⟨oc34, od34, .func (PySem.W.fnOf "why" "why" (defArgs s_why) (defBody s_why) (defScope s_why) .none kV34 dc34 pm34 an34 cd34 ct34), sl34⟩) (c34 : PySem.W.codeIn K cd34 "why" = true) (k34 : PySem.W.keepIn K (.ref f34) = true)
    (gc0 : PySem.W.nsIn K mainGlobals "MOST_BYTES" = some (some (.int 8192 t0)))
    (gc1 : PySem.W.nsIn K mainGlobals "MOST_LEAVES" = some (some (.int 16 t1)))
    (gc2 : PySem.W.nsIn K mainGlobals "MOST_FINDINGS" = some (some (.int 64 t2)))
    (gc3 : PySem.W.nsIn K mainGlobals "LINE_FEED" = some (some (.int 10 t3)))
    (gc4 : PySem.W.nsIn K mainGlobals "BLANK" = some (some (.int 32 t4)))
    (gc5 : PySem.W.nsIn K mainGlobals "ZERO" = some (some (.int 48 t5)))
    (gc6 : PySem.W.nsIn K mainGlobals "SIDE_A" = some (some (.int 97 t6)))
    (gc7 : PySem.W.nsIn K mainGlobals "OPENS" = some (some (.int 40 t7)))
    (gc8 : PySem.W.nsIn K mainGlobals "CLOSES" = some (some (.int 41 t8)))
    (gc9 : PySem.W.nsIn K mainGlobals "ALONE" = some (some (.int 124 t9)))
    (gc10 : PySem.W.nsIn K mainGlobals "NOT" = some (some (.int 33 t10)))
    (gc11 : PySem.W.nsIn K mainGlobals "NEXT_SIDE" = some (some (.int 62 t11)))
    (gc12 : PySem.W.nsIn K mainGlobals "FACING" = some (some (.int 124 t12)))
    (gc13 : PySem.W.nsIn K mainGlobals "FRONT" = some (some (.int 94 t13)))
    (gc14 : PySem.W.nsIn K mainGlobals "PARTNERS" = some (some (.int 61 t14)))
    (gc15 : PySem.W.nsIn K mainGlobals "BEFORE" = some (some (.int 60 t15)))
    (gc16 : PySem.W.nsIn K mainGlobals "TOGETHER" = some (some (.int 126 t16)))
    (gc17 : PySem.W.nsIn K mainGlobals "IN_A_ROW" = some (some (.int 111 t17)))
    (gc18 : PySem.W.nsIn K mainGlobals "MARKED" = some (some (.int 104 t18)))
    (zb0 : PySem.W.nsIn K mainGlobals "any" = some none)
    (zb1 : PySem.W.nsIn K mainGlobals "len" = some none)
    (zb2 : PySem.W.nsIn K mainGlobals "list" = some none)
    (zb3 : PySem.W.nsIn K mainGlobals "max" = some none)
    (zb4 : PySem.W.nsIn K mainGlobals "min" = some none)
    (zb5 : PySem.W.nsIn K mainGlobals "range" = some none)
    (zb6 : PySem.W.nsIn K mainGlobals "reversed" = some none)
    (zb7 : PySem.W.nsIn K mainGlobals "sorted" = some none)
    (zb8 : PySem.W.nsIn K mainGlobals "tuple" = some none) :
    ∀ base : Heap, Cal P w K mg base 9 "why" ["t", "f"] (sp_why K) := by
  intro base
  have T : Txt mg := ⟨⟨_, PySem.W.mg_of X G gc0⟩, ⟨_, PySem.W.mg_of X G gc1⟩, ⟨_, PySem.W.mg_of X G gc2⟩, ⟨_, PySem.W.mg_of X G gc3⟩, ⟨_, PySem.W.mg_of X G gc4⟩, ⟨_, PySem.W.mg_of X G gc5⟩, ⟨_, PySem.W.mg_of X G gc6⟩, ⟨_, PySem.W.mg_of X G gc7⟩, ⟨_, PySem.W.mg_of X G gc8⟩, ⟨_, PySem.W.mg_of X G gc9⟩, ⟨_, PySem.W.mg_of X G gc10⟩, ⟨_, PySem.W.mg_of X G gc11⟩, ⟨_, PySem.W.mg_of X G gc12⟩, ⟨_, PySem.W.mg_of X G gc13⟩, ⟨_, PySem.W.mg_of X G gc14⟩, ⟨_, PySem.W.mg_of X G gc15⟩, ⟨_, PySem.W.mg_of X G gc16⟩, ⟨_, PySem.W.mg_of X G gc17⟩, ⟨_, PySem.W.mg_of X G gc18⟩, PySem.W.mg_none_of X G zb0, PySem.W.mg_none_of X G zb1, PySem.W.mg_none_of X G zb2, PySem.W.mg_none_of X G zb3, PySem.W.mg_none_of X G zb4, PySem.W.mg_none_of X G zb5, PySem.W.mg_none_of X G zb6, PySem.W.mg_none_of X G zb7, PySem.W.mg_none_of X G zb8⟩
  have d0 : Def K mg "number_text" s_number_text ["number"] := def_mk X G a0 l0 c0 k0 fun _ _ _ _ _ _ us hl => len1 (fun _ => rfl) us hl
  have d1 : Def K mg "side_text" s_side_text ["side"] := def_mk X G a1 l1 c1 k1 fun _ _ _ _ _ _ us hl => len1 (fun _ => rfl) us hl
  have d2 : Def K mg "split_at" s_split_at ["text", "mark"] := def_mk X G a2 l2 c2 k2 fun _ _ _ _ _ _ us hl => len2 (fun _ _ => rfl) us hl
  have d3 : Def K mg "read_number" s_read_number ["most", "word"] := def_mk X G a3 l3 c3 k3 fun _ _ _ _ _ _ us hl => len2 (fun _ _ => rfl) us hl
  have d4 : Def K mg "read_side" s_read_side ["n", "word"] := def_mk X G a4 l4 c4 k4 fun _ _ _ _ _ _ us hl => len2 (fun _ _ => rfl) us hl
  have d5 : Def K mg "is_rising" s_is_rising ["numbers"] := def_mk X G a5 l5 c5 k5 fun _ _ _ _ _ _ us hl => len1 (fun _ => rfl) us hl
  have d6 : Def K mg "read_sides_pair" s_read_sides_pair ["n", "kind", "words"] := def_mk X G a6 l6 c6 k6 fun _ _ _ _ _ _ us hl => len3 (fun _ _ _ => rfl) us hl
  have d7 : Def K mg "read_leaves_pair" s_read_leaves_pair ["n", "kind", "words"] := def_mk X G a7 l7 c7 k7 fun _ _ _ _ _ _ us hl => len3 (fun _ _ _ => rfl) us hl
  have d8 : Def K mg "read_three" s_read_three ["n", "words"] := def_mk X G a8 l8 c8 k8 fun _ _ _ _ _ _ us hl => len2 (fun _ _ => rfl) us hl
  have d9 : Def K mg "read_plain" s_read_plain ["n", "words"] := def_mk X G a9 l9 c9 k9 fun _ _ _ _ _ _ us hl => len2 (fun _ _ => rfl) us hl
  have d10 : Def K mg "read_finding" s_read_finding ["n", "line"] := def_mk X G a10 l10 c10 k10 fun _ _ _ _ _ _ us hl => len2 (fun _ _ => rfl) us hl
  have d11 : Def K mg "opposite" s_opposite ["finding"] := def_mk X G a11 l11 c11 k11 fun _ _ _ _ _ _ us hl => len1 (fun _ => rfl) us hl
  have d12 : Def K mg "read_findings" s_read_findings ["t"] := def_mk X G a12 l12 c12 k12 fun _ _ _ _ _ _ us hl => len1 (fun _ => rfl) us hl
  have d13 : Def K mg "sides_in_order" s_sides_in_order ["book"] := def_mk X G a13 l13 c13 k13 fun _ _ _ _ _ _ us hl => len1 (fun _ => rfl) us hl
  have d14 : Def K mg "partners_of_leaves" s_partners_of_leaves ["book"] := def_mk X G a14 l14 c14 k14 fun _ _ _ _ _ _ us hl => len1 (fun _ => rfl) us hl
  have d15 : Def K mg "gatherings_of_leaves" s_gatherings_of_leaves ["book"] := def_mk X G a15 l15 c15 k15 fun _ _ _ _ _ _ us hl => len1 (fun _ => rfl) us hl
  have d16 : Def K mg "place_of" s_place_of ["sides", "leaf"] := def_mk X G a16 l16 c16 k16 fun _ _ _ _ _ _ us hl => len2 (fun _ _ => rfl) us hl
  have d17 : Def K mg "are_facing" s_are_facing ["sides", "one", "other"] := def_mk X G a17 l17 c17 k17 fun _ _ _ _ _ _ us hl => len3 (fun _ _ _ => rfl) us hl
  have d18 : Def K mg "lie_in_a_row" s_lie_in_a_row ["sides", "leaves"] := def_mk X G a18 l18 c18 k18 fun _ _ _ _ _ _ us hl => len2 (fun _ _ => rfl) us hl
  have d19 : Def K mg "marks_meet" s_marks_meet ["sides", "marked"] := def_mk X G a19 l19 c19 k19 fun _ _ _ _ _ _ us hl => len2 (fun _ _ => rfl) us hl
  have d20 : Def K mg "holds" s_holds ["kind", "parts", "sides", "partners", "gatherings"] := def_mk X G a20 l20 c20 k20 fun _ _ _ _ _ _ us hl => len5 (fun _ _ _ _ _ => rfl) us hl
  have d21 : Def K mg "agrees" s_agrees ["book", "findings"] := def_mk X G a21 l21 c21 k21 fun _ _ _ _ _ _ us hl => len2 (fun _ _ => rfl) us hl
  have d22 : Def K mg "free_fronts" s_free_fronts ["n", "book"] := def_mk X G a22 l22 c22 k22 fun _ _ _ _ _ _ us hl => len2 (fun _ _ => rfl) us hl
  have d23 : Def K mg "next_ways" s_next_ways ["n", "book"] := def_mk X G a23 l23 c23 k23 fun _ _ _ _ _ _ us hl => len2 (fun _ _ => rfl) us hl
  have d24 : Def K mg "next_leaves" s_next_leaves ["n", "book"] := def_mk X G a24 l24 c24 k24 fun _ _ _ _ _ _ us hl => len2 (fun _ _ => rfl) us hl
  have d25 : Def K mg "put_beginnings" s_put_beginnings ["waiting", "book", "leaves"] := def_mk X G a25 l25 c25 k25 fun _ _ _ _ _ _ us hl => len3 (fun _ _ _ => rfl) us hl
  have d26 : Def K mg "take_agreeing" s_take_agreeing ["n", "findings", "waiting"] := def_mk X G a26 l26 c26 k26 fun _ _ _ _ _ _ us hl => len3 (fun _ _ _ => rfl) us hl
  have d27 : Def K mg "some_agrees" s_some_agrees ["n", "findings"] := def_mk X G a27 l27 c27 k27 fun _ _ _ _ _ _ us hl => len2 (fun _ _ => rfl) us hl
  have d28 : Def K mg "speaking_against" s_speaking_against ["book", "findings"] := def_mk X G a28 l28 c28 k28 fun _ _ _ _ _ _ us hl => len2 (fun _ _ => rfl) us hl
  have d29 : Def K mg "all_against" s_all_against ["n", "findings", "given"] := def_mk X G a29 l29 c29 k29 fun _ _ _ _ _ _ us hl => len3 (fun _ _ _ => rfl) us hl
  have d30 : Def K mg "rules_all_out" s_rules_all_out ["row", "against"] := def_mk X G a30 l30 c30 k30 fun _ _ _ _ _ _ us hl => len2 (fun _ _ => rfl) us hl
  have d31 : Def K mg "longer_rows" s_longer_rows ["most", "rows"] := def_mk X G a31 l31 c31 k31 fun _ _ _ _ _ _ us hl => len2 (fun _ _ => rfl) us hl
  have d32 : Def K mg "fewest_against" s_fewest_against ["most", "against"] := def_mk X G a32 l32 c32 k32 fun _ _ _ _ _ _ us hl => len2 (fun _ _ => rfl) us hl
  have d33 : Def K mg "told_row" s_told_row ["row"] := def_mk X G a33 l33 c33 k33 fun _ _ _ _ _ _ us hl => len1 (fun _ => rfl) us hl
  have d34 : Def K mg "why" s_why ["t", "f"] := def_mk X G a34 l34 c34 k34 fun _ _ _ _ _ _ us hl => len2 (fun _ _ => rfl) us hl
  have e_number_text := c_number_text (P := P) (w := w) (base := base) d0 T
  have e_side_text := c_side_text (P := P) (w := w) (base := base) d1 T (c_number_text := e_number_text)
  have e_split_at := c_split_at (P := P) (w := w) (base := base) d2 T
  have e_read_number := c_read_number (P := P) (w := w) (base := base) d3 T (c_number_text := e_number_text)
  have e_read_side := c_read_side (P := P) (w := w) (base := base) d4 T (c_side_text := e_side_text)
  have e_is_rising := c_is_rising (P := P) (w := w) (base := base) d5 T
  have e_read_sides_pair := c_read_sides_pair (P := P) (w := w) (base := base) d6 T (c_read_side := e_read_side)
  have e_read_leaves_pair := c_read_leaves_pair (P := P) (w := w) (base := base) d7 T (c_read_number := e_read_number)
  have e_read_three := c_read_three (P := P) (w := w) (base := base) d8 T (c_read_sides_pair := e_read_sides_pair) (c_read_leaves_pair := e_read_leaves_pair)
  have e_read_plain := c_read_plain (P := P) (w := w) (base := base) d9 T (c_read_number := e_read_number) (c_read_side := e_read_side) (c_is_rising := e_is_rising) (c_read_three := e_read_three)
  have e_read_finding := c_read_finding (P := P) (w := w) (base := base) d10 T (c_split_at := e_split_at) (c_read_plain := e_read_plain)
  have e_opposite := c_opposite (P := P) (w := w) (base := base) d11 T
  have e_read_findings := c_read_findings (P := P) (w := w) (base := base) d12 T (c_split_at := e_split_at) (c_read_number := e_read_number) (c_read_finding := e_read_finding)
  have e_sides_in_order := c_sides_in_order (P := P) (w := w) (base := base) d13 T
  have e_partners_of_leaves := c_partners_of_leaves (P := P) (w := w) (base := base) d14 T
  have e_gatherings_of_leaves := c_gatherings_of_leaves (P := P) (w := w) (base := base) d15 T
  have e_place_of := c_place_of (P := P) (w := w) (base := base) d16 T
  have e_are_facing := c_are_facing (P := P) (w := w) (base := base) d17 T
  have e_lie_in_a_row := c_lie_in_a_row (P := P) (w := w) (base := base) d18 T (c_place_of := e_place_of)
  have e_marks_meet := c_marks_meet (P := P) (w := w) (base := base) d19 T
  have e_holds := c_holds (P := P) (w := w) (base := base) d20 T (c_place_of := e_place_of) (c_are_facing := e_are_facing) (c_lie_in_a_row := e_lie_in_a_row) (c_marks_meet := e_marks_meet)
  have e_agrees := c_agrees (P := P) (w := w) (base := base) d21 T (c_sides_in_order := e_sides_in_order) (c_partners_of_leaves := e_partners_of_leaves) (c_gatherings_of_leaves := e_gatherings_of_leaves) (c_holds := e_holds)
  have e_free_fronts := c_free_fronts (P := P) (w := w) (base := base) d22 T
  have e_next_ways := c_next_ways (P := P) (w := w) (base := base) d23 T
  have e_next_leaves := c_next_leaves (P := P) (w := w) (base := base) d24 T (c_free_fronts := e_free_fronts) (c_next_ways := e_next_ways)
  have e_put_beginnings := c_put_beginnings (P := P) (w := w) (base := base) d25 T
  have e_take_agreeing := c_take_agreeing (P := P) (w := w) (base := base) d26 T (c_put_beginnings := e_put_beginnings) (c_next_leaves := e_next_leaves) (c_agrees := e_agrees)
  have e_some_agrees := c_some_agrees (P := P) (w := w) (base := base) d27 T (c_take_agreeing := e_take_agreeing)
  have e_speaking_against := c_speaking_against (P := P) (w := w) (base := base) d28 T (c_agrees := e_agrees)
  have e_all_against := c_all_against (P := P) (w := w) (base := base) d29 T (c_take_agreeing := e_take_agreeing) (c_speaking_against := e_speaking_against)
  have e_rules_all_out := c_rules_all_out (P := P) (w := w) (base := base) d30 T
  have e_longer_rows := c_longer_rows (P := P) (w := w) (base := base) d31 T
  have e_fewest_against := c_fewest_against (P := P) (w := w) (base := base) d32 T (c_rules_all_out := e_rules_all_out) (c_longer_rows := e_longer_rows)
  have e_told_row := c_told_row (P := P) (w := w) (base := base) d33 T
  have e_why := c_why (P := P) (w := w) (base := base) d34 T (c_read_findings := e_read_findings) (c_read_finding := e_read_finding) (c_some_agrees := e_some_agrees) (c_opposite := e_opposite) (c_all_against := e_all_against) (c_told_row := e_told_row) (c_fewest_against := e_fewest_against)
  exact e_why
end R
private theorem R.said : PySem.Challenge.rw_boundagain_s07_why.wellSaid = true := by decide +kernel
open PySem PySem.W PyProof.Rows
set_option maxRecDepth 100000 in
set_option maxHeartbeats 0 in
theorem PySem.Challenge.cw_boundagain_s07_why_holds : PySem.Challenge.rw_boundagain_s07_why.Holds := by
  w_on; k_headS; (case hw => exact ⟨[.list [], .list []], by decide +kernel, by decide +kernel⟩)
  k_fillS
  refine R.walk_spec (r := PySem.Challenge.rw_boundagain_s07_why) (k := 9) (ps := ["t", "f"]) (sp := R.sp_why) R.said rfl ⟨rfl, by decide, by decide⟩ (fun w h Y => PySem.W.kIn_of Y) ?F ?S
  case F =>
    intro w mg h KX G base _ _
    refine' R.all_mk KX G ?da0 ?dl0 ?dc0 ?dk0 ?da1 ?dl1 ?dc1 ?dk1 ?da2 ?dl2 ?dc2 ?dk2 ?da3 ?dl3 ?dc3 ?dk3 ?da4 ?dl4 ?dc4 ?dk4 ?da5 ?dl5 ?dc5 ?dk5 ?da6 ?dl6 ?dc6 ?dk6 ?da7 ?dl7 ?dc7 ?dk7 ?da8 ?dl8 ?dc8 ?dk8 ?da9 ?dl9 ?dc9 ?dk9 ?da10 ?dl10 ?dc10 ?dk10 ?da11 ?dl11 ?dc11 ?dk11 ?da12 ?dl12 ?dc12 ?dk12 ?da13 ?dl13 ?dc13 ?dk13 ?da14 ?dl14 ?dc14 ?dk14 ?da15 ?dl15 ?dc15 ?dk15 ?da16 ?dl16 ?dc16 ?dk16 ?da17 ?dl17 ?dc17 ?dk17 ?da18 ?dl18 ?dc18 ?dk18 ?da19 ?dl19 ?dc19 ?dk19 ?da20 ?dl20 ?dc20 ?dk20 ?da21 ?dl21 ?dc21 ?dk21 ?da22 ?dl22 ?dc22 ?dk22 ?da23 ?dl23 ?dc23 ?dk23 ?da24 ?dl24 ?dc24 ?dk24 ?da25 ?dl25 ?dc25 ?dk25 ?da26 ?dl26 ?dc26 ?dk26 ?da27 ?dl27 ?dc27 ?dk27 ?da28 ?dl28 ?dc28 ?dk28 ?da29 ?dl29 ?dc29 ?dk29 ?da30 ?dl30 ?dc30 ?dk30 ?da31 ?dl31 ?dc31 ?dk31 ?da32 ?dl32 ?dc32 ?dk32 ?da33 ?dl33 ?dc33 ?dk33 ?da34 ?dl34 ?dc34 ?dk34 ?gc0 ?gc1 ?gc2 ?gc3 ?gc4 ?gc5 ?gc6 ?gc7 ?gc8 ?gc9 ?gc10 ?gc11 ?gc12 ?gc13 ?gc14 ?gc15 ?gc16 ?gc17 ?gc18 ?zb0 ?zb1 ?zb2 ?zb3 ?zb4 ?zb5 ?zb6 ?zb7 ?zb8 base
    (case da0 => k_is)
    (case dl0 => k_is)
    (case dc0 => k_is)
    (case dk0 => k_is)
    (case da1 => k_is)
    (case dl1 => k_is)
    (case dc1 => k_is)
    (case dk1 => k_is)
    (case da2 => k_is)
    (case dl2 => k_is)
    (case dc2 => k_is)
    (case dk2 => k_is)
    (case da3 => k_is)
    (case dl3 => k_is)
    (case dc3 => k_is)
    (case dk3 => k_is)
    (case da4 => k_is)
    (case dl4 => k_is)
    (case dc4 => k_is)
    (case dk4 => k_is)
    (case da5 => k_is)
    (case dl5 => k_is)
    (case dc5 => k_is)
    (case dk5 => k_is)
    (case da6 => k_is)
    (case dl6 => k_is)
    (case dc6 => k_is)
    (case dk6 => k_is)
    (case da7 => k_is)
    (case dl7 => k_is)
    (case dc7 => k_is)
    (case dk7 => k_is)
    (case da8 => k_is)
    (case dl8 => k_is)
    (case dc8 => k_is)
    (case dk8 => k_is)
    (case da9 => k_is)
    (case dl9 => k_is)
    (case dc9 => k_is)
    (case dk9 => k_is)
    (case da10 => k_is)
    (case dl10 => k_is)
    (case dc10 => k_is)
    (case dk10 => k_is)
    (case da11 => k_is)
    (case dl11 => k_is)
    (case dc11 => k_is)
    (case dk11 => k_is)
    (case da12 => k_is)
    (case dl12 => k_is)
    (case dc12 => k_is)
    (case dk12 => k_is)
    (case da13 => k_is)
    (case dl13 => k_is)
    (case dc13 => k_is)
    (case dk13 => k_is)
    (case da14 => k_is)
    (case dl14 => k_is)
    (case dc14 => k_is)
    (case dk14 => k_is)
    (case da15 => k_is)
    (case dl15 => k_is)
    (case dc15 => k_is)
    (case dk15 => k_is)
    (case da16 => k_is)
    (case dl16 => k_is)
    (case dc16 => k_is)
    (case dk16 => k_is)
    (case da17 => k_is)
    (case dl17 => k_is)
    (case dc17 => k_is)
    (case dk17 => k_is)
    (case da18 => k_is)
    (case dl18 => k_is)
    (case dc18 => k_is)
    (case dk18 => k_is)
    (case da19 => k_is)
    (case dl19 => k_is)
    (case dc19 => k_is)
    (case dk19 => k_is)
    (case da20 => k_is)
    (case dl20 => k_is)
    (case dc20 => k_is)
    (case dk20 => k_is)
    (case da21 => k_is)
    (case dl21 => k_is)
    (case dc21 => k_is)
    (case dk21 => k_is)
    (case da22 => k_is)
    (case dl22 => k_is)
    (case dc22 => k_is)
    (case dk22 => k_is)
    (case da23 => k_is)
    (case dl23 => k_is)
    (case dc23 => k_is)
    (case dk23 => k_is)
    (case da24 => k_is)
    (case dl24 => k_is)
    (case dc24 => k_is)
    (case dk24 => k_is)
    (case da25 => k_is)
    (case dl25 => k_is)
    (case dc25 => k_is)
    (case dk25 => k_is)
    (case da26 => k_is)
    (case dl26 => k_is)
    (case dc26 => k_is)
    (case dk26 => k_is)
    (case da27 => k_is)
    (case dl27 => k_is)
    (case dc27 => k_is)
    (case dk27 => k_is)
    (case da28 => k_is)
    (case dl28 => k_is)
    (case dc28 => k_is)
    (case dk28 => k_is)
    (case da29 => k_is)
    (case dl29 => k_is)
    (case dc29 => k_is)
    (case dk29 => k_is)
    (case da30 => k_is)
    (case dl30 => k_is)
    (case dc30 => k_is)
    (case dk30 => k_is)
    (case da31 => k_is)
    (case dl31 => k_is)
    (case dc31 => k_is)
    (case dk31 => k_is)
    (case da32 => k_is)
    (case dl32 => k_is)
    (case dc32 => k_is)
    (case dk32 => k_is)
    (case da33 => k_is)
    (case dl33 => k_is)
    (case dc33 => k_is)
    (case dk33 => k_is)
    (case da34 => k_is)
    (case dl34 => k_is)
    (case dc34 => k_is)
    (case dk34 => k_is)
    (case gc0 => k_is)
    (case gc1 => k_is)
    (case gc2 => k_is)
    (case gc3 => k_is)
    (case gc4 => k_is)
    (case gc5 => k_is)
    (case gc6 => k_is)
    (case gc7 => k_is)
    (case gc8 => k_is)
    (case gc9 => k_is)
    (case gc10 => k_is)
    (case gc11 => k_is)
    (case gc12 => k_is)
    (case gc13 => k_is)
    (case gc14 => k_is)
    (case gc15 => k_is)
    (case gc16 => k_is)
    (case gc17 => k_is)
    (case gc18 => k_is)
    (case zb0 => k_is)
    (case zb1 => k_is)
    (case zb2 => k_is)
    (case zb3 => k_is)
    (case zb4 => k_is)
    (case zb5 => k_is)
    (case zb6 => k_is)
    (case zb7 => k_is)
    (case zb8 => k_is)
  case S => exact R.S_why
#print axioms PySem.Challenge.cw_boundagain_s07_why_holds

