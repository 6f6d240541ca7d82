import PyProof.Rows.All
import Wide.All
import OpenK.AllK
import Wide.FinOn
import PyProof.EqAt
import PyProof.EqKinds
import PyProof.NeKinds
import PyProof.TupleCall
import KE.BitLaws
import KE.OsGo
import PySem.Challenge.RW_keylogs_s02_make
set_option Elab.async false
set_option linter.all false
set_option maxRecDepth 100000
namespace L2
open PySem PySem.Spec PyProof.Rows
abbrev Key := Sum Int Str
def keyIs : Key → Value → Bool
  | .inl k, v => Value.isInt k v
  | .inr x, v => Value.isStrOf x v
def keyH (w : World) : Key → Int
  | .inl k => hashInt k
  | .inr x => hashStr w x
theorem keyIs_shape : ∀ {k : Key} {v : Value}, keyIs k v = true → (∃ i t, k = Sum.inl i ∧ v = Value.int i t) ∨ (∃ x t, k = Sum.inr x ∧ v = Value.str x t)
  | .inl i, v, h => by
    obtain ⟨t, e⟩ := Value.isInt_shape (k := i) (v := v) h
    exact .inl ⟨i, t, rfl, e⟩
  | .inr x, v, h => by
    obtain ⟨t, e⟩ := Value.isStrOf_shape (x := x) (v := v) h
    exact .inr ⟨x, t, rfl, e⟩
theorem key_ll (a b : Int) : decide ((Sum.inl a : Key) = Sum.inl b) = (a == b) := by
  by_cases e : a = b
  · subst e; simp
  · have h : ¬ (Sum.inl a : Key) = Sum.inl b := fun q => e (Sum.inl.inj q)
    rw [decide_eq_false h]
    exact (beq_eq_false_iff_ne.mpr e).symm
theorem key_rr (a b : Str) : decide ((Sum.inr a : Key) = Sum.inr b) = decide (a = b) := by
  by_cases e : a = b
  · subst e; simp
  · have h : ¬ (Sum.inr a : Key) = Sum.inr b := fun q => e (Sum.inr.inj q)
    rw [decide_eq_false h, decide_eq_false e]
theorem key_lr (a : Int) (b : Str) : decide ((Sum.inl a : Key) = Sum.inr b) = false := decide_eq_false (fun q => nomatch q)
theorem key_rl (a : Str) (b : Int) : decide ((Sum.inr a : Key) = Sum.inl b) = false := decide_eq_false (fun q => nomatch q)
def mixKind (prog : Program) (w : World) : PySem.KeyKind prog w Key where
  is := keyIs
  hash := keyH w
  inj := fun v a b ha hb => by
    rcases keyIs_shape ha with ⟨i, t, rfl, rfl⟩ | ⟨x, t, rfl, rfl⟩
    · rcases keyIs_shape hb with ⟨j, u, rfl, e⟩ | ⟨y, u, rfl, e⟩
      · injection e with e1 _; rw [e1]
      · exact nomatch e
    · rcases keyIs_shape hb with ⟨j, u, rfl, e⟩ | ⟨y, u, rfl, e⟩
      · exact nomatch e
      · injection e with e1 _; rw [e1]
  byValue := fun k v h => by
    rcases keyIs_shape h with ⟨i, t, rfl, rfl⟩ | ⟨x, t, rfl, rfl⟩ <;> rfl
  pyHash := fun hv h => by
    rcases keyIs_shape hv with ⟨i, t, rfl, rfl⟩ | ⟨x, t, rfl, rfl⟩
    · exact wpAny_pyHash_int h
    · exact wpAny_pyHash_str h
  eqBool := fun hu hv h => by
    rcases keyIs_shape hu with ⟨i, t, rfl, rfl⟩ | ⟨x, t, rfl, rfl⟩
    · rcases keyIs_shape hv with ⟨j, u, rfl, rfl⟩ | ⟨y, u, rfl, rfl⟩
      · rw [key_ll] at h; exact wpAny_eqBool_int h
      · rw [key_lr] at h; exact SeqAt.EqAt.int_str i t y u _ _ _ _ h
    · rcases keyIs_shape hv with ⟨j, u, rfl, rfl⟩ | ⟨y, u, rfl, rfl⟩
      · rw [key_rl] at h; exact SeqAt.EqAt.str_int x t j u _ _ _ _ h
      · rw [key_rr] at h; exact wpAny_eqBool_str h
  «strs» := fun k x t v h => by
    rcases keyIs_shape h with ⟨i, u, rfl, e⟩ | ⟨y, u, rfl, e⟩
    · exact nomatch e
    · injection e with e1 _
      subst e1
      cases v <;> rfl
end L2
namespace L2
open PySem PySem.Spec PyProof.Rows
inductive V where
  | non | bl (b : Bool) | int (i : Int) | str (x : Str) | byt (b : Array UInt8) | flt (b : UInt64) | ref (a : Addr) | ty (n : String)
  deriving DecidableEq
def RelV : V → Value → Prop
  | .non, u => u = Value.none
  | .bl b, u => u = Value.bool b
  | .int i, u => ∃ t, u = Value.int i t
  | .str x, u => ∃ t, u = Value.str x t
  | .byt b, u => ∃ t, u = Value.bytes b t
  | .flt b, u => ∃ t, u = Value.float b t
  | .ref a, u => u = Value.ref a
  | .ty n, u => u = Value.type n
abbrev Vals : List V → List Value → Prop := Paired RelV
theorem Vals.length {xs : List V} {us : List Value} (r : Vals xs us) : xs.length = us.length := Paired.length r
theorem Vals.get : ∀ {xs : List V} {us : List Value} {i : Nat} {x : V}, Vals xs us → xs[i]? = some x → ∃ u, us[i]? = some u ∧ RelV x u
  | _, _, _, _, .nil, e => by simp at e
  | _, _, 0, _, .cons r _, e => by simp at e; subst e; exact ⟨_, rfl, r⟩
  | _, _, i + 1, x, .cons _ t, e => by
    obtain ⟨u, h1, h2⟩ := Vals.get (i := i) (x := x) t (by simpa using e)
    exact ⟨u, by simpa using h1, h2⟩
theorem Vals.set {x : V} {u : Value} (r : RelV x u) : ∀ {xs : List V} {us : List Value} (i : Nat), Vals xs us → Vals (xs.set i x) (us.set i u)
  | _, _, _, .nil => .nil
  | _, _, 0, .cons _ t => .cons r t
  | _, _, i + 1, .cons q t => .cons q (Vals.set r i t)
theorem Vals.append : ∀ {xs ys : List V} {us ws : List Value}, Vals xs us → Vals ys ws → Vals (xs ++ ys) (us ++ ws)
  | _, _, _, _, .nil, s => s
  | _, _, _, _, .cons r t, s => .cons r (Vals.append t s)
theorem Vals.take : ∀ {xs : List V} {us : List Value} (n : Nat), Vals xs us → Vals (xs.take n) (us.take n)
  | _, _, 0, _ => .nil
  | _, _, _ + 1, .nil => .nil
  | _, _, n + 1, .cons r t => .cons r (Vals.take n t)
theorem Vals.drop : ∀ {xs : List V} {us : List Value} (n : Nat), Vals xs us → Vals (xs.drop n) (us.drop n)
  | _, _, 0, r => r
  | _, _, _ + 1, .nil => .nil
  | _, _, n + 1, .cons _ t => Vals.drop n t
def RelO : Option V → Option Value → Prop
  | some v, some u => RelV v u
  | none, none => True
  | _, _ => False
def KV {κ : Type} : List (κ × V) → List (κ × Value) → Prop := Paired fun (p : κ × V) (q : κ × Value) => p.1 = q.1 ∧ RelV p.2 q.2
def kV : Key → V
  | .inl i => .int i
  | .inr x => .str x
inductive HO where
  /-- a list -/
  | lst (xs : List V)
  /-- a tuple (never changes) -/
  | tup (xs : List V)
  /-- a dict whose keys are ints and texts; one whose keys are tuples of ints and texts (the empty one is both) -/
  | dK (kvs : List (Key × V)) | dT (kvs : List (List Key × V))
  /-- a set of ints: its members, its size -/
  | set (S : Int → Bool) (n : Nat)
  /-- an instance of the class at C, its dict at dx, its attributes -/
  | ins (C dx : Addr) (fs : List (Str × V))
  /-- the dict of the instance at x -/
  | own (x : Addr)
  /-- the dict of an exception -/
  | xd (fs : List (Str × V))
  /-- a bound method, f of x -/
  | met (f x : Addr)
  /-- a range object lo, lo + 1, .. below hi -/
  | rng (lo hi : Int)
  /-- a thing that is known to the object (the script; a dict while a loop walks it): read, never written while it is so -/
  | frz (o : Obj) (u : HO)
  /-- a code object's table -/
  | tbl (ps : Array Value)
  /-- any other thing, by what is true of its one object (a def of one's own: SetO a S n := HO.ext fun h => ..) -/
  | ext (φ : Heap → Prop)
abbrev Hp := Addr → Option HO
def upd (H : Hp) (a : Addr) (o : HO) : Hp := fun b => if b = a then some o else H b
theorem upd_same {H : Hp} {a : Addr} {o : HO} : upd H a o a = some o := by unfold upd; rw [if_pos rfl]
theorem upd_ne {H : Hp} {a b : Addr} {o : HO} (h : b ≠ a) : upd H a o b = H b := by unfold upd; rw [if_neg h]
theorem upd_upd {H : Hp} {a : Addr} {o u : HO} : upd (upd H a o) a u = upd H a u := by
  funext b; unfold upd; split <;> rfl
theorem ne_of {H : Hp} {a b : Addr} {o u : HO} (h : H a = some o) (h' : H b = some u) (d : o ≠ u) : a ≠ b := by
  intro e; subst e; rw [h] at h'; exact d (Option.some.inj h')
theorem ne_of_none {H : Hp} {a b : Addr} {o : HO} (h : H a = some o) (h' : H b = none) : a ≠ b := by
  intro e; subst e; rw [h] at h'; cases h'
section
variable (P : Program) (w : World)
def ObjOk (H : Hp) (h : Heap) (a : Addr) : HO → Prop
  | .lst xs => xs.length ≤ sizeLine ∧ ∃ (its : List Value) (n : Nat), Vals xs its ∧ h.get? a = some { cls := .type "list", data := .seq its.toArray n }
  | .tup xs => xs.length ≤ sizeLine ∧ ∃ its : List Value, Vals xs its ∧ IsTup h a its.toArray
  | .dK kvs => kvs.length ≤ sizeLine ∧ (a == sysModules) = false ∧ ∃ vs, KV kvs vs ∧ h.DictOf (mixKind P w) a vs
  | .dT kvs => kvs.length ≤ sizeLine ∧ (a == sysModules) = false ∧ ∃ xs : List (List Key × Addr × Value),
      Paired (fun (p : List Key × V) (q : List Key × Addr × Value) => p.1 = q.1 ∧ H q.2.1 = some (.tup (p.1.map kV)) ∧ RelV p.2 q.2.2) kvs xs ∧
      ∃ o es ep, h.get? a = some o ∧ o.ExactDict ∧ o.data = .dict es ep ∧ es.toList = xs.map (entryOfKey (tupleKind (mixKind P w))) ∧ (xs.map (·.1)).Nodup
  | .set S n => h.SetOf (intKind P w) a S n
  | .ins C dx fs => H dx = some (.own a) ∧ fs.length ≤ 1000 ∧ dx ≠ a ∧ h.get? a = some (PySem.W.instObj C dx) ∧
      ∃ mA, h.Ns1 dx mA ∧ (∀ f, RelO (fs.lookup f) (mA f)) ∧ PySem.Within mA (fs.map (·.1))
  | .own _ => ∃ o, h.get? a = some o
  | .xd fs => ∃ mA, h.Ns1 a mA ∧ ∀ f, RelO (fs.lookup f) (mA f)
  | .rng lo hi => ∃ t u v, h.get? a = some { cls := .type "range", data := .fields #[.int lo t, .int hi u, .int 1 v] }
  | .frz o u => h.get? a = some o ∧ ObjOk H h a u
  | .tbl ps => h.get? a = some { cls := .none, data := .fields ps }
  | .met f x => h.get? a = some (PySem.W.methodObj (.ref f) (.ref x))
  | .ext φ => φ h ∧ (∃ o, h.get? a = some o) ∧ ∀ h1 h2 : Heap, φ h1 → (∀ o, h1.get? a = some o → h2.get? a = some o) → φ h2
def HOk (H : Hp) (h : Heap) : Prop := ∀ a o, H a = some o → ObjOk P w H h a o
end
section
variable {P : Program} {w : World} {H H' : Hp} {h h' : Heap} {a : Addr} {o : HO}
theorem ObjOk.lt (x : ObjOk P w H h a o) : a < h.objs.size := by
  cases o with
  | lst xs => obtain ⟨_, _, _, _, e⟩ := x; exact Heap.lt_size e
  | tup xs => obtain ⟨_, _, _, p⟩ := x; exact p.lt
  | dK kvs => obtain ⟨_, _, _, _, o, _, _, e, _⟩ := x; exact Heap.lt_size e
  | dT kvs => obtain ⟨_, _, _, _, o, _, _, e, _⟩ := x; exact Heap.lt_size e
  | set S n => obtain ⟨o, _, _, _, e, _⟩ := x; exact Heap.lt_size e
  | ins C dx fs => obtain ⟨_, _, _, e, _⟩ := x; exact Heap.lt_size e
  | own y => obtain ⟨_, e⟩ := x; exact Heap.lt_size e
  | xd fs => obtain ⟨_, ⟨_, _, _, e, _⟩, _⟩ := x; exact Heap.lt_size e
  | rng lo hi => obtain ⟨_, _, _, e⟩ := x; exact Heap.lt_size e
  | frz ob u => obtain ⟨e, _⟩ := x; exact Heap.lt_size e
  | tbl ps => exact Heap.lt_size (show h.get? a = some _ from x)
  | met f y => exact Heap.lt_size (show h.get? a = some _ from x)
  | ext φ => obtain ⟨_, ⟨_, e⟩, _⟩ := x; exact Heap.lt_size e
theorem Paired.mapP {α β : Type} {F G : α → β → Prop} : ∀ {l₁ : List α} {l₂ : List β}, Paired F l₁ l₂ → (∀ a b, F a b → G a b) → Paired G l₁ l₂
  | _, _, .nil, _ => .nil
  | _, _, .cons r t, f => .cons (f _ _ r) (Paired.mapP t f)
theorem ObjOk.stay (x : ObjOk P w H h a o) (k : ∀ b u, (b = a ∨ H b = some (.own a)) → h.get? b = some u → h'.get? b = some u)
    (ho : ∀ b, H b = some (.own a) → H' b = some (.own a)) (ht : ∀ b xs, H b = some (.tup xs) → H' b = some (.tup xs)) : ObjOk P w H' h' a o := by
  induction o with
  | lst xs => obtain ⟨z, its, n, r, e⟩ := x; exact ⟨z, its, n, r, k _ _ (.inl rfl) e⟩
  | tup xs => obtain ⟨z, its, r, ob, e, c⟩ := x; exact ⟨z, its, r, ob, k _ _ (.inl rfl) e, c⟩
  | dK kvs => obtain ⟨z, y, vs, r, ob, es, ep, e, c⟩ := x; exact ⟨z, y, vs, r, ob, es, ep, k _ _ (.inl rfl) e, c⟩
  | dT kvs =>
    obtain ⟨z, y, xs, r, ob, es, ep, e, c⟩ := x
    exact ⟨z, y, xs, Paired.mapP r fun p q z => ⟨z.1, ht _ _ z.2.1, z.2.2⟩, ob, es, ep, k _ _ (.inl rfl) e, c⟩
  | set S n => obtain ⟨ob, es, ep, t, e, c⟩ := x; exact ⟨ob, es, ep, t, k _ _ (.inl rfl) e, c⟩
  | ins C dx fs =>
    obtain ⟨d, z, ne, e, mA, ⟨od, es, ep, e2, c⟩, r⟩ := x
    exact ⟨ho _ d, z, ne, k _ _ (.inl rfl) e, mA, ⟨od, es, ep, k _ _ (.inr d) e2, c⟩, r⟩
  | own y => obtain ⟨ob, e⟩ := x; exact ⟨ob, k _ _ (.inl rfl) e⟩
  | xd fs => obtain ⟨mA, ⟨od, es, ep, e, c⟩, r⟩ := x; exact ⟨mA, ⟨od, es, ep, k _ _ (.inl rfl) e, c⟩, r⟩
  | rng lo hi => obtain ⟨t, u, v, e⟩ := x; exact ⟨t, u, v, k _ _ (.inl rfl) e⟩
  | frz ob u ih => obtain ⟨e, q⟩ := x; exact ⟨k _ _ (.inl rfl) e, ih q⟩
  | tbl ps =>
    have e : h.get? a = some { cls := .none, data := .fields ps } := x
    show h'.get? a = some { cls := .none, data := .fields ps }
    exact k a _ (.inl rfl) e
  | met f y =>
    have e : h.get? a = some (PySem.W.methodObj (.ref f) (.ref y)) := x
    show h'.get? a = some (PySem.W.methodObj (.ref f) (.ref y))
    exact k a _ (.inl rfl) e
  | ext φ => obtain ⟨p, ⟨o, e⟩, st⟩ := x; exact ⟨st _ _ p fun o q => k _ _ (.inl rfl) q, ⟨o, k _ _ (.inl rfl) e⟩, st⟩
theorem HOk.lt (x : HOk P w H h) (e : H a = some o) : a < h.objs.size := (x a o e).lt
theorem HOk.fresh (x : HOk P w H h) (e : h.objs.size ≤ a) : H a = none := by
  cases q : H a with
  | none => rfl
  | some u => exact absurd (Nat.lt_of_lt_of_le (x.lt q) e) (Nat.lt_irrefl _)
theorem HOk.kept (x : HOk P w H h) (k : ∀ b u, h.get? b = some u → h'.get? b = some u) : HOk P w H h' := fun a o e =>
  (x a o e).stay (fun b u _ q => k b u q) (fun _ q => q) fun _ _ q => q
theorem HOk.laid (x : HOk P w H h) (k : ∀ b u, h.get? b = some u → h'.get? b = some u) (hp : h.objs.size ≤ a) (new : ObjOk P w (upd H a o) h' a o) : HOk P w (upd H a o) h' := fun b u e => by
  have hn := x.fresh hp
  by_cases hb : b = a
  · subst hb; rw [upd_same] at e; cases e; exact new
  · rw [upd_ne hb] at e
    exact (x b u e).stay (fun c v _ q => k c v q) (fun c q => by rw [upd_ne (ne_of_none q hn)]; exact q) fun c xs q => by rw [upd_ne (ne_of_none q hn)]; exact q
end
def Rd (H : Hp) (a : Addr) (u : HO) : Prop := H a = some u ∨ ∃ o, H a = some (.frz o u)
theorem Rd.ok {P : Program} {w : World} {H : Hp} {h : Heap} {a : Addr} {u : HO} (r : Rd H a u) (x : HOk P w H h) : ObjOk P w H h a u := by
  rcases r with r | ⟨o, r⟩
  · exact x a u r
  · obtain ⟨_, q⟩ := x a _ r
    exact q
def Mut : Option HO → Prop
  | some (.lst _) => True
  | some (.dK _) => True
  | some (.dT _) => True
  | some (.set _ _) => True
  | some (.ins _ _ _) => True
  | some (.ext _) => True
  | _ => False
section
variable {P : Program} {w : World} {H : Hp} {h h' : Heap} {x e : Addr} {o' : HO}
theorem HOk.write (ok : HOk P w H h) (mu : Mut (H x)) (he : e = x ∨ H e = some (.own x)) (k : ∀ b u, b ≠ e → h.get? b = some u → h'.get? b = some u) (heo : ∃ u, h'.get? e = some u)
    (new : ObjOk P w (upd H x o') h' x o') : HOk P w (upd H x o') h' := fun b u q => by
  have nown : ∀ c y, H c = some (.own y) → c ≠ x := fun c y r z => by subst z; rw [r] at mu; exact mu
  have ntup : ∀ c xs, H c = some (.tup xs) → c ≠ x := fun c xs r z => by subst z; rw [r] at mu; exact mu
  by_cases hb : b = x
  · subst hb; rw [upd_same] at q; cases q; exact new
  · rw [upd_ne hb] at q
    by_cases hbe : b = e
    · have q' : H b = some (.own x) := by
        rcases he with z | z
        · exact absurd (hbe.trans z) hb
        · rw [hbe]; exact z
      rw [q] at q'; cases q'
      obtain ⟨v, hv⟩ := heo
      exact ⟨v, by rw [hbe]; exact hv⟩
    · refine (ok b u q).stay (fun c v hc r => k c v ?_ r) (fun c r => by rw [upd_ne (nown c b r)]; exact r) fun c xs r => by rw [upd_ne (ntup c xs r)]; exact r
      rcases hc with rfl | hc
      · exact hbe
      · rintro rfl
        rcases he with z | z
        · exact nown c b hc z
        · rw [hc] at z; cases z; exact hb rfl
end
structure Un (fs ex : List Addr) (H H' : Hp) (h h' : Heap) : Prop where
  keep : ∀ b o, h.get? b = some o → H b = none → b ∉ fs → b ∉ ex → h'.get? b = some o
  slot : ∀ b o, h.get? b = some o → H b = none → b ∈ fs → b ∉ ex → ∃ sl, h'.get? b = some { o with slots := sl }
  free : ∀ b o, h.get? b = some o → H b = none → b ∉ ex → H' b = none
  there : ∀ b o, h.get? b = some o → b ∉ ex → ∃ o', h'.get? b = some o'
  tups : ∀ b xs, H b = some (.tup xs) → H' b = some (.tup xs)
  frzs : ∀ b o u, H b = some (.frz o u) → H' b = some (.frz o u)
  tbls : ∀ b ps, H b = some (.tbl ps) → ∃ more, H' b = some (.tbl (ps ++ more))
section
variable {fs fs' ex ex' : List Addr} {H H1 H2 : Hp} {h h1 h2 h' : Heap} {a x e : Addr} {o : HO}
theorem Un.any (u : Un fs ex H H1 h h1) {b : Addr} {ob : Obj} (q : h.get? b = some ob) (n : H b = none) (hx : b ∉ ex) : ∃ sl, h1.get? b = some { ob with slots := sl } := by
  by_cases hb : b ∈ fs
  · exact u.slot b ob q n hb hx
  · exact ⟨ob.slots, u.keep b ob q n hb hx⟩
theorem Un.kept (k : ∀ b u, h.get? b = some u → h'.get? b = some u) : Un fs ex H H h h' :=
  ⟨fun b ob q _ _ _ => k b ob q, fun b ob q _ _ _ => ⟨ob.slots, k b ob q⟩, fun _ _ _ n _ => n, fun b ob q _ => ⟨ob, k b ob q⟩, fun _ _ q => q, fun _ _ _ q => q, fun _ ps q => ⟨#[], by rw [q]; simp⟩⟩
theorem Un.refl : Un fs ex H H h h := Un.kept fun _ _ q => q
theorem Un.laid (k : ∀ b u, h.get? b = some u → h'.get? b = some u) (hp : h.objs.size ≤ a) (hn : H a = none) : Un fs ex H (upd H a o) h h' where
  keep := fun b u q _ _ _ => k b u q
  slot := fun b u q _ _ _ => ⟨u.slots, k b u q⟩
  free := fun b u q n _ => by rw [upd_ne (Nat.ne_of_lt (Nat.lt_of_lt_of_le (Heap.lt_size q) hp))]; exact n
  there := fun b u q _ => ⟨u, k b u q⟩
  tups := fun b xs q => by rw [upd_ne (ne_of_none q hn)]; exact q
  frzs := fun b u xs q => by rw [upd_ne (ne_of_none q hn)]; exact q
  tbls := fun b ps q => ⟨#[], by rw [upd_ne (ne_of_none q hn), q]; simp⟩
theorem Un.write (mu : Mut (H x)) (he : e = x ∨ H e = some (.own x)) (k : ∀ b u, b ≠ e → h.get? b = some u → h'.get? b = some u) (heo : ∃ u, h'.get? e = some u) : Un fs ex H (upd H x o) h h' := by
  have hx : ∀ b, H b = none → b ≠ x := fun b n z => by subst z; rw [n] at mu; exact mu
  have hb : ∀ b, H b = none → b ≠ e := fun b n z => by
    subst z
    rcases he with r | r
    · exact hx b n r
    · rw [n] at r; cases r
  have hm : ∀ b u, H b = some u → ¬ Mut (some u) → b ≠ x := fun b u q nm z => by subst z; rw [q] at mu; exact nm mu
  refine ⟨fun b u q n _ _ => k b u (hb b n) q, fun b u q n _ _ => ⟨u.slots, k b u (hb b n) q⟩, fun b u q n _ => by rw [upd_ne (hx b n)]; exact n, fun b u q _ => ?_,
    fun b xs q => by rw [upd_ne (hm b _ q fun z => z)]; exact q, fun b u xs q => by rw [upd_ne (hm b _ q fun z => z)]; exact q, fun b ps q => ⟨#[], by rw [upd_ne (hm b _ q fun z => z), q]; simp⟩⟩
  by_cases hbe : b = e
  · subst hbe; exact heo
  · exact ⟨u, k b u hbe q⟩
end
def trk (h : Heap) (H : Hp) : List Addr := (List.range h.objs.size).filter fun a => (H a).isSome
def hidT (h : Heap) (H : Hp) : Heap := PySem.W.hideAll h (trk h H)
theorem hidT_size (h : Heap) (H : Hp) : (hidT h H).objs.size = h.objs.size := PySem.W.hideAll_size _ _
theorem hidT_get {h : Heap} {H : Hp} {b : Addr} {o : Obj} (e : h.get? b = some o) (n : H b = none) : (hidT h H).get? b = some o :=
  PySem.W.hideAll_get _ e fun hm => by
    have q : (H b).isSome = true := (List.mem_filter.mp hm).2
    rw [n] at q; simp at q
theorem of_hidT {h : Heap} {H : Hp} {b : Addr} {o : Obj} (e : (hidT h H).get? b = some o) : h.get? b = some o ∧ H b = none := by
  have e' : h.get? b = some o := PySem.W.of_hideAll (trk h H) e
  refine ⟨e', ?_⟩
  cases q : H b with
  | none => rfl
  | some x =>
    have hm : b ∈ trk h H := List.mem_filter.mpr ⟨List.mem_range.mpr (Heap.lt_size e'), by simp [q]⟩
    have z : (hidT h H).get? b = none := PySem.W.hideAll_none (trk h H) hm
    rw [z] at e; cases e
def allNews (g h : Heap) (L : Addr) : List (Addr × Obj) := (List.range h.objs.size).filterMap fun a => if a = L ∨ (g.get? a).isSome = true then none else (h.get? a).map fun o => (a, o)
end L2
namespace L2
open PySem PySem.Spec PyProof.Rows
structure Mod (K : PySem.W.Frag) (mg : Str → Option Value) (base : Heap) : Prop where
  kin : K.In base
  glob : base.Ns mainGlobals mg
  blt : ∃ mb, base.Ns builtinsNs mb ∧ ∀ x : Str, x ≠ "__name__" → mb x = bootBuiltins x
  nolimit : base.NoLimit
structure Cx where
  prog : Program
  w : World
  K : PySem.W.Frag
  mg : Str → Option Value
  base : Heap
  A : Around
  N : List Str
  s₀ : Shared
  H₀ : Hp
  env : Env
  outer : List Env
  stack : List Env
  ex : List Addr
  fn : Str → Bool
  calm : Bool
  pn : List (Addr × Obj)
  xe : Value → Shared → Prop
def frs (l : List Env) : List Addr := l.filterMap (·.frame)
abbrev Cx.fs (X : Cx) : List Addr := frs X.outer
def Vis (sc : Scope) (x : Str) : Prop := sc.names.lookup x = some .local ∨ sc.names.lookup x = some .cell ∨ sc.names.lookup x = some .free
def Loc (sc : Scope) (x : Str) : Prop := sc.names.lookup x = some .local ∨ sc.names.lookup x = some .cell
def Look (env : Env) (h : Heap) (m : Str → Option Value) (x : Str) (u : Value) : Prop :=
  (env.kindOf x = some .local ∧ m x = some u) ∨ ((env.kindOf x = some .cell ∨ env.kindOf x = some .free) ∧ ∃ c, env.cells.lookup x = some c ∧ h.IsCell c (some u))
structure Cx.Ok (X : Cx) : Prop where
  mod : Mod X.K X.mg X.base
  kind : X.env.scope.kind = .function
  glob : X.env.globals = mainGlobals
  blt : X.env.builtins = builtinsNs
  above : X.s₀.heap.objs.size ≤ X.env.locals
  inj : ∀ x y c, X.env.cells.lookup x = some c → X.env.cells.lookup y = some c → x = y
  has : ∀ x, (X.env.kindOf x = some .cell ∨ X.env.kindOf x = some .free) → ∃ c, X.env.cells.lookup x = some c
  cab : ∀ x c, X.fn x = true → X.env.cells.lookup x = some c → X.s₀.heap.objs.size ≤ c
  hd : X.calm = true → X.A.handled = none
  frames : X.A.frames = some X.stack
  stk : X.stack = X.outer ∨ (X.stack = X.env :: X.outer ∧ X.env.frame = some X.env.locals)
  exf : ∀ b ∈ X.ex, b ≠ X.env.locals ∧ ∀ x c, X.env.cells.lookup x = some c → c ≠ b
  bs : ∀ b o, X.base.get? b = some o → X.s₀.heap.get? b = some o ∧ X.H₀ b = none
  bsz : X.base.objs.size ≤ X.s₀.heap.objs.size
  noex : ∀ b o, X.base.get? b = some o → b ∉ X.ex
  exfs : ∀ b ∈ X.ex, b ∉ X.fs
  funs : X.s₀.heap.FunFrames X.base X.outer
  frf : ∀ b ∈ X.fs, X.H₀ b = none
structure Inv (X : Cx) (pins : List (Addr × Obj)) (σ : List (Option V)) (H : Hp) (s : Shared) : Prop where
  ok : X.Ok
  os : s.os = X.s₀.os
  bare : AllBare s.gens
  base : Un X.fs X.ex X.H₀ H X.s₀.heap s.heap
  loc : ∃ m, s.heap.Ns X.env.locals m ∧ ∀ (i : Nat) (x : Str) (v : V), X.N[i]? = some x → σ[i]? = some (some v) → Vis X.env.scope x → ∃ u, RelV v u ∧ Look X.env s.heap m x u
  cell : ∀ x c, X.env.cells.lookup x = some c → ∃ v, s.heap.IsCell c v
  free : H X.env.locals = none
  freeC : ∀ x c, X.env.cells.lookup x = some c → H c = none
  pin : ∀ p ∈ X.pn ++ pins, s.heap.get? p.1 = some p.2 ∧ H p.1 = none ∧ p.1 ≠ X.env.locals ∧ p.1 ∉ X.fs ∧ ∀ v, p.2.data ≠ .cell v
  hok : HOk X.prog X.w H s.heap
  len : σ.length = X.N.length
section
variable {X : Cx} {pins : List (Addr × Obj)} {σ : List (Option V)} {H H' : Hp} {s : Shared} {h' : Heap}
theorem Cx.Ok.nofr (ok : X.Ok) {b : Addr} {o : Obj} (e : X.base.get? b = some o) : b ∉ X.fs := fun hb => by
  have := (ok.funs.mem hb).1
  rw [e] at this; cases this
theorem Inv.bs (I : Inv X pins σ H s) : ∀ b o, X.base.get? b = some o → s.heap.get? b = some o ∧ H b = none := fun b o e =>
  ⟨I.base.keep b o (I.ok.bs b o e).1 (I.ok.bs b o e).2 (I.ok.nofr e) (I.ok.noex b o e), I.base.free b o (I.ok.bs b o e).1 (I.ok.bs b o e).2 (I.ok.noex b o e)⟩
theorem Inv.bk (I : Inv X pins σ H s) : ∀ b o, X.base.get? b = some o → s.heap.get? b = some o := fun b o e => (I.bs b o e).1
theorem Inv.mod (I : Inv X pins σ H s) : Mod X.K X.mg X.base := I.ok.mod
theorem Inv.kIn (I : Inv X pins σ H s) : X.K.In s.heap := I.ok.mod.kin.keeps I.bk
theorem Inv.lt (I : Inv X pins σ H s) : X.env.locals < s.heap.objs.size := let ⟨_, hn, _⟩ := I.loc; hn.lt
theorem Inv.sz (I : Inv X pins σ H s) : X.s₀.heap.objs.size ≤ s.heap.objs.size := Nat.le_trans I.ok.above (Nat.le_of_lt I.lt)
theorem Inv.nofs (I : Inv X pins σ H s) {a : Addr} (h : s.heap.objs.size ≤ a) : a ∉ X.fs := fun hb => by
  obtain ⟨_, o, ho, _⟩ := I.ok.funs.mem hb
  exact absurd (Nat.lt_of_lt_of_le (Heap.lt_size ho) (Nat.le_trans I.sz h)) (Nat.lt_irrefl _)
theorem Inv.cne (I : Inv X pins σ H s) : ∀ x c, X.env.cells.lookup x = some c → c ≠ X.env.locals := fun x c e z => by
  obtain ⟨v, o, ho, hd⟩ := I.cell x c e
  obtain ⟨m, ⟨o', es, ep, ho', hd', _⟩, _⟩ := I.loc
  rw [z, ho'] at ho; cases ho; rw [hd'] at hd; cases hd
theorem Inv.funs (I : Inv X pins σ H s) : s.heap.FunFrames X.base X.outer := by
  have all : ∀ (l : List Env), (∀ b ∈ frs l, b ∈ X.fs) → X.s₀.heap.FunFrames X.base l → s.heap.FunFrames X.base l := by
    intro l
    induction l with
    | nil => intro _ _; trivial
    | cons env r ih =>
      intro hs hl
      obtain ⟨hk, ⟨L, o, hf, hn, ho, hd⟩, hr⟩ := hl
      have hL : L ∈ X.fs := hs L (by unfold frs; rw [List.filterMap_cons, hf]; exact List.mem_cons_self)
      obtain ⟨sl, e⟩ := I.base.slot L o ho (I.ok.frf L hL) hL fun z => I.ok.exfs L z hL
      exact ⟨hk, ⟨L, _, hf, hn, e, hd⟩, ih (fun b hb => hs b (by unfold frs; rw [List.filterMap_cons, hf]; exact List.mem_cons_of_mem _ hb)) hr⟩
  exact all X.outer (fun _ hb => hb) I.ok.funs
theorem Inv.stack (I : Inv X pins σ H s) : s.heap.FunFrames X.base X.stack := by
  rcases I.ok.stk with e | ⟨e, hf⟩
  · rw [e]; exact I.funs
  · rw [e]
    obtain ⟨m, hn, _⟩ := I.loc
    refine .cons (by rw [I.ok.kind]; decide) hf hn ?_ I.funs
    exact Heap.get?_none_of_le (Nat.le_trans I.ok.bsz I.ok.above)
theorem Inv.stkSub (I : Inv X pins σ H s) : ∀ b ∈ frs X.stack, b ∈ X.env.locals :: X.fs := fun b hb => by
  rcases I.ok.stk with e | ⟨e, hf⟩
  · rw [e] at hb; exact List.mem_cons_of_mem _ hb
  · rw [e] at hb
    unfold frs at hb
    rw [List.filterMap_cons, hf] at hb
    exact hb
theorem Inv.stkFree (I : Inv X pins σ H s) : ∀ b ∈ frs X.stack, H b = none := fun b hb => by
  rcases List.mem_cons.mp (I.stkSub b hb) with e | hb
  · rw [e]; exact I.free
  · obtain ⟨_, o, ho, _⟩ := I.ok.funs.mem hb
    exact I.base.free b o ho (I.ok.frf b hb) fun z => I.ok.exfs b z hb
theorem Inv.step {g' : Array GenState} {t' : Nat} {d' : Drawn} {ch : List Addr} (I : Inv X pins σ H s)
    (hch : ∀ b ∈ ch, (b ∈ X.ex ∨ X.s₀.heap.objs.size ≤ b) ∧ b ≠ X.env.locals ∧ (∀ x c, X.env.cells.lookup x = some c → c ≠ b) ∧ ∀ p ∈ X.pn ++ pins, p.1 ≠ b)
    (keep : ∀ b o, b ≠ X.env.locals → b ∉ X.fs → b ∉ ch → s.heap.get? b = some o → H b = none → h'.get? b = some o)
    (slot : ∀ b o, b ≠ X.env.locals → b ∈ X.fs → b ∉ ch → s.heap.get? b = some o → H b = none → ∃ sl, h'.get? b = some { o with slots := sl }) (free : ∀ b o, b ∉ ch → s.heap.get? b = some o → H b = none → H' b = none)
    (there : ∀ b o, b ∉ ch → s.heap.get? b = some o → ∃ o', h'.get? b = some o')
    (tups : ∀ b xs, H b = some (.tup xs) → H' b = some (.tup xs)) (frzs : ∀ b o u, H b = some (.frz o u) → H' b = some (.frz o u)) (tbls : ∀ b ps, H b = some (.tbl ps) → ∃ more, H' b = some (.tbl (ps ++ more)))
    (ns : ∀ m, s.heap.Ns X.env.locals m → h'.Ns X.env.locals m) (hok : HOk X.prog X.w H' h') (hg : AllBare g') :
    Inv X pins σ H' { s with heap := h', gens := g', drawn := d', toks := t' } := by
  have neL : ∀ b o, X.s₀.heap.get? b = some o → b ≠ X.env.locals := fun b o e => Nat.ne_of_lt (Nat.lt_of_lt_of_le (Heap.lt_size e) I.ok.above)
  have neC : ∀ b o, X.s₀.heap.get? b = some o → b ∉ X.ex → b ∉ ch := fun b o e hx hb => by
    rcases (hch b hb).1 with z | z
    · exact hx z
    · exact absurd (Nat.lt_of_lt_of_le (Heap.lt_size e) z) (Nat.lt_irrefl _)
  have cellK : ∀ x c, X.env.cells.lookup x = some c → ∀ v, s.heap.IsCell c v → h'.IsCell c v := fun x c e v ⟨o, ho, hd⟩ => by
    have nch : c ∉ ch := fun z => (hch c z).2.2.1 x c e rfl
    by_cases hc : c ∈ X.fs
    · obtain ⟨sl, q⟩ := slot c o (I.cne x c e) hc nch ho (I.freeC x c e)
      exact ⟨_, q, hd⟩
    · exact ⟨o, keep c o (I.cne x c e) hc nch ho (I.freeC x c e), hd⟩
  refine ⟨I.ok, I.os, hg, ⟨fun b o e n hb hx => ?_, fun b o e n hb hx => ?_, fun b o e n hx => ?_, fun b o e hx => ?_, fun b xs e => tups b xs (I.base.tups b xs e), fun b o xs e => frzs b o xs (I.base.frzs b o xs e), fun b ps e => ?_⟩, ?_, fun x c e => ?_, ?_, fun x c e => ?_, fun p hp => ?_, hok, I.len⟩
  · exact keep b o (neL b o e) hb (neC b o e hx) (I.base.keep b o e n hb hx) (I.base.free b o e n hx)
  · obtain ⟨sl, e1⟩ := I.base.slot b o e n hb hx
    obtain ⟨sl', e2⟩ := slot b _ (neL b o e) hb (neC b o e hx) e1 (I.base.free b o e n hx)
    exact ⟨sl', e2⟩
  · obtain ⟨o', e1⟩ := I.base.there b o e hx
    exact free b o' (neC b o e hx) e1 (I.base.free b o e n hx)
  · obtain ⟨o', e1⟩ := I.base.there b o e hx
    exact there b o' (neC b o e hx) e1
  · obtain ⟨m1, e1⟩ := I.base.tbls b ps e
    obtain ⟨m2, e2⟩ := tbls b _ e1
    exact ⟨m1 ++ m2, by rw [e2, Array.append_assoc]⟩
  · obtain ⟨m, hn, hl⟩ := I.loc
    refine ⟨m, ns m hn, fun i x v e1 e2 e3 => ?_⟩
    obtain ⟨u, r, l⟩ := hl i x v e1 e2 e3
    refine ⟨u, r, ?_⟩
    rcases l with l | ⟨k, c, e, z⟩
    · exact .inl l
    · exact .inr ⟨k, c, e, cellK x c e _ z⟩
  · obtain ⟨v, z⟩ := I.cell x c e
    exact ⟨v, cellK x c e v z⟩
  · obtain ⟨m, ⟨o, _, _, ho, _⟩, _⟩ := I.loc
    exact free _ o (fun z => (hch _ z).2.1 rfl) ho I.free
  · obtain ⟨v, o, ho, hd⟩ := I.cell x c e
    exact free c o (fun z => (hch c z).2.2.1 x c e rfl) ho (I.freeC x c e)
  · obtain ⟨e, n, ne, nf, d⟩ := I.pin p hp
    have nch : p.1 ∉ ch := fun z => (hch p.1 z).2.2.2 p hp rfl
    exact ⟨keep p.1 p.2 ne nf nch e n, free p.1 p.2 nch e n, ne, nf, d⟩
theorem Inv.un {t' : Nat} (I : Inv X pins σ H s) (u : Un X.fs [] H H' s.heap h') (hok : HOk X.prog X.w H' h') : Inv X pins σ H' { s with heap := h', toks := t' } := by
  obtain ⟨m, ⟨o, es, ep, ho, r⟩, _⟩ := id I.loc
  obtain ⟨sl, hL⟩ := u.any ho I.free (by simp)
  exact I.step (g' := s.gens) (d' := s.drawn) (ch := []) (fun _ z => nomatch z) (fun b o _ hb _ e n => u.keep b o e n hb (by simp)) (fun b o _ hb _ e n => u.slot b o e n hb (by simp)) (fun b o _ e n => u.free b o e n (by simp)) (fun b o _ e => u.there b o e (by simp)) u.tups u.frzs u.tbls (fun m' hm => by
    obtain ⟨o', es', ep', ho', r'⟩ := hm
    rw [ho] at ho'; cases ho'
    exact ⟨_, es', ep', hL, r'⟩) hok I.bare
theorem Inv.call {g' : Array GenState} {t' : Nat} {d' : Drawn} {ch : List Addr} (I : Inv X pins σ H s) (u : Un (frs X.stack) ch H H' s.heap h') (hok : HOk X.prog X.w H' h') (hg : AllBare g')
    (hch : ∀ b ∈ ch, (b ∈ X.ex ∨ X.s₀.heap.objs.size ≤ b) ∧ b ≠ X.env.locals ∧ (∀ x c, X.env.cells.lookup x = some c → c ≠ b) ∧ ∀ p ∈ X.pn ++ pins, p.1 ≠ b) :
    Inv X pins σ H' { s with heap := h', gens := g', drawn := d', toks := t' } := by
  obtain ⟨m, ⟨o, es, ep, ho, r⟩, _⟩ := id I.loc
  obtain ⟨sl, hL⟩ := u.any ho I.free fun z => (hch _ z).2.1 rfl
  exact I.step (ch := ch) hch (fun b o hL hb hc e n => u.keep b o e n (fun z => (List.mem_cons.mp (I.stkSub b z)).elim hL hb) hc) (fun b o _ _ hc e n => u.any e n hc) (fun b o hc e n => u.free b o e n hc) (fun b o hc e => u.there b o e hc) u.tups u.frzs u.tbls (fun m' hm => by
    obtain ⟨o', es', ep', ho', r'⟩ := hm
    rw [ho] at ho'; cases ho'
    exact ⟨_, es', ep', hL, r'⟩) hok hg
theorem Inv.turned {t' : Nat} {it : Addr} (I : Inv X pins σ H s) (k : ∀ b o, b ≠ it → s.heap.get? b = some o → h'.get? b = some o) (hn : H it = none) (hL : it ≠ X.env.locals)
    (h1 : it ∈ X.ex ∨ X.s₀.heap.objs.size ≤ it) (h2 : ∀ x c, X.env.cells.lookup x = some c → c ≠ it) (h3 : ∀ p ∈ X.pn ++ pins, p.1 ≠ it) : Inv X pins σ H { s with heap := h', toks := t' } := by
  have nit : ∀ b u, H b = some u → b ≠ it := fun b u e z => by rw [z, hn] at e; cases e
  refine I.step (g' := s.gens) (d' := s.drawn) (ch := [it]) (fun b hb => ?_) (fun b o _ _ hc e _ => k b o (fun z => hc (by simp [z])) e) (fun b o _ _ hc e _ => ⟨o.slots, k b o (fun z => hc (by simp [z])) e⟩) (fun _ _ _ _ n => n)
    (fun b o hc e => ⟨o, k b o (fun z => hc (by simp [z])) e⟩) (fun _ _ e => e) (fun _ _ _ e => e) (fun b ps e => ⟨#[], by rw [e]; simp⟩) (fun m hm => ?_) (fun b u e => ?_) I.bare
  · have e : b = it := by simpa using hb
    subst e
    exact ⟨h1, hL, h2, h3⟩
  · obtain ⟨o, es, ep, ho, r⟩ := hm
    exact ⟨o, es, ep, k _ o (Ne.symm hL) ho, r⟩
  · refine (I.hok b u e).stay (fun c v hc q => k c v ?_ q) (fun _ q => q) fun _ _ q => q
    rcases hc with z | z
    · rw [z]; exact nit b u e
    · exact nit c _ z
theorem Inv.tok (I : Inv X pins σ H s) (t : Nat) : Inv X pins σ H { s with toks := t } := I.un (h' := s.heap) (t' := t) Un.refl I.hok
theorem Inv.kept {t' : Nat} (I : Inv X pins σ H s) (k : ∀ b u, s.heap.get? b = some u → h'.get? b = some u) : Inv X pins σ H { s with heap := h', toks := t' } := I.un (Un.kept k) (I.hok.kept k)
theorem Inv.laid {a : Addr} {o : HO} {t' : Nat} (I : Inv X pins σ H s) (k : ∀ b u, s.heap.get? b = some u → h'.get? b = some u) (hp : s.heap.objs.size ≤ a) (new : ObjOk X.prog X.w (upd H a o) h' a o) :
    Inv X pins σ (upd H a o) { s with heap := h', toks := t' } := I.un (Un.laid k hp (I.hok.fresh hp)) (I.hok.laid k hp new)
theorem Inv.write {x e : Addr} {o : HO} {t' : Nat} (I : Inv X pins σ H s) (mu : Mut (H x)) (he : e = x ∨ H e = some (.own x)) (k : ∀ b u, b ≠ e → s.heap.get? b = some u → h'.get? b = some u) (heo : ∃ u, h'.get? e = some u)
    (new : ObjOk X.prog X.w (upd H x o) h' x o) : Inv X pins σ (upd H x o) { s with heap := h', toks := t' } := I.un (Un.write mu he k heo) (I.hok.write mu he k heo new)
theorem Inv.weak {σ' : List (Option V)} (I : Inv X pins σ H s) (hl : σ'.length = σ.length) (w : ∀ (i : Nat) v, σ'[i]? = some (some v) → σ[i]? = some (some v)) : Inv X pins σ' H s :=
  ⟨I.ok, I.os, I.bare, I.base, let ⟨m, hn, hl'⟩ := I.loc; ⟨m, hn, fun i x v e1 e2 e3 => hl' i x v e1 (w i v e2) e3⟩, I.cell, I.free, I.freeC, I.pin, I.hok, hl.trans I.len⟩
theorem Inv.pins_of {pins' : List (Addr × Obj)} (I : Inv X pins σ H s) (h : ∀ p ∈ pins', s.heap.get? p.1 = some p.2 ∧ H p.1 = none ∧ p.1 ≠ X.env.locals ∧ p.1 ∉ X.fs ∧ ∀ v, p.2.data ≠ .cell v) : Inv X pins' σ H s :=
  ⟨I.ok, I.os, I.bare, I.base, I.loc, I.cell, I.free, I.freeC, fun p hp => (List.mem_append.mp hp).elim (fun z => I.pin p (List.mem_append_left _ z)) (h p), I.hok, I.len⟩
theorem nodup_ix {N : List Str} (hN : N.Nodup) {i j : Nat} {x : Str} (a : N[i]? = some x) (b : N[j]? = some x) : i = j := by
  obtain ⟨h1, e1⟩ := List.getElem?_eq_some_iff.mp a
  obtain ⟨h2, e2⟩ := List.getElem?_eq_some_iff.mp b
  exact (List.getElem_inj hN).mp (e1.trans e2.symm)
theorem store_ok2 {M : Model} {A : Around} {E : Value → Shared → Prop} {i : Nat} {x : Str} {v : V} {u : Value} {Q : Unit → Shared → Prop} (I : Inv X pins σ H s) (hN : X.N.Nodup) (hi : X.N[i]? = some x) (hx : Loc X.env.scope x) (r : RelV v u)
    (h : ∀ s', Inv X pins (σ.set i (some v)) H s' → (∃ a, Heap.SameBut a s.heap s'.heap ∧ (a = X.env.locals ∨ X.env.cells.lookup x = some a)) → Q () s') (hf : X.fn x = true ∨ X.env.scope.names.lookup x = some .local := by first | exact .inl rfl | exact .inr rfl | assumption) : wpAny M A (storeName X.env x u) Q E s := by
  obtain ⟨m, hn, hl⟩ := id I.loc
  have hcls : (X.env.scope.kind == .class || (X.env.scope.kind == .module && X.env.locals != X.env.globals)) = false := by rw [I.ok.kind]; rfl
  have hiσ : i < σ.length := by rw [I.len]; exact (List.getElem?_eq_some_iff.mp hi).1
  have cne := I.cne
  have tracked : ∀ {a : Addr} {h' : Heap}, (∃ o, s.heap.get? a = some o ∧ H a = none) → Heap.SameBut a s.heap h' → HOk X.prog X.w H h' := fun {a h'} ha hs b ob e => by
    obtain ⟨_, _, hfree⟩ := ha
    refine (I.hok b ob e).stay (fun c w' hc q => (hs.2 c ?_).trans q) (fun _ q => q) fun _ _ q => q
    rintro rfl
    rcases hc with rfl | hc
    · rw [hfree] at e; cases e
    · rw [hfree] at hc; cases hc
  rcases hx with hk | hk
  · refine wpAny_storeName_local hk hn (fun h' hn' hs => ?_) hcls
    obtain ⟨oL, _, _, hoL, _⟩ := id hn
    refine h _ ⟨I.ok, I.os, I.bare, ⟨fun b o e n hb hx => ?_, fun b o e n hb hx => ?_, I.base.free, fun b o e hx => ?_, I.base.tups, I.base.frzs, I.base.tbls⟩, ⟨_, hn', fun j y v' e1 e2 e3 => ?_⟩, fun y c e => ?_, I.free, I.freeC, fun p hp => ?_, tracked ⟨oL, hoL, I.free⟩ hs, by simpa using I.len⟩ ⟨_, hs, .inl rfl⟩
    · exact (hs.2 b (Nat.ne_of_lt (Nat.lt_of_lt_of_le (Heap.lt_size e) I.ok.above))).trans (I.base.keep b o e n hb hx)
    · obtain ⟨sl, e1⟩ := I.base.slot b o e n hb hx
      exact ⟨sl, (hs.2 b (Nat.ne_of_lt (Nat.lt_of_lt_of_le (Heap.lt_size e) I.ok.above))).trans e1⟩
    · obtain ⟨o', e1⟩ := I.base.there b o e hx
      exact ⟨o', (hs.2 b (Nat.ne_of_lt (Nat.lt_of_lt_of_le (Heap.lt_size e) I.ok.above))).trans e1⟩
    · by_cases hj : j = i
      · subst hj
        rw [hi] at e1; cases e1
        rw [List.getElem?_set_self hiσ] at e2
        cases e2
        exact ⟨u, r, .inl ⟨hk, by simp⟩⟩
      · rw [List.getElem?_set_ne (Ne.symm hj)] at e2
        obtain ⟨u', r', q⟩ := hl j y v' e1 e2 e3
        refine ⟨u', r', ?_⟩
        rcases q with ⟨k, e⟩ | ⟨k, c, e, z⟩
        · refine .inl ⟨k, ?_⟩
          have : y ≠ x := fun e => hj (nodup_ix hN e1 (e ▸ hi))
          simp [this, e]
        · exact .inr ⟨k, c, e, z.sameBut hs (cne y c e)⟩
    · obtain ⟨w', z⟩ := I.cell y c e
      exact ⟨w', z.sameBut hs (cne y c e)⟩
    · obtain ⟨e, n, ne, nf, d⟩ := I.pin p hp
      exact ⟨(hs.2 p.1 ne).trans e, n, ne, nf, d⟩
  · have hfn : X.fn x = true := by
      rcases hf with z | z
      · exact z
      · rw [z] at hk; cases hk
    obtain ⟨c, hc⟩ := I.ok.has x (.inl hk)
    obtain ⟨w', z⟩ := I.cell x c hc
    refine wpAny_storeName_cell I.ok.kind hk hc z (fun h' hc' hs => ?_)
    obtain ⟨oc, hoc, hocd⟩ := id z
    refine h { s with heap := h' } ⟨I.ok, I.os, I.bare, ⟨fun b o e n hb hx => ?_, fun b o e n hb hx => ?_, I.base.free, fun b o e hx => ?_, I.base.tups, I.base.frzs, I.base.tbls⟩, ⟨m, hn.sameBut hs (Ne.symm (cne x c hc)), fun j y v' e1 e2 e3 => ?_⟩, fun y c' e => ?_, I.free, I.freeC, fun p hp => ?_, tracked ⟨oc, hoc, I.freeC x c hc⟩ hs, by simpa using I.len⟩ ⟨c, hs, .inr hc⟩
    · exact (hs.2 b (Nat.ne_of_lt (Nat.lt_of_lt_of_le (Heap.lt_size e) (I.ok.cab x c hfn hc)))).trans (I.base.keep b o e n hb hx)
    · obtain ⟨sl, e1⟩ := I.base.slot b o e n hb hx
      exact ⟨sl, (hs.2 b (Nat.ne_of_lt (Nat.lt_of_lt_of_le (Heap.lt_size e) (I.ok.cab x c hfn hc)))).trans e1⟩
    · obtain ⟨o', e1⟩ := I.base.there b o e hx
      exact ⟨o', (hs.2 b (Nat.ne_of_lt (Nat.lt_of_lt_of_le (Heap.lt_size e) (I.ok.cab x c hfn hc)))).trans e1⟩
    · by_cases hj : j = i
      · subst hj
        rw [hi] at e1; cases e1
        rw [List.getElem?_set_self hiσ] at e2
        cases e2
        exact ⟨u, r, .inr ⟨.inl hk, c, hc, hc'⟩⟩
      · rw [List.getElem?_set_ne (Ne.symm hj)] at e2
        obtain ⟨u', r', q⟩ := hl j y v' e1 e2 e3
        refine ⟨u', r', ?_⟩
        rcases q with q | ⟨k, c', e, z'⟩
        · exact .inl q
        · refine .inr ⟨k, c', e, z'.sameBut hs ?_⟩
          rintro rfl
          exact hj (nodup_ix hN e1 (I.ok.inj _ _ _ e hc ▸ hi))
    · by_cases hcc : c' = c
      · subst hcc; exact ⟨_, hc'⟩
      · obtain ⟨w2, z2⟩ := I.cell y c' e
        exact ⟨w2, z2.sameBut hs hcc⟩
    · obtain ⟨e, n, ne, nf, d⟩ := I.pin p hp
      refine ⟨(hs.2 p.1 ?_).trans e, n, ne, nf, d⟩
      intro q
      rw [q, hoc] at e
      have q' : oc = p.2 := Option.some.inj e
      exact d w' (by rw [← q']; exact hocd)
theorem store_ok {M : Model} {A : Around} {E : Value → Shared → Prop} {i : Nat} {x : Str} {v : V} {u : Value} {Q : Unit → Shared → Prop} (I : Inv X pins σ H s) (hN : X.N.Nodup) (hi : X.N[i]? = some x) (hx : Loc X.env.scope x) (r : RelV v u)
    (h : ∀ s', Inv X pins (σ.set i (some v)) H s' → Q () s') (hf : X.fn x = true ∨ X.env.scope.names.lookup x = some .local := by first | exact .inl rfl | exact .inr rfl | assumption) : wpAny M A (storeName X.env x u) Q E s :=
  store_ok2 I hN hi hx r (fun s' I' _ => h s' I') hf
theorem Inv.call' {s' : Shared} {ch : List Addr} (I : Inv X pins σ H s) (ho : s'.os = s.os) (u : Un (frs X.stack) ch H H' s.heap s'.heap) (hok : HOk X.prog X.w H' s'.heap) (hg : AllBare s'.gens)
    (hch : ∀ b ∈ ch, (b ∈ X.ex ∨ X.s₀.heap.objs.size ≤ b) ∧ b ≠ X.env.locals ∧ (∀ x c, X.env.cells.lookup x = some c → c ≠ b) ∧ ∀ p ∈ X.pn ++ pins, p.1 ≠ b) : Inv X pins σ H' s' := by
  obtain ⟨h', g', d', t', o'⟩ := s'
  have e : o' = s.os := ho
  subst e
  exact I.call (g' := g') (t' := t') (d' := d') u hok hg hch
end
abbrev XK := Value → Option Addr → Hp → Prop
abbrev St := List (Option V)
abbrev VK := V → Hp → Prop
abbrev TE := St → Hp → VK → Prop
abbrev TT := St → Hp → (Bool → Hp → Prop) → Prop
abbrev TA := St → Hp → (List V → Hp → Prop) → Prop
structure Ends where
  nx : St → Hp → Prop
  rt : VK
  bk : St → Hp → Prop := fun _ _ => False
  ct : St → Hp → Prop := fun _ _ => False
abbrev TS := Ends → St → Hp → Prop
def EP (X : Cx) (pins : List (Addr × Obj)) (σ : St) (Q : VK) (u : Value) (s' : Shared) : Prop := ∃ v H', Inv X pins σ H' s' ∧ RelV v u ∧ Q v H'
def TP (X : Cx) (pins : List (Addr × Obj)) (σ : St) (Q : Bool → Hp → Prop) (b : Bool) (s' : Shared) : Prop := ∃ H', Inv X pins σ H' s' ∧ Q b H'
def AP (X : Cx) (pins : List (Addr × Obj)) (σ : St) (Q : List V → Hp → Prop) (us : List Value) (s' : Shared) : Prop := ∃ vs H', Inv X pins σ H' s' ∧ Vals vs us ∧ Q vs H'
def SP (X : Cx) (pins : List (Addr × Obj)) (D : Ends) (f : Flow) (s' : Shared) : Prop :=
  match f with
  | .next => ∃ σ' H', Inv X pins σ' H' s' ∧ D.nx σ' H'
  | .brk => ∃ σ' H', Inv X pins σ' H' s' ∧ D.bk σ' H'
  | .cont => ∃ σ' H', Inv X pins σ' H' s' ∧ D.ct σ' H'
  | .ret u => ∃ v σ' H', Inv X pins σ' H' s' ∧ RelV v u ∧ D.rt v H'
def PE (X : Cx) (e : Expr) (t : TE) : Prop :=
  ∀ (pins : List (Addr × Obj)) (s : Shared) (σ : St) (H : Hp) (Q : VK), Inv X pins σ H s → t σ H Q → wpAny (model X.prog X.w) X.A (eval e X.env) (EP X pins σ Q) X.xe s
def PT (X : Cx) (e : Expr) (t : TT) : Prop :=
  ∀ (pins : List (Addr × Obj)) (s : Shared) (σ : St) (H : Hp) (Q : Bool → Hp → Prop), Inv X pins σ H s → t σ H Q → wpAny (model X.prog X.w) X.A (isTrue e X.env (eval e X.env)) (TP X pins σ Q) X.xe s
def PW (X : Cx) (e : Expr) (t : TT) : Prop :=
  ∀ (whole : Sem Value) (pins : List (Addr × Obj)) (s : Shared) (σ : St) (H : Hp) (Q : Bool → Hp → Prop), Inv X pins σ H s → t σ H Q → wpAny (model X.prog X.w) X.A (isTrue e X.env whole) (TP X pins σ Q) X.xe s
theorem PW.pt {X : Cx} {e : Expr} {t : TT} (h : PW X e t) : PT X e t := h _
def PA (X : Cx) (es : List Expr) (t : TA) : Prop :=
  ∀ (pos : Pos) (pins : List (Addr × Obj)) (s : Shared) (σ : St) (H : Hp) (Q : List V → Hp → Prop), Inv X pins σ H s → t σ H Q → wpAny (model X.prog X.w) X.A (spliced (backTo pos (starEach es X.env))) (AP X pins σ Q) X.xe s
def PS (X : Cx) (st : Stmt) (t : TS) : Prop :=
  ∀ (pins : List (Addr × Obj)) (s : Shared) (σ : St) (H : Hp) (D : Ends), Inv X pins σ H s → t D σ H → wpAny (model X.prog X.w) X.A (exec st X.env) (SP X pins D) X.xe s
def PSs (X : Cx) (st : List Stmt) (t : TS) : Prop :=
  ∀ (pins : List (Addr × Obj)) (s : Shared) (σ : St) (H : Hp) (D : Ends), Inv X pins σ H s → t D σ H → wpAny (model X.prog X.w) X.A (execs st X.env) (SP X pins D) X.xe s
theorem thn {α : Type} {t : Sem α} {Q Q' : α → Shared → Prop} {M : Model} {A : Around} {E : Value → Shared → Prop} {s : Shared} (h : wpAny M A t Q E s) (hQ : ∀ a s, Q a s → Q' a s) : wpAny M A t Q' E s := wpAny_mono h hQ fun _ _ x => x
end L2
namespace L2
open PySem PySem.Spec PyProof.Rows
section
variable {X : Cx}
def tVar (i : Nat) : TE := fun σ H Q => ∃ v, σ[i]? = some (some v) ∧ Q v H
def tC (v : V) : TE := fun _ H Q => Q v H
theorem pe_var {i : Nat} {x : Str} {pos : Pos} (hN : X.N[i]? = some x) (hv : Vis X.env.scope x) (hd : (x == ("__debug__" : Str)) = false := by decide) (hcd : (x == ("__classdict__" : Str)) = false := by decide) : PE X (.Name x pos) (tVar i) := by
  intro pins s σ H Q I h
  obtain ⟨v, e, h⟩ := h
  obtain ⟨m, hn, hl⟩ := I.loc
  obtain ⟨u, r, l⟩ := hl i x v hN e hv
  have fin : EP X pins σ Q u s := ⟨v, H, I, r, h⟩
  rcases l with ⟨hk, hm⟩ | ⟨hk, c, hc, hcell⟩
  · exact wpAny_Name (wpAny_loadName_local I.ok.kind hk hn hm fin) hd
  · rcases hk with hk | hk
    · exact wpAny_Name (wpAny_loadName_cell I.ok.kind hk hc hcell fin) hd
    · exact wpAny_Name (wpAny_loadName_free I.ok.kind hk hc hcell fin hcd) hd
theorem pe_int {i j pos} : PE X (.Constant (.int i) j pos) (tC (.int i)) := fun _ _ _ H _ I h => wpAny_Constant_int ⟨.int i, H, I.tok _, ⟨_, rfl⟩, h⟩
theorem pe_non {j pos} : PE X (.Constant .none j pos) (tC .non) := fun _ _ _ H _ I h => Constant_none ⟨.non, H, I, rfl, h⟩
def Gl (X : Cx) (x : Str) : Prop := X.env.kindOf x = some .globalImplicit
theorem ld_glob {E : Value → Shared → Prop} {pins : List (Addr × Obj)} {s : Shared} {σ : St} {H : Hp} {x : Str} {u : Value} {pos : Pos} {Q : Value → Shared → Prop} (I : Inv X pins σ H s) (hg : Gl X x) (hm : X.mg x = some u) (h : Q u s)
    (hd : (x == ("__debug__" : Str)) = false := by decide) : wpAny (model X.prog X.w) X.A (eval (.Name x pos) X.env) Q E s :=
  Calls.Name_function_global I.ok.kind hg (Calls.loadGlobal_global (by rw [I.ok.glob]; exact I.mod.glob.keeps I.bk) hm h) hd
theorem ld_blt {E : Value → Shared → Prop} {pins : List (Addr × Obj)} {s : Shared} {σ : St} {H : Hp} {x : Str} {u : Value} {pos : Pos} {Q : Value → Shared → Prop} (I : Inv X pins σ H s) (hg : Gl X x) (hm : X.mg x = none) (hv : bootBuiltins x = some u) (h : Q u s)
    (hn : x ≠ "__name__" := by decide) (hd : (x == ("__debug__" : Str)) = false := by decide) : wpAny (model X.prog X.w) X.A (eval (.Name x pos) X.env) Q E s := by
  obtain ⟨mb, h1, h2⟩ := I.mod.blt
  exact Calls.Name_function_global I.ok.kind hg (Calls.loadGlobal_builtin (by rw [I.ok.glob]; exact I.mod.glob.keeps I.bk) hm (by rw [I.ok.blt]; exact h1.keeps I.bk) ((h2 x hn).trans hv) h) hd
theorem pe_glob {x : Str} {v : V} {u : Value} {pos : Pos} (hg : Gl X x) (hm : X.mg x = some u) (r : RelV v u) (hd : (x == ("__debug__" : Str)) = false := by decide) : PE X (.Name x pos) (tC v) :=
  fun _ _ _ H _ I h => ld_glob I hg hm ⟨v, H, I, r, h⟩ hd
variable {a b : Expr} {ta tb : TE} {pos : Pos}
def tB (t : TE) : TT := fun σ H Q => t σ H fun x H1 => ∃ c, x = .bl c ∧ Q c H1
theorem pt_val {e : Expr} {t : TE} (h : PE X e t) (he : ∀ whole, isTrue e X.env whole = (do let v ← whole; standAt e.pos; holding [v] (truthy v)) := by intro _; rfl) : PT X e (tB t) := by
  intro pins s σ H Q I hw
  refine isTrue_plain (thn (h pins s σ H _ I hw) fun v s1 hqq => ?_) (he _)
  obtain ⟨x, H1, I1, r1, q1⟩ := hqq
  obtain ⟨d, rfl, q⟩ := q1
  cases r1
  exact wpAny_truthy_bool ⟨H1, I1, q⟩
variable {tA tB' : TT} {rest : List Expr}
def tAnd (t u : TT) : TT := fun σ H Q => t σ H fun c H1 => if c = true then u σ H1 Q else Q false H1
def tNot (t : TT) : TT := fun σ H Q => t σ H fun c H1 => Q (!c) H1
theorem pw_and1 (ha : PT X a tA) : PW X (.BoolOp .And [a] pos) tA := by
  intro wh pins s σ H Q I h
  refine isTrue_and (thn (ha pins s σ H Q I h) fun c s1 e => ?_)
  cases c with
  | true => exact isTrue_and_nil e
  | false => exact e
theorem pw_and (ha : PT X a tA) (hb : PW X (.BoolOp .And (b :: rest) pos) tB') : PW X (.BoolOp .And (a :: b :: rest) pos) (tAnd tA tB') := by
  intro wh pins s σ H Q I h
  refine isTrue_and (thn (ha pins s σ H _ I h) fun c s1 ⟨H1, I1, q1⟩ => ?_)
  cases c with
  | true => exact hb wh pins s1 σ H1 Q I1 q1
  | false => exact ⟨H1, I1, q1⟩
theorem pt_not (ha : PT X a tA) : PT X (.UnaryOp .Not a pos) (tNot tA) := by
  intro pins s σ H Q I h
  exact isTrue_not (ha pins s σ H (fun c H1 => Q (!c) H1) I h)
def tAndV (ta tb : TE) : TE := fun σ H Q => ta σ H fun x H1 => ∃ c, x = .bl c ∧ if c = true then tb σ H1 Q else Q (.bl false) H1
def tOrV (ta tb : TE) : TE := fun σ H Q => ta σ H fun x H1 => ∃ c, x = .bl c ∧ if c = true then Q (.bl true) H1 else tb σ H1 Q
theorem pe_one {op} {t : TE} (h : PE X a t) : PE X (.BoolOp op [a] pos) t := fun pins s σ H Q I hw => BoolOp_one (h pins s σ H Q I hw)
theorem pe_and (ha : PE X a ta) (hb : PE X (.BoolOp .And (b :: rest) pos) tb) : PE X (.BoolOp .And (a :: b :: rest) pos) (tAndV ta tb) := by
  intro pins s σ H Q I h
  refine BoolOp_and (thn (ha pins s σ H _ I h) fun v s1 hqq => ?_)
  obtain ⟨x, H1, I1, r1, q1⟩ := hqq
  obtain ⟨c, rfl, q1⟩ := q1
  cases r1
  refine wpAny_truthy_bool ?_
  cases c with
  | true => exact hb pins s1 σ H1 Q I1 q1
  | false => exact ⟨.bl false, H1, I1, rfl, q1⟩
theorem pe_or (ha : PE X a ta) (hb : PE X (.BoolOp .Or (b :: rest) pos) tb) : PE X (.BoolOp .Or (a :: b :: rest) pos) (tOrV ta tb) := by
  intro pins s σ H Q I h
  refine BoolOp_or (thn (ha pins s σ H _ I h) fun v s1 hqq => ?_)
  obtain ⟨x, H1, I1, r1, q1⟩ := hqq
  obtain ⟨c, rfl, q1⟩ := q1
  cases r1
  refine wpAny_truthy_bool ?_
  cases c with
  | false => exact hb pins s1 σ H1 Q I1 q1
  | true => exact ⟨.bl true, H1, I1, rfl, q1⟩
def tIf (t : TT) (ta tb : TE) : TE := fun σ H Q => t σ H fun c H1 => if c = true then ta σ H1 Q else tb σ H1 Q
theorem pe_ifExp {c : Expr} (hc : PT X c tA) (ha : PE X a ta) (hb : PE X b tb) : PE X (.IfExp c a b pos) (tIf tA ta tb) := by
  intro pins s σ H Q I h
  refine wpAny_IfExp (thn (hc pins s σ H _ I h) fun d s1 ⟨H1, I1, q1⟩ => ?_)
  cases d with
  | true => exact ha pins s1 σ H1 Q I1 q1
  | false => exact hb pins s1 σ H1 Q I1 q1
end
end L2
namespace L2
open PySem PySem.Spec PyProof.Rows
def SqL (K : PySem.W.Frag) (H : Hp) (a : Addr) (xs : List V) : Prop :=
  Rd H a (.lst xs) ∨
    ∃ (o : Obj) (its : Array Value) (n : Nat), K.lookup a = some o ∧ o.cls = .type "list" ∧ o.dict = none ∧ o.data = .seq its n ∧ its.size ≤ sizeLine ∧ Vals xs its.toList
def SqT (K : PySem.W.Frag) (H : Hp) (a : Addr) (xs : List V) : Prop :=
  Rd H a (.tup xs) ∨
    ∃ (o : Obj) (its : Array Value) (n : Nat), K.lookup a = some o ∧ o.cls = .type "tuple" ∧ o.data = .seq its n ∧ its.size ≤ sizeLine ∧ Vals xs its.toList
def absV : Value → Option V
  | .none => some .non
  | .bool b => some (.bl b)
  | .int i _ => some (.int i)
  | .str x _ => some (.str x)
  | .bytes b _ => some (.byt b)
  | .float b _ => some (.flt b)
  | .ref a => some (.ref a)
  | .type n => some (.ty n)
  | _ => none
theorem RelV.abs {x : V} {u : Value} (r : RelV x u) : absV u = some x := by
  cases x with
  | non => cases r; rfl
  | bl _ => cases r; rfl
  | int _ => obtain ⟨t, rfl⟩ := r; rfl
  | str _ => obtain ⟨t, rfl⟩ := r; rfl
  | byt _ => obtain ⟨t, rfl⟩ := r; rfl
  | flt _ => obtain ⟨t, rfl⟩ := r; rfl
  | ref _ => cases r; rfl
  | ty _ => cases r; rfl
theorem RelV.inj {x y : V} {u : Value} (r : RelV x u) (q : RelV y u) : x = y := Option.some.inj (r.abs.symm.trans q.abs)
theorem Vals.inj : ∀ {xs ys : List V} {us : List Value}, Vals xs us → Vals ys us → xs = ys
  | _, _, _, .nil, .nil => rfl
  | _, _, _, .cons r t, .cons r' t' => by rw [r.inj r', Vals.inj t t']
section
variable {X : Cx} {pins : List (Addr × Obj)} {σ : St} {H : Hp} {s : Shared} {a : Addr} {xs ys : List V}
theorem SqL.of {K : PySem.W.Frag} (h : H a = some (.lst xs)) : SqL K H a xs := .inl (.inl h)
theorem SqT.of {K : PySem.W.Frag} (h : H a = some (.tup xs)) : SqT K H a xs := .inl (.inl h)
theorem Inv.list (I : Inv X pins σ H s) (h : SqL X.K H a xs) : ∃ its : List Value, Vals xs its ∧ PlainL s.heap a its.toArray ∧ xs.length ≤ sizeLine := by
  rcases h with h | ⟨o, its, n, hk, hc, hd, hs, hz, r⟩
  · obtain ⟨z, its, n, r, e⟩ := h.ok I.hok
    exact ⟨its, r, ⟨_, n, e, rfl, rfl, rfl⟩, z⟩
  · refine ⟨its.toList, r, ⟨o, n, I.kIn a o hk, hc, hd, by simpa using hs⟩, ?_⟩
    have e := r.length
    simp only [Array.length_toList] at e
    omega
theorem Inv.tuple (I : Inv X pins σ H s) (h : SqT X.K H a xs) : ∃ its : List Value, Vals xs its ∧ IsTup s.heap a its.toArray ∧ xs.length ≤ sizeLine := by
  rcases h with h | ⟨o, its, n, hk, hc, hs, hz, r⟩
  · obtain ⟨z, its, r, p⟩ := h.ok I.hok
    exact ⟨its, r, p, z⟩
  · refine ⟨its.toList, r, ⟨o, I.kIn a o hk, hc, n, by simpa using hs⟩, ?_⟩
    have e := r.length
    simp only [Array.length_toList] at e
    omega
theorem Inv.list_inj (I : Inv X pins σ H s) (h : SqL X.K H a xs) (h' : SqL X.K H a ys) : xs = ys := by
  obtain ⟨its, r, ⟨o, n, e, _, _, d⟩, _⟩ := I.list h
  obtain ⟨its', r', ⟨o', n', e', _, _, d'⟩, _⟩ := I.list h'
  rw [e] at e'; cases e'
  rw [d] at d'
  injection d' with d1 _
  have : its = its' := by simpa using congrArg Array.toList d1
  subst this
  exact r.inj r'
end
abbrev Cx.wish (X : Cx) (E : Value → Shared → Prop) : Cx := { X with xe := E }
abbrev Cx.nox (X : Cx) : Cx := X.wish fun _ _ => False
theorem Cx.Ok.wish {X : Cx} (ok : X.Ok) (E : Value → Shared → Prop) : (X.wish E).Ok :=
  ⟨ok.mod, ok.kind, ok.glob, ok.blt, ok.above, ok.inj, ok.has, ok.cab, ok.hd, ok.frames, ok.stk, ok.exf, ok.bs, ok.bsz, ok.noex, ok.exfs, ok.funs, ok.frf⟩
theorem Cx.Ok.unwish {X : Cx} {E : Value → Shared → Prop} (ok : (X.wish E).Ok) : X.Ok :=
  ⟨ok.mod, ok.kind, ok.glob, ok.blt, ok.above, ok.inj, ok.has, ok.cab, ok.hd, ok.frames, ok.stk, ok.exf, ok.bs, ok.bsz, ok.noex, ok.exfs, ok.funs, ok.frf⟩
section
variable {X : Cx} {pins : List (Addr × Obj)} {σ : St} {H : Hp} {s : Shared} {E : Value → Shared → Prop}
theorem Inv.wish (I : Inv X pins σ H s) (E : Value → Shared → Prop) : Inv (X.wish E) pins σ H s := ⟨I.ok.wish E, I.os, I.bare, I.base, I.loc, I.cell, I.free, I.freeC, I.pin, I.hok, I.len⟩
theorem Inv.unwish (I : Inv (X.wish E) pins σ H s) : Inv X pins σ H s := ⟨I.ok.unwish, I.os, I.bare, I.base, I.loc, I.cell, I.free, I.freeC, I.pin, I.hok, I.len⟩
theorem SP.unwish {D : Ends} {f : Flow} {s' : Shared} (h : SP (X.wish E) pins D f s') : SP X pins D f s' := by
  cases f with
  | next => obtain ⟨σ', H', I, q⟩ := h; exact ⟨σ', H', I.unwish, q⟩
  | brk => obtain ⟨σ', H', I, q⟩ := h; exact ⟨σ', H', I.unwish, q⟩
  | cont => obtain ⟨σ', H', I, q⟩ := h; exact ⟨σ', H', I.unwish, q⟩
  | ret u => obtain ⟨v, σ', H', I, r, q⟩ := h; exact ⟨v, σ', H', I.unwish, r, q⟩
theorem PSs.nox {st : List Stmt} {t : TS} (h : PSs X.nox st t) : PSs X st t := fun pins s σ H D I hw =>
  wpAny_mono (h pins s σ H D (I.wish _) hw) (fun _ _ q => q.unwish) fun _ _ z => False.elim z
end
section
variable {X : Cx} {st : Stmt} {rest : List Stmt} {t u : TS} {e : Expr} {te : TE} {pos : Pos}
def tNext : TS := fun D σ H => D.nx σ H
def tSeq (t u : TS) : TS := fun D σ H => t { D with nx := u D } σ H
theorem pss_nil : PSs X [] tNext := fun _ _ σ H _ I h => wpAny_execs_nil ⟨σ, H, I, h⟩
theorem pss_cons (h1 : PS X st t) (h2 : PSs X rest u) : PSs X (st :: rest) (tSeq t u) := by
  intro pins s σ H D I h
  refine wpAny_execs_cons (thn (h1 pins s σ H { D with nx := u D } I h) fun f s1 q => ?_)
  cases f with
  | next =>
    obtain ⟨σ', H', I', q⟩ := q
    exact h2 pins s1 σ' H' D I' q
  | ret v => exact q
  | brk => exact q
  | cont => exact q
theorem pss_one (h1 : PS X st t) : PSs X [st] t := by
  intro pins s σ H D I h
  refine wpAny_execs_cons (thn (h1 pins s σ H D I h) fun f s1 q => ?_)
  cases f with
  | next => exact wpAny_execs_nil q
  | ret v => exact q
  | brk => exact q
  | cont => exact q
def tBreak : TS := fun D σ H => D.bk σ H
theorem ps_break : PS X (.Break pos) tBreak := fun _ _ σ H _ I h => wpAny_Break ⟨σ, H, I, h⟩
theorem Inv.quiet {pins : List (Addr × Obj)} {σ : St} {H : Hp} {s : Shared} (I : Inv X pins σ H s) : interactive X.env = false := by simp [interactive, I.ok.kind]
def tDrop (te : TE) : TS := fun D σ H => te σ H fun _ H1 => D.nx σ H1
theorem ps_expr (he : PE X e te) (hs : swapsWith e none pos.line X.env = pure false := by rfl) : PS X (.Expr e pos) (tDrop te) := by
  intro pins s σ H D I h
  exact wpAny_Expr_any (thn (he pins s σ H _ I h) fun v s1 ⟨x, H1, I1, r1, q1⟩ => ⟨σ, H1, I1, q1⟩) I.quiet hs
def tRet (te : TE) : TS := fun D σ H => te σ H D.rt
theorem ps_ret (he : PE X e te) : PS X (.Return (some e) pos) (tRet te) := by
  intro pins s σ H D I h
  exact wpAny_Return_some (thn (he pins s σ H _ I h) fun v s1 ⟨x, H1, I1, r1, q1⟩ => ⟨x, σ, H1, I1, r1, q1⟩)
def tIfS (c : TT) (t u : TS) : TS := fun D σ H => c σ H fun b H1 => if b = true then t D σ H1 else u D σ H1
theorem ps_if {c : Expr} {a b : List Stmt} {tc : TT} (hc : PT X c tc) (ha : PSs X a t) (hb : PSs X b u) : PS X (.If c a b pos) (tIfS tc t u) := by
  intro pins s σ H D I h
  refine wpAny_If (thn (hc pins s σ H _ I h) fun d s1 ⟨H1, I1, q1⟩ => ?_)
  cases d with
  | true => exact ha pins s1 σ H1 D I1 q1
  | false => exact hb pins s1 σ H1 D I1 q1
end
abbrev TG := V → St → Hp → (St → Hp → Prop) → Prop
abbrev TGs := List V → St → Hp → (St → Hp → Prop) → Prop
def PG (X : Cx) (target : Expr) (t : TG) : Prop :=
  ∀ (pins : List (Addr × Obj)) (s : Shared) (σ : St) (H : Hp) (v : V) (u : Value) (Q : St → Hp → Prop), Inv X pins σ H s → RelV v u → t v σ H Q →
    wpAny (model X.prog X.w) X.A (assign target X.env u) (fun _ s' => ∃ σ' H', Inv X pins σ' H' s' ∧ Q σ' H') X.xe s
def PGs (X : Cx) (ts : List Expr) (t : TGs) : Prop :=
  ∀ (pins : List (Addr × Obj)) (s : Shared) (σ : St) (H : Hp) (vs : List V) (us : List Value) (Q : St → Hp → Prop), Inv X pins σ H s → Vals vs us → t vs σ H Q →
    wpAny (model X.prog X.w) X.A (assignInOrder ((assignEach ts X.env).map (·.2)) us) (fun _ s' => ∃ σ' H', Inv X pins σ' H' s' ∧ Q σ' H') X.xe s
abbrev TSet := V → V → V → Hp → (Hp → Prop) → Prop
def PSet (X : Cx) (t : TSet) : Prop :=
  ∀ (pins : List (Addr × Obj)) (s : Shared) (σ : St) (H : Hp) (o i v : V) (ov iv u : Value) (Q : Hp → Prop), Inv X pins σ H s → RelV o ov → RelV i iv → RelV v u → t o i v H Q →
    wpAny (model X.prog X.w) X.A (setItem ov iv u) (fun _ s' => ∃ H', Inv X pins σ H' s' ∧ Q H') X.xe s
abbrev TIp := V → V → Hp → VK → Prop
def PIp (X : Cx) (op : Operator) (t : TIp) : Prop :=
  ∀ (pins : List (Addr × Obj)) (s : Shared) (σ : St) (H : Hp) (x y : V) (v u : Value) (Q : VK), Inv X pins σ H s → RelV x v → RelV y u → t x y H Q →
    wpAny (model X.prog X.w) X.A (inplaceOp op v u) (EP X pins σ Q) X.xe s
section
variable {X : Cx} {pos : Pos}
def gName (i : Nat) : TG := fun v σ H Q => Q (σ.set i (some v)) H
theorem pg_name {i : Nat} {x : Str} (hN : X.N.Nodup) (hi : X.N[i]? = some x) (hx : Loc X.env.scope x) (hf : X.fn x = true ∨ X.env.scope.names.lookup x = some .local := by first | exact .inl rfl | exact .inr rfl | assumption) : PG X (.Name x pos) (gName i) := by
  intro pins s σ H v u Q I r h
  exact wpAny_assign_Name (store_ok I hN hi hx r (fun s' I' => ⟨_, H, I', h⟩) hf)
def gNil : TGs := fun vs σ H Q => vs = [] ∧ Q σ H
def gCons (t : TG) (u : TGs) : TGs := fun vs σ H Q => ∃ v r, vs = v :: r ∧ t v σ H fun σ' H' => u r σ' H' Q
theorem pgs_nil : PGs X [] gNil := by
  intro pins s σ H vs us Q I r h
  obtain ⟨e, h⟩ := h
  subst e
  cases r
  exact assignInOrder_nil ⟨σ, H, I, h⟩
theorem pgs_cons {e : Expr} {es : List Expr} {t : TG} {u : TGs} (h1 : PG X e t) (h2 : PGs X es u)
    (hs : (assignEach (e :: es) X.env).map (·.2) = assign e X.env :: (assignEach es X.env).map (·.2) := by rfl) : PGs X (e :: es) (gCons t u) := by
  intro pins s σ H vs us Q I r h
  obtain ⟨v, vr, e1, h⟩ := h
  subst e1
  cases r with
  | cons r rr =>
    rw [hs]
    refine assignInOrder_cons (thn (h1 pins s σ H _ _ _ I r h) fun _ s1 hqq => ?_)
    obtain ⟨σ1, H1, I1, q1⟩ := hqq
    exact h2 pins s1 σ1 H1 _ _ Q I1 rr q1
def gTup (K : PySem.W.Frag) (n : Nat) (t : TGs) : TG := fun v σ H Q => ∃ a xs, v = .ref a ∧ SqT K H a xs ∧ xs.length = n ∧ t xs σ H Q
theorem pg_tup {es : List Expr} {k : Nat} {t : TGs} {n : Nat} (hc : X.calm = true) (h : PGs X es t)
    (hn : (assignEach es X.env).length = n := by rfl) (hst : (assignEach es X.env).findIdx? (·.1) = none := by rfl) : PG X (.Tuple es k pos) (gTup X.K n t) := by
  intro pins s σ H v u Q I r hw
  obtain ⟨a, xs, e1, hq, hl, hw⟩ := hw
  subst e1
  cases r
  obtain ⟨its, rv, ht, hz⟩ := I.tuple hq
  refine assign_Tuple_tuple (I.ok.hd hc) ht (by simp [hn, ← hl, rv.length]) hst fun h' hx => ?_
  have I1 : Inv X pins σ H { s with heap := h' } := I.kept (t' := s.toks) fun b o e => hx b o (Nat.ne_of_lt (Heap.lt_size e)) e
  exact h pins _ σ H xs _ Q I1 (by simpa using rv) hw
def gSub (to ti : TE) (t : TSet) : TG := fun v σ H Q => to σ H fun o H1 => ti σ H1 fun i H2 => t o i v H2 fun H3 => Q σ H3
theorem pg_sub {o i : Expr} {to ti : TE} {t : TSet} (ho : PE X o to) (hi : PE X i ti) (hs : PSet X t)
    (ha : ∀ v, assign (.Subscript o i pos) X.env v = (do
      let ov ← holding [v] (eval o X.env)
      let iv ← holding [v, ov] (eval i X.env)
      standAt pos
      holding [v, ov, iv] (setItem ov iv v)
      release [v, ov, iv] []) := by intro _; rfl) : PG X (.Subscript o i pos) (gSub to ti t) := by
  intro pins s σ H v u Q I r h
  rw [ha]
  refine wpAny_bind (wpAny_holding (thn (ho pins s σ H _ I h) fun ov s1 hqq => ?_))
  obtain ⟨x, H1, I1, r1, q1⟩ := hqq
  refine wpAny_bind (wpAny_holding (thn (hi pins s1 σ H1 _ I1 q1) fun iv s2 hqq => ?_))
  obtain ⟨y, H2, I2, r2, q2⟩ := hqq
  refine wpAny_bind (wpAny_standAt (wpAny_bind (wpAny_holding (thn (hs pins s2 σ H2 x y v ov iv u _ I2 r1 r2 r q2) fun _ s3 ⟨H3, I3, q3⟩ => ?_))))
  exact wpAny_release ⟨σ, H3, I3, q3⟩
def tAsg (te : TE) (g : TG) : TS := fun D σ H => te σ H fun x H1 => g x σ H1 D.nx
theorem ps_asg {tg e : Expr} {te : TE} {g : TG} (he : PE X e te) (hg : PG X tg g) (hs : swapsWithSole [tg] e pos.line X.env = pure false := by rfl) (hw : swappedStores [tg] e X.env = pure none := by rfl)
    (h1 : (assignEach [tg] X.env).map (·.2) = [assign tg X.env] := by rfl) : PS X (.Assign [tg] e pos) (tAsg te g) := by
  intro pins s σ H D I h
  refine wpAny_Assign_stores (thn (he pins s σ H _ I h) fun v s1 hqq => ?_) hs hw
  obtain ⟨x, H1, I1, r1, q1⟩ := hqq
  rw [h1]
  exact thn (hg pins s1 σ H1 x v _ I1 r1 q1) fun _ s2 q => q
theorem ps_set {i : Nat} {x : Str} {e : Expr} {te : TE} {pos' : Pos} (hN : X.N.Nodup) (hi : X.N[i]? = some x) (hx : Loc X.env.scope x) (he : PE X e te) (hs : swapsWith e (some (.Name x pos')) pos.line X.env = pure false := by rfl) (hf : X.fn x = true ∨ X.env.scope.names.lookup x = some .local := by first | exact .inl rfl | exact .inr rfl | assumption) :
    PS X (.Assign [.Name x pos'] e pos) (tAsg te (gName i)) := by
  intro pins s σ H D I h
  refine wpAny_Assign_Name (thn (he pins s σ H _ I h) fun v s1 hqq => ?_) hs
  obtain ⟨y, H1, I1, r1, q1⟩ := hqq
  exact store_ok I1 hN hi hx r1 (fun s2 I2 => ⟨_, H1, I2, q1⟩) hf
def tAug (i : Nat) (te : TE) (ti : TIp) : TS := fun D σ H => ∃ x, σ[i]? = some (some x) ∧ te σ H fun y H1 => ti x y H1 fun z H2 => D.nx (σ.set i (some z)) H2
theorem ps_aug {i : Nat} {x : Str} {e : Expr} {te : TE} {op : Operator} {ti : TIp} {pos' : Pos} (hN : X.N.Nodup) (hi : X.N[i]? = some x) (hx : Loc X.env.scope x) (he : PE X e te) (ho : PIp X op ti) (hf : X.fn x = true ∨ X.env.scope.names.lookup x = some .local := by first | exact .inl rfl | exact .inr rfl | assumption) :
    PS X (.AugAssign (.Name x pos') op e pos) (tAug i te ti) := by
  intro pins s σ H D I h
  obtain ⟨v, e1, h⟩ := h
  obtain ⟨m, hn, hl⟩ := I.loc
  have vis : Vis X.env.scope x := by rcases hx with k | k; exact .inl k; exact .inr (.inl k)
  obtain ⟨u, r, l⟩ := hl i x v hi e1 vis
  refine wpAny_AugAssign_Name ?_
  have go : wpAny (model X.prog X.w) X.A (eval e X.env) (fun w s₂ => wpAny (model X.prog X.w) X.A (inplaceOp op u w) (fun r s₃ => wpAny (model X.prog X.w) X.A (storeName X.env x r) (fun _ => SP X pins D .next) X.xe s₃) X.xe s₂) X.xe s := by
    refine thn (he pins s σ H _ I h) fun w s1 hqq => ?_
    obtain ⟨y, H1, I1, r1, q1⟩ := hqq
    refine thn (ho pins s1 σ H1 v y u w _ I1 r r1 q1) fun z s2 hqq => ?_
    obtain ⟨zv, H2, I2, r2, q2⟩ := hqq
    exact store_ok I2 hN hi hx r2 (fun s3 I3 => ⟨_, H2, I3, q2⟩) hf
  rcases l with ⟨hk, hm⟩ | ⟨hk, c, hc, hcell⟩
  · exact wpAny_loadName_local I.ok.kind hk hn hm go
  · rcases hk with hk | hk
    · exact wpAny_loadName_cell I.ok.kind hk hc hcell go
    · rcases hx with k | k
      · have : X.env.scope.names.lookup x = some .free := hk
        rw [k] at this; cases this
      · have : X.env.scope.names.lookup x = some .free := hk
        rw [k] at this; cases this
def ipI (f : Int → Int → Int) : TIp := fun x y H Q => ∃ i j, x = .int i ∧ y = .int j ∧ Q (.int (f i j)) H
theorem ip_add : PIp X .Add (ipI fun i j => i + j) := by
  intro pins s σ H x y v u Q I r1 r2 h
  obtain ⟨i, j, e1, e2, q⟩ := h
  subst e1; subst e2
  obtain ⟨t, rfl⟩ := r1
  obtain ⟨t', rfl⟩ := r2
  exact iadd_int ⟨.int _, H, I.tok _, ⟨_, rfl⟩, q⟩
end
section
variable {X : Cx} {pos : Pos}
def tWhile (c : TT) (tb : TS) : TS := fun D σ H => ∃ W : Nat → St → Hp → Prop, (∃ m, W m σ H) ∧ ∀ m σ H, W m σ H →
  c σ H fun b H1 => if b = true then ∃ N : St → Hp → Prop, (∀ σ' H', N σ' H' → ∃ m', m' < m ∧ W m' σ' H') ∧ tb { D with nx := N, ct := N, bk := D.nx } σ H1 else D.nx σ H1
theorem ps_while {c : Expr} {body : List Stmt} {tc : TT} {tb : TS} (hp : PassesOwn (model X.prog X.w) X.A X.env X.xe) (hc : PT X c tc) (hb : PSs X body tb) : PS X (.While c body [] pos) (tWhile tc tb) := by
  intro pins s σ H D I h
  obtain ⟨W, ⟨m0, w0⟩, turn⟩ := h
  refine wpAny_While (codeAny_whileLoop (fun n s' => ∃ σ' H', Inv X pins σ' H' s' ∧ W n σ' H') ?_ m0 ⟨σ, H, I, w0⟩)
  rintro n s1 ⟨σ1, H1, I1, w1⟩
  refine wpAny_passesOwn hp (thn (hc pins s1 σ1 H1 _ I1 (turn n σ1 H1 w1)) fun b s2 ⟨H2, I2, q2⟩ => ?_)
  cases b with
  | true =>
    obtain ⟨N, hN, q2⟩ := q2
    rw [if_pos rfl]
    refine wpAny_passesOwn hp (thn (hb pins s2 σ1 H2 _ I2 q2) fun f s3 q3 => ?_)
    cases f with
    | next =>
      obtain ⟨σ3, H3, I3, n3⟩ := q3
      obtain ⟨m', hm, w3⟩ := hN σ3 H3 n3
      exact ⟨m', hm, σ3, H3, I3, w3⟩
    | cont =>
      obtain ⟨σ3, H3, I3, n3⟩ := q3
      obtain ⟨m', hm, w3⟩ := hN σ3 H3 n3
      exact ⟨m', hm, σ3, H3, I3, w3⟩
    | brk => exact q3
    | ret v => exact q3
  | false =>
    rw [if_neg Bool.false_ne_true]
    exact wpAny_execs_nil ⟨σ1, H2, I2, q2⟩
end
structure It where
  go : Nat → Hp → Prop
  yld : Nat → Hp → V → Hp → Prop
  stop : Nat → Hp → Prop
def FpOk (X : Cx) (pins : List (Addr × Obj)) (H : Hp) (b : Addr) : Prop :=
  H b = none ∧ b ≠ X.env.locals ∧ b ∉ X.fs ∧ (b ∈ X.ex ∨ X.s₀.heap.objs.size ≤ b) ∧ (∀ x c, X.env.cells.lookup x = some c → c ≠ b) ∧ ∀ p ∈ X.pn ++ pins, p.1 ≠ b
theorem Inv.fpOk {X : Cx} {pins : List (Addr × Obj)} {σ : St} {H H' : Hp} {s : Shared} {b : Addr} (I : Inv X pins σ H s) (hb : s.heap.objs.size ≤ b) (hn : H' b = none) : FpOk X pins H' b := by
  refine ⟨hn, Nat.ne_of_gt (Nat.lt_of_lt_of_le I.lt hb), I.nofs hb, .inr (Nat.le_trans I.sz hb), fun x c e z => ?_, fun p hp z => ?_⟩
  · obtain ⟨v, q⟩ := I.cell x c e
    exact absurd (Nat.lt_of_lt_of_le q.lt (by rw [z]; exact hb)) (Nat.lt_irrefl _)
  · exact absurd (Nat.lt_of_lt_of_le (Heap.lt_size (I.pin p hp).1) (by rw [z]; exact hb)) (Nat.lt_irrefl _)
structure Turn (P : Program) (w : World) (K : PySem.W.Frag) (tg : Expr) (J : It) (fp : List Addr) (it : Addr) (tn : Nat → Heap → Prop) : Prop where
  mem : it ∈ fp
  obj : ∀ i h, tn i h → ∀ b ∈ fp, ∃ o, h.get? b = some o ∧ ∀ v, o.data ≠ .cell v
  keep : ∀ i h h', tn i h → (∀ b ∈ fp, ∀ o, h.get? b = some o → h'.get? b = some o) → tn i h'
  item : ∀ (X : Cx), X.prog = P → X.w = w → X.K = K → X.calm = true → ∀ (i : Nat) (pins : List (Addr × Obj)) (s : Shared) (σ : St) (H : Hp) (E : Value → Shared → Prop), Inv X pins σ H s → (∀ b ∈ fp, FpOk X pins H b) → tn i s.heap → J.go i H →
    wpAny (model P w) X.A (pyNext (.ref it)) (fun r s1 => ∃ u, r = some u ∧
      wpAny (model P w) X.A (letOwnedTupleGo tg (.ref it) u) (fun _ s2 => ∃ x H', Inv X pins σ H' s2 ∧ RelV x u ∧ J.yld i H x H' ∧ tn (i + 1) s2.heap ∧ ∀ b ∈ fp, H' b = none) E s1) E s
  done : ∀ (X : Cx), X.prog = P → X.w = w → X.K = K → X.calm = true → ∀ (i : Nat) (pins : List (Addr × Obj)) (s : Shared) (σ : St) (H : Hp) (E : Value → Shared → Prop), Inv X pins σ H s → (∀ b ∈ fp, FpOk X pins H b) → tn i s.heap → J.stop i H →
    wpAny (model P w) X.A (pyNext (.ref it)) (fun r s1 => r = none ∧ Inv X pins σ H s1) E s
  self : ∀ (A : Around) (i : Nat) (s : Shared) (Q : Value → Shared → Prop) (E : Value → Shared → Prop), tn i s.heap → Q (.ref it) s → wpAny (model P w) A (pyIter (.ref it)) Q E s
abbrev TI := St → Hp → (It → Hp → Prop) → Prop
def PIE (X : Cx) (pins : List (Addr × Obj)) (σ : St) (tg : Expr) (R : It → Hp → Prop) (itv : Value) (s2 : Shared) : Prop :=
  ∃ (it : Addr) (fp : List Addr) (tn : Nat → Heap → Prop) (J : It) (H' : Hp), itv = .ref it ∧ Inv X pins σ H' s2 ∧ Turn X.prog X.w X.K tg J fp it tn ∧ tn 0 s2.heap ∧ (∀ b ∈ fp, FpOk X pins H' b) ∧ R J H'
def PI (X : Cx) (tg iter : Expr) (wi : TI) : Prop :=
  ∀ (pins : List (Addr × Obj)) (s : Shared) (σ : St) (H : Hp) (R : It → Hp → Prop), Inv X pins σ H s → wi σ H R →
    wpAny (model X.prog X.w) X.A (eval iter X.env) (fun v s1 => wpAny (model X.prog X.w) X.A (pyIter v) (PIE X pins σ tg R) X.xe s1) X.xe s
theorem go_of {M : Model} {A : Around} {E : Value → Shared → Prop} {s : Shared} {tg : Expr} {it : Addr} {u : Value} {o : Obj} {n : String} {vs : Array Value} {Q : Unit → Shared → Prop} (ho : s.heap.get? it = some o) (hc : o.cls = .type n) (hd : o.data = .fields vs)
    (hn : ["enumerate", "zip", "dict_itemiterator", "dict_reverseitemiterator", "odict_iterator", "itertools.zip_longest", "itertools.pairwise"].contains n = false) (hQ : Q () s) : wpAny M A (letOwnedTupleGo tg (.ref it) u) Q E s := by
  unfold letOwnedTupleGo
  cases tg <;> first
    | exact wpAny_pure hQ
    | (cases u <;> first
        | exact wpAny_pure hQ
        | (refine wpAny_bind (wpAny_load ho ?_)
           rw [hc, hd]
           show wpAny M A (if (["enumerate", "zip", "dict_itemiterator", "dict_reverseitemiterator", "odict_iterator", "itertools.zip_longest", "itertools.pairwise"].contains n && vs[0]? == some (rawInt _)) = true then _ else _) Q E s
           rw [if_neg (by intro h; rw [hn, Bool.false_and] at h; cases h)]
           exact wpAny_pure hQ))
def Itl (K : PySem.W.Frag) (a : Addr) : It :=
  ⟨fun i H => ∃ xs x, SqL K H a xs ∧ xs[i]? = some x, fun i H x H' => H' = H ∧ ∀ xs, SqL K H a xs → xs[i]? = some x, fun i H => ∃ xs, SqL K H a xs ∧ xs.length ≤ i⟩
def Itr (lo : Int) (n : Nat) : It := ⟨fun i _ => i < n, fun i H x H' => H' = H ∧ x = .int (lo + i), fun i _ => n ≤ i⟩
theorem turn_list {P : Program} {w : World} {K : PySem.W.Frag} {tg : Expr} (a it : Addr) : Turn P w K tg (Itl K a) [it] it (fun i h => h.IsListIter it a i) where
  mem := by simp
  obj := fun i h st b hb => by
    have e : b = it := by simpa using hb
    subst e
    obtain ⟨o, e, c, d⟩ := st
    exact ⟨o, e, fun v z => by rw [d] at z; cases z⟩
  keep := fun i h h' st k => st.at fun o e => k it (by simp) o e
  item := by
    intro X hP hw hK hc i pins s σ H E I hf st hg
    subst hP hw hK
    obtain ⟨xs, x, hq, hx⟩ := hg
    obtain ⟨its, rv, p, hz⟩ := I.list hq
    obtain ⟨u, hu, ru⟩ := rv.get hx
    obtain ⟨f0, f1, f2, f3, f4, f5⟩ := hf it (by simp)
    refine wpAny_pyNext_list_item st p.isList (x := u) (by simpa using hu) fun h' st' sb => ?_
    have I1 : Inv X pins σ H { s with heap := h' } := I.turned (t' := s.toks) (fun b o hb e => (sb.2 b hb).trans e) f0 f1 f3 f4 f5
    obtain ⟨o, e, c, d⟩ := id st'
    exact ⟨u, rfl, go_of (s := { s with heap := h' }) e c d (by decide) ⟨x, H, I1, ru, ⟨rfl, fun ys hy => by rw [I.list_inj hy hq]; exact hx⟩, st', fun b hb => (hf b hb).1⟩⟩
  done := by
    intro X hP hw hK hc i pins s σ H E I hf st hg
    subst hP hw hK
    obtain ⟨xs, hq, hx⟩ := hg
    obtain ⟨its, rv, p, hz⟩ := I.list hq
    obtain ⟨f0, f1, f2, f3, f4, f5⟩ := hf it (by simp)
    have hl := rv.length
    exact wpAny_pyNext_list_end (I.ok.hd hc) st p.isList (by simp; omega) fun h' eb => ⟨rfl, I.turned (t' := s.toks) (fun b o hb e => eb b o hb e) f0 f1 f3 f4 f5⟩
  self := fun _ _ _ _ _ st h => wpAny_pyIter_listiter st h
theorem turn_range {P : Program} {w : World} {K : PySem.W.Frag} {tg : Expr} (it : Addr) (lo : Int) (n : Nat) : Turn P w K tg (Itr lo n) [it] it (fun i h => IsRangeIter h it (lo + (i : Nat) * 1) ((n : Int) - (i : Nat)) 1) where
  mem := by simp
  obj := fun i h st b hb => by
    have e : b = it := by simpa using hb
    subst e
    exact ⟨_, st, fun v z => by
      have z' : Data.fields _ = Data.cell v := z
      cases z'⟩
  keep := fun i h h' st k => k it (by simp) _ st
  item := by
    intro X hP hw hK hc i pins s σ H E I hf st hg
    subst hP hw hK
    obtain ⟨f0, f1, f2, f3, f4, f5⟩ := hf it (by simp)
    have W := Walks.range (prog := X.prog) (w := X.w) (I.ok.hd hc) it lo 1 n
    refine W.item i s _ _ hg st fun v h' tk hv st' kk => ?_
    obtain ⟨t, rfl⟩ := hv
    have I1 : Inv X pins σ H { s with heap := h', toks := tk } := I.turned (fun b o hb e => kk b o (by simpa using hb) e) f0 f1 f3 f4 f5
    refine ⟨_, rfl, go_of (s := { s with heap := h', toks := tk }) (n := "range_iterator") st' rfl rfl (by decide) ⟨.int (lo + i), H, I1, ⟨t, ?_⟩, ⟨rfl, rfl⟩, st', fun b hb => (hf b hb).1⟩⟩
    rw [Int.mul_one]
  done := by
    intro X hP hw hK hc i pins s σ H E I hf st hg
    subst hP hw hK
    obtain ⟨f0, f1, f2, f3, f4, f5⟩ := hf it (by simp)
    exact wpAny_pyNext_range_end (I.ok.hd hc) st (by have : n ≤ i := hg; omega) fun h' eb => ⟨rfl, I.turned (t' := s.toks) (fun b o hb e => eb b o hb e) f0 f1 f3 f4 f5⟩
  self := fun _ _ _ _ _ st h => wpAny_pyIter_rangeiter st h
end L2
namespace L2
open PySem PySem.Spec PyProof.Rows
section
variable {X : Cx} {tg : Expr}
def iList (K : PySem.W.Frag) (tl : TE) : TI := fun σ H R => tl σ H fun x H1 => ∃ a, x = .ref a ∧ (∃ xs, SqL K H1 a xs) ∧ R (Itl K a) H1
theorem pi_list {l : Expr} {tl : TE} (hl : PE X l tl) : PI X tg l (iList X.K tl) := by
  intro pins s σ H R I h
  refine thn (hl pins s σ H _ I h) fun v s1 hqq => ?_
  obtain ⟨x, H1, I1, r1, q1⟩ := hqq
  obtain ⟨a, e, ⟨xs, hq⟩, q⟩ := q1
  subst e
  cases r1
  obtain ⟨its, rv, p, hz⟩ := I1.list hq
  refine wpAny_pyIter_list p.isList ?_
  refine ⟨s1.heap.objs.size, [s1.heap.objs.size], _, _, H1, rfl, I1.kept (t' := s1.toks) fun b o e => Heap.get?_push_of_some _ e, turn_list a _, ⟨_, Heap.get?_push_size _ rfl, rfl, rfl⟩, fun b hb => ?_, q⟩
  have e : b = s1.heap.objs.size := by simpa using hb
  subst e
  exact I1.fpOk (Nat.le_refl _) (I1.hok.fresh (Nat.le_refl _))
theorem range_it {pins : List (Addr × Obj)} {σ : St} {H : Hp} {s : Shared} {R : It → Hp → Prop} {E : Value → Shared → Prop} {lo hi : Int} {t u v : Tok} {tk : Nat} (I : Inv X pins σ H s) (h1 : -(2 ^ 62) ≤ lo) (h2 : lo < 2 ^ 62) (h3 : -(2 ^ 62) ≤ hi) (h4 : hi < 2 ^ 62)
    (q : R (Itr lo (hi - lo).toNat) H) : wpAny (model X.prog X.w) X.A (pyIter (.ref s.heap.objs.size)) (PIE X pins σ tg R) E { s with heap := s.heap.push { cls := .type "range", data := .fields #[.int lo t, .int hi u, .int 1 v] }, toks := tk } := by
  refine wpAny_pyIter_range (IsRange.new ..) (small_one h1 h2 h3 h4) ?_
  have I1 : Inv X pins σ H { s with heap := s.heap.push { cls := .type "range", data := .fields #[.int lo t, .int hi u, .int 1 v] }, toks := tk } := I.kept fun b o e => Heap.get?_push_of_some _ e
  refine ⟨(s.heap.push { cls := .type "range", data := .fields #[.int lo t, .int hi u, .int 1 v] }).objs.size, [(s.heap.push { cls := .type "range", data := .fields #[.int lo t, .int hi u, .int 1 v] }).objs.size], _, _, H, rfl,
    I1.kept (t' := tk) fun b o e => Heap.get?_push_of_some _ e, turn_range _ lo (hi - lo).toNat, ?_, fun b hb => ?_, q⟩
  · have e1 : lo + ((0 : Nat) : Int) * 1 = lo := by simp
    have e2 : (((hi - lo).toNat : Nat) : Int) - ((0 : Nat) : Int) = Builtin.Range.rangeSize lo hi 1 := by rw [rangeSize_one]; split <;> omega
    show IsRangeIter _ _ (lo + ((0 : Nat) : Int) * 1) ((((hi - lo).toNat : Nat) : Int) - ((0 : Nat) : Int)) 1
    rw [e1, e2]
    exact Heap.get?_push_size _ rfl
  · have e : b = (s.heap.push { cls := .type "range", data := .fields #[.int lo t, .int hi u, .int 1 v] }).objs.size := by simpa using hb
    subst e
    exact I1.fpOk (Nat.le_refl _) (I1.hok.fresh (Nat.le_refl _))
def iRng1 (ta : TA) : TI := fun σ H R => ta σ H fun vs H1 => ∃ j : Int, vs = [.int j] ∧ -(2 ^ 62) ≤ j ∧ j < 2 ^ 62 ∧ R (Itr 0 j.toNat) H1
theorem pi_range1 {a : Expr} {ta : TA} {p pos : Pos} (hg : Gl X "range") (hm : X.mg "range" = none) (ha : PA X [a] ta) (hs : starEach [a] X.env = [(false, eval a X.env)] := by rfl) : PI X tg (.Call (.Name "range" p) [a] [] pos) (iRng1 ta) := by
  intro pins s σ H R I h
  refine Call_ (ld_blt I hg hm boot_range (PyProof.Rows.callWith_type1 (thn (ha pos pins s σ H _ I h) fun us s1 hqq => ?_) hs rfl))
  obtain ⟨vs, H1, I1, r1, q1⟩ := hqq
  obtain ⟨j, e, q1, q2, q⟩ := q1
  subst e
  cases r1 with
  | cons r rr =>
    cases rr
    obtain ⟨t, rfl⟩ := r
    exact call_range_1 (range_it I1 (by omega) (by omega) q1 q2 (by simpa using q))
def tFor (wi : TI) (g : TG) (tb : TS) : TS := fun D σ H => wi σ H fun J H1 => ∃ W : Nat → Nat → St → Hp → Prop, (∃ m, W 0 m σ H1) ∧ ∀ i m σ H, W i m σ H →
  (J.stop i H ∧ D.nx σ H) ∨ (J.go i H ∧ ∃ N : St → Hp → Prop, (∀ σ' H', N σ' H' → ∃ m', m' < m ∧ W (i + 1) m' σ' H') ∧ ∀ x H', J.yld i H x H' → g x σ H' fun σ2 H2 => tb { D with nx := N, ct := N, bk := D.nx } σ2 H2)
def pinsAt (fp : List Addr) (h : Heap) : List (Addr × Obj) := fp.filterMap fun b => (h.get? b).map fun o => (b, o)
theorem mem_pinsAt {fp : List Addr} {h : Heap} {b : Addr} {o : Obj} (hb : b ∈ fp) (e : h.get? b = some o) : (b, o) ∈ pinsAt fp h := List.mem_filterMap.mpr ⟨b, hb, by rw [e]; rfl⟩
theorem of_pinsAt {fp : List Addr} {h : Heap} {p : Addr × Obj} (hp : p ∈ pinsAt fp h) : p.1 ∈ fp ∧ h.get? p.1 = some p.2 := by
  obtain ⟨b, hb, e⟩ := List.mem_filterMap.mp hp
  cases q : h.get? b with
  | none => rw [q] at e; cases e
  | some o =>
    rw [q] at e
    have e' : (b, o) = p := Option.some.inj e
    subst e'
    exact ⟨hb, q⟩
theorem Inv.pinned {pins : List (Addr × Obj)} {σ : St} {H : Hp} {s : Shared} {fp : List Addr} (I : Inv X pins σ H s) (hf : ∀ b ∈ fp, FpOk X pins H b) (ho : ∀ b ∈ fp, ∃ o, s.heap.get? b = some o ∧ ∀ v, o.data ≠ .cell v) : Inv X (pins ++ pinsAt fp s.heap) σ H s :=
  I.pins_of fun p hp => (List.mem_append.mp hp).elim (fun z => I.pin p (List.mem_append_right _ z)) fun z => by
    obtain ⟨hb, e⟩ := of_pinsAt z
    obtain ⟨f0, f1, f2, _⟩ := hf p.1 hb
    obtain ⟨o, e', d⟩ := ho p.1 hb
    rw [e] at e'; cases e'
    exact ⟨e, f0, f1, f2, d⟩
theorem Inv.unpinned {pins pl : List (Addr × Obj)} {σ : St} {H : Hp} {s : Shared} (I : Inv X (pins ++ pl) σ H s) : Inv X pins σ H s := I.pins_of fun p hp => I.pin p (List.mem_append_right _ (List.mem_append_left _ hp))
theorem ps_for {iter : Expr} {body : List Stmt} {wi : TI} {g : TG} {tb : TS} {pos : Pos} (hp : PassesOwn (model X.prog X.w) X.A X.env X.xe) (hc : X.calm = true) (hi : PI X tg iter wi) (hg : PG X tg g) (hb : PSs X body tb)
    (hs : ∀ x, foldedSetIterable iter X.env x = pure x := by intro _; rfl) : PS X (.For tg iter body [] pos) (tFor wi g tb) := by
  intro pins s σ H D I h
  refine wpAny_For (thn (hi pins s σ H _ I h) fun v s1 h1 => thn h1 fun itv s2 h2 => ?_) hs
  obtain ⟨it, fp, tn, J, H2, e, I2, T, st2, f2, W, ⟨m0, w0⟩, turn⟩ := h2
  subst e
  -- what stays true of the iterator's objects through the loop
  have stat : ∀ {H' : Hp}, (∀ b ∈ fp, H' b = none) → ∀ b ∈ fp, FpOk X pins H' b := fun hn b hb => ⟨hn b hb, (f2 b hb).2⟩
  refine codeAny_forLoop_any (fun n s' => ∃ i σ' H', Inv X pins σ' H' s' ∧ tn i s'.heap ∧ (∀ b ∈ fp, H' b = none) ∧ W i n σ' H') ?_ m0 ⟨0, σ, H2, I2, st2, fun b hb => (f2 b hb).1, w0⟩
  rintro n s3 ⟨i, σ3, H3, I3, st3, fr3, w3⟩
  rcases turn i n σ3 H3 w3 with ⟨stop, qn⟩ | ⟨go, N, hN, step⟩
  · refine wpAny_passesOwn hp (thn (T.done X rfl rfl rfl hc i pins s3 σ3 H3 X.xe I3 (stat fr3) st3 stop) fun r s4 ⟨hr, I4⟩ => ?_)
    subst hr
    exact wpAny_execs_nil ⟨σ3, H3, I4, qn⟩
  · refine wpAny_passesOwn hp (thn (T.item X rfl rfl rfl hc i pins s3 σ3 H3 X.xe I3 (stat fr3) st3 go) fun r s4 ⟨u, hr, h4⟩ => ?_)
    subst hr
    refine wpAny_passesOwn hp (thn h4 fun _ s5 hqq => ?_)
    obtain ⟨x, H5, I5, r5, y5, st5, fr5⟩ := hqq
    have I5' := I5.pinned (stat fr5) (T.obj _ _ st5)
    refine wpAny_passesOwn hp (thn (hg _ s5 σ3 H5 x u _ I5' r5 (step x H5 y5)) fun _ s6 hqq => ?_)
    obtain ⟨σ6, H6, I6, q6⟩ := hqq
    refine wpAny_passesOwn hp (thn (hb _ s6 σ6 H6 _ I6 q6) fun f s7 q7 => ?_)
    have again : ∀ {σ7 : St} {H7 : Hp}, Inv X (pins ++ pinsAt fp s5.heap) σ7 H7 s7 → N σ7 H7 → ∃ m, m < n ∧ ∃ i σ' H', Inv X pins σ' H' s7 ∧ tn i s7.heap ∧ (∀ b ∈ fp, H' b = none) ∧ W i m σ' H' := fun {σ7 H7} I7 n7 => by
      obtain ⟨m', hm, w7⟩ := hN σ7 H7 n7
      refine ⟨m', hm, i + 1, σ7, H7, I7.unpinned, T.keep _ _ _ st5 fun b hb o e => (I7.pin (b, o) (List.mem_append_right _ (List.mem_append_right _ (mem_pinsAt hb e)))).1, fun b hb => ?_, w7⟩
      obtain ⟨o, e, d⟩ := T.obj _ _ st5 b hb
      exact (I7.pin (b, o) (List.mem_append_right _ (List.mem_append_right _ (mem_pinsAt hb e)))).2.1
    cases f with
    | next => obtain ⟨σ7, H7, I7, n7⟩ := q7; exact again I7 n7
    | cont => obtain ⟨σ7, H7, I7, n7⟩ := q7; exact again I7 n7
    | brk => obtain ⟨σ7, H7, I7, q7⟩ := q7; exact ⟨σ7, H7, I7.unpinned, q7⟩
    | ret v => obtain ⟨x7, σ7, H7, I7, r7, q7⟩ := q7; exact ⟨x7, σ7, H7, I7.unpinned, r7, q7⟩
end
theorem for_list {K : PySem.W.Frag} {a : Addr} {xs : List V} {g : TG} {tb : TS} {D : Ends} {σ : St} {H : Hp} (Pv : Nat → St → Hp → Prop) (h0 : Pv 0 σ H) (hl : ∀ i σ H, i ≤ xs.length → Pv i σ H → SqL K H a xs)
    (hs : ∀ i x σ H, xs[i]? = some x → Pv i σ H → g x σ H fun σ2 H2 => tb { D with nx := Pv (i + 1), ct := Pv (i + 1), bk := D.nx } σ2 H2) (hd : ∀ σ H, Pv xs.length σ H → D.nx σ H) :
    ∃ W : Nat → Nat → St → Hp → Prop, (∃ m, W 0 m σ H) ∧ ∀ i m σ H, W i m σ H →
      ((Itl K a).stop i H ∧ D.nx σ H) ∨ ((Itl K a).go i H ∧ ∃ N : St → Hp → Prop, (∀ σ' H', N σ' H' → ∃ m', m' < m ∧ W (i + 1) m' σ' H') ∧ ∀ x H', (Itl K a).yld i H x H' → g x σ H' fun σ2 H2 => tb { D with nx := N, ct := N, bk := D.nx } σ2 H2) := by
  refine ⟨fun i m σ H => m = xs.length - i ∧ i ≤ xs.length ∧ Pv i σ H, ⟨xs.length, by simp, Nat.zero_le _, h0⟩, ?_⟩
  rintro i m σ H ⟨rfl, hi, p⟩
  have q := hl i σ H hi p
  by_cases hlt : i < xs.length
  · refine .inr ⟨⟨xs, xs[i], q, by simp [hlt]⟩, Pv (i + 1), fun σ' H' p' => ⟨xs.length - (i + 1), by omega, rfl, hlt, p'⟩, fun x H' y => ?_⟩
    obtain ⟨e, y⟩ := y
    subst e
    exact hs i x σ _ (y xs q) p
  · have e : i = xs.length := by omega
    subst e
    exact .inl ⟨⟨xs, q, Nat.le_refl _⟩, hd σ H p⟩
theorem for_range {lo : Int} {n : Nat} {g : TG} {tb : TS} {D : Ends} {σ : St} {H : Hp} (Pv : Nat → St → Hp → Prop) (h0 : Pv 0 σ H)
    (hs : ∀ i σ H, i < n → Pv i σ H → g (.int (lo + i)) σ H fun σ2 H2 => tb { D with nx := Pv (i + 1), ct := Pv (i + 1), bk := D.nx } σ2 H2) (hd : ∀ σ H, Pv n σ H → D.nx σ H) :
    ∃ W : Nat → Nat → St → Hp → Prop, (∃ m, W 0 m σ H) ∧ ∀ i m σ H, W i m σ H →
      ((Itr lo n).stop i H ∧ D.nx σ H) ∨ ((Itr lo n).go i H ∧ ∃ N : St → Hp → Prop, (∀ σ' H', N σ' H' → ∃ m', m' < m ∧ W (i + 1) m' σ' H') ∧ ∀ x H', (Itr lo n).yld i H x H' → g x σ H' fun σ2 H2 => tb { D with nx := N, ct := N, bk := D.nx } σ2 H2) := by
  refine ⟨fun i m σ H => m = n - i ∧ i ≤ n ∧ Pv i σ H, ⟨n, by simp, Nat.zero_le _, h0⟩, ?_⟩
  rintro i m σ H ⟨rfl, hi, p⟩
  by_cases hlt : i < n
  · refine .inr ⟨hlt, Pv (i + 1), fun σ' H' p' => ⟨n - (i + 1), by omega, rfl, hlt, p'⟩, fun x H' y => ?_⟩
    obtain ⟨e, y⟩ := y
    subst e y
    exact hs i σ _ hlt p
  · have e : i = n := by omega
    subst e
    exact .inl ⟨Nat.le_refl _, hd σ H p⟩
end L2
namespace L2
open PySem PySem.Spec PyProof.Rows
abbrev R2 := V → V → Hp → VK → Prop
def OpR (X : Cx) (f : Value → Value → Sem Value) (r : R2) : Prop :=
  ∀ (pins : List (Addr × Obj)) (s : Shared) (σ : St) (H : Hp) (x y : V) (v u : Value) (Q : VK), Inv X pins σ H s → RelV x v → RelV y u → r x y H Q →
    wpAny (model X.prog X.w) X.A (f v u) (EP X pins σ Q) X.xe s
def UnR (X : Cx) (f : Value → Sem Value) (r : V → Hp → VK → Prop) : Prop :=
  ∀ (pins : List (Addr × Obj)) (s : Shared) (σ : St) (H : Hp) (x : V) (v : Value) (Q : VK), Inv X pins σ H s → RelV x v → r x H Q →
    wpAny (model X.prog X.w) X.A (f v) (EP X pins σ Q) X.xe s
def CallR (X : Cx) (f : Value) (r : List V → Hp → VK → Prop) : Prop :=
  ∀ (pins : List (Addr × Obj)) (s : Shared) (σ : St) (H : Hp) (xs : List V) (us : List Value) (Q : VK), Inv X pins σ H s → Vals xs us → r xs H Q →
    wpAny (model X.prog X.w) X.A (call f us) (EP X pins σ Q) X.xe s
def tOp (r : R2) (ta tb : TE) : TE := fun σ H Q => ta σ H fun x H1 => tb σ H1 fun y H2 => r x y H2 Q
def tUn (r : V → Hp → VK → Prop) (ta : TE) : TE := fun σ H Q => ta σ H fun x H1 => r x H1 Q
def rI (C : Int → Int → Prop) (g : Int → Int → V) : R2 := fun x y H Q => ∃ i j, x = .int i ∧ y = .int j ∧ C i j ∧ Q (g i j) H
def rI0 (g : Int → Int → V) : R2 := fun x y H Q => ∃ i j, x = .int i ∧ y = .int j ∧ Q (g i j) H
def rU (g : Int → V) : V → Hp → VK → Prop := fun x H Q => ∃ i, x = .int i ∧ Q (g i) H
section
variable {X : Cx} {a b c : Expr} {ta tb tc : TE} {pos : Pos}
theorem binT (ha : PE X a ta) (hb : PE X b tb) {pins : List (Addr × Obj)} {s : Shared} {σ : St} {H : Hp} {R : V → V → Hp → Prop} (I : Inv X pins σ H s)
    (h : ta σ H fun x H1 => tb σ H1 fun y H2 => R x y H2) {Q : Value → Shared → Prop} {f : Value → Value → Sem Value}
    (hf : ∀ v u s2 x y H2, Inv X pins σ H2 s2 → RelV x v → RelV y u → R x y H2 → wpAny (model X.prog X.w) X.A (f v u) Q X.xe s2) :
    wpAny (model X.prog X.w) X.A (eval a X.env) (fun v s₁ => wpAny (model X.prog X.w) X.A (eval b X.env) (fun u s₂ => wpAny (model X.prog X.w) X.A (f v u) Q X.xe s₂) X.xe s₁) X.xe s := by
  refine thn (ha pins s σ H _ I h) fun v s1 hqq => ?_
  obtain ⟨x, H1, I1, r1, q1⟩ := hqq
  refine thn (hb pins s1 σ H1 _ I1 q1) fun u s2 hqq => ?_
  obtain ⟨y, H2, I2, r2, q2⟩ := hqq
  exact hf v u s2 x y H2 I2 r1 r2 q2
theorem pe_op {op : Operator} {r : R2} (ho : OpR X (binaryOp op) r) (ha : PE X a ta) (hb : PE X b tb) : PE X (.BinOp a op b pos) (tOp r ta tb) := by
  intro pins s σ H Q I h
  exact wpAny_BinOp (binT ha hb I h fun v u s2 x y H2 I2 rx ry q => ho pins s2 σ H2 x y v u Q I2 rx ry q)
theorem pe_un {op : UnaryOp} {r : V → Hp → VK → Prop} (ho : UnR X (unaryOp op) r) (ha : PE X a ta) : PE X (.UnaryOp op a pos) (tUn r ta) := by
  intro pins s σ H Q I h
  exact UnaryOp_ (thn (ha pins s σ H _ I h) fun v s1 ⟨x, H1, I1, r1, q1⟩ => ho pins s1 σ H1 x v Q I1 r1 q1)
theorem opI {f : Value → Value → Sem Value} {C : Int → Int → Prop} {g : Int → Int → Int}
    (rule : ∀ (i j : Int) (t u : Tok) (s : Shared) (Q : Value → Shared → Prop) (E : Value → Shared → Prop), C i j → Q (.int (g i j) s.toks) { s with toks := s.toks + 1 } → wpAny (model X.prog X.w) X.A (f (.int i t) (.int j u)) Q E s) :
    OpR X f (rI C fun i j => .int (g i j)) := by
  intro pins s σ H x y v u Q I rx ry h
  obtain ⟨i, j, rfl, rfl, hc, q⟩ := h
  obtain ⟨t, rfl⟩ := rx
  obtain ⟨t', rfl⟩ := ry
  exact rule i j t t' s _ _ hc ⟨.int (g i j), H, I.tok _, ⟨_, rfl⟩, q⟩
theorem opI0 {f : Value → Value → Sem Value} {g : Int → Int → Int}
    (rule : ∀ (i j : Int) (t u : Tok) (s : Shared) (Q : Value → Shared → Prop) (E : Value → Shared → Prop), Q (.int (g i j) s.toks) { s with toks := s.toks + 1 } → wpAny (model X.prog X.w) X.A (f (.int i t) (.int j u)) Q E s) :
    OpR X f (rI0 fun i j => .int (g i j)) := by
  intro pins s σ H x y v u Q I rx ry h
  obtain ⟨i, j, rfl, rfl, q⟩ := h
  obtain ⟨t, rfl⟩ := rx
  obtain ⟨t', rfl⟩ := ry
  exact rule i j t t' s _ _ ⟨.int (g i j), H, I.tok _, ⟨_, rfl⟩, q⟩
theorem opB0 {f : Value → Value → Sem Value} {g : Int → Int → Bool}
    (rule : ∀ (i j : Int) (t u : Tok) (s : Shared) (Q : Value → Shared → Prop) (E : Value → Shared → Prop), Q (.bool (g i j)) s → wpAny (model X.prog X.w) X.A (f (.int i t) (.int j u)) Q E s) :
    OpR X f (rI0 fun i j => .bl (g i j)) := by
  intro pins s σ H x y v u Q I rx ry h
  obtain ⟨i, j, rfl, rfl, q⟩ := h
  obtain ⟨t, rfl⟩ := rx
  obtain ⟨t', rfl⟩ := ry
  exact rule i j t t' s _ _ ⟨.bl (g i j), H, I, rfl, q⟩
def CDiv (i j : Int) : Prop := 0 < j ∧ j < 1073741824
def CPow (i j : Int) : Prop := 0 ≤ j ∧ j ≤ 1000000 ∧ i.natAbs < 2 ^ 64
def CMul (i j : Int) : Prop := (-(2 ^ 64) < i ∧ i < 2 ^ 64) ∨ (-(2 ^ 64) < j ∧ j < 2 ^ 64)
theorem CMul.ok {i j : Int} (h : CMul i j) : IntMulOk i j := by
  rcases h with ⟨h1, h2⟩ | ⟨h1, h2⟩
  · exact .of_left (intBits_le_64 h1 h2)
  · exact .of_right (intBits_le_64 h1 h2)
theorem two_pow_nn (k : Nat) : (0 : Int) ≤ 2 ^ k := by
  rw [two_pow_cast]
  exact Int.natCast_nonneg _
theorem op_add : OpR X (binaryOp .Add) (rI0 fun i j => .int (i + j)) := opI0 fun _ _ _ _ _ _ _ q => add_int q
theorem op_sub : OpR X (binaryOp .Sub) (rI0 fun i j => .int (i - j)) := opI0 fun _ _ _ _ _ _ _ q => sub_int q
theorem op_mul : OpR X (binaryOp .Mult) (rI CMul fun i j => .int (i * j)) := opI fun _ _ _ _ _ _ _ hc q => mul_int q hc.ok
theorem op_fdiv : OpR X (binaryOp .FloorDiv) (rI CDiv fun i j => .int (i / j)) := opI fun i j _ _ _ _ _ hc q => by
  have h1 : (0 : Int) < j := hc.1
  have h2 : j < 1073741824 := hc.2
  exact floordiv_int (by omega) (by rw [Int.fdiv_eq_ediv_of_nonneg i (by omega)]; exact q) (.inl (PyProof.noPylong_small (by omega)))
theorem op_mod : OpR X (binaryOp .Mod) (rI (fun _ j => 0 < j) fun i j => .int (i % j)) := opI fun i j _ _ _ _ _ hc q => by
  have h1 : (0 : Int) < j := hc
  exact mod_int' (by omega) (by rw [Int.fmod_eq_emod_of_nonneg i (by omega)]; exact q)
theorem op_shl : OpR X (binaryOp .LShift) (rI CPow fun i j => .int (i * 2 ^ j.toNat)) := opI fun _ _ _ _ _ _ _ hc q => lshift_int_small hc.1 hc.2.1 hc.2.2 q
theorem op_shr : OpR X (binaryOp .RShift) (rI (fun _ j => 0 ≤ j) fun i j => .int (i / 2 ^ j.toNat)) := opI fun i j _ _ _ _ _ hc q =>
  rshift_int hc (by rw [Int.fdiv_eq_ediv_of_nonneg i (two_pow_nn _)]; exact q)
theorem op_and : OpR X (binaryOp .BitAnd) (rI0 fun i j => .int (Builtin.bitAnd i j)) := opI0 fun _ _ _ _ _ _ _ q => and_int q
theorem op_or : OpR X (binaryOp .BitOr) (rI0 fun i j => .int (Builtin.bitOr i j)) := opI0 fun _ _ _ _ _ _ _ q => or_int q
theorem op_xor : OpR X (binaryOp .BitXor) (rI0 fun i j => .int (Builtin.bitXor i j)) := opI0 fun _ _ _ _ _ _ _ q => xor_int q
theorem unI {f : Value → Sem Value} {g : Int → Int}
    (rule : ∀ (i : Int) (t : Tok) (s : Shared) (Q : Value → Shared → Prop) (E : Value → Shared → Prop), Q (.int (g i) s.toks) { s with toks := s.toks + 1 } → wpAny (model X.prog X.w) X.A (f (.int i t)) Q E s) :
    UnR X f (rU fun i => .int (g i)) := by
  intro pins s σ H x v Q I rx h
  obtain ⟨i, rfl, q⟩ := h
  obtain ⟨t, rfl⟩ := rx
  exact rule i t s _ _ ⟨.int (g i), H, I.tok _, ⟨_, rfl⟩, q⟩
theorem un_neg : UnR X (unaryOp .USub) (rU fun i => .int (-i)) := unI fun _ _ _ _ _ q => neg_int q
end
def scal : V → V → Bool
  | .non, .non => true | .non, .int _ => true | .int _, .non => true | .non, .bl _ => true | .bl _, .non => true | .non, .str _ => true | .str _, .non => true
  | .int _, .int _ => true | .bl _, .bl _ => true | .str _, .str _ => true | .byt _, .byt _ => true
  | .int _, .str _ => true | .str _, .int _ => true | .bl _, .str _ => true | .str _, .bl _ => true
  | _, _ => false
def rEq : R2 := fun x y H Q => scal x y = true ∧ Q (.bl (decide (x = y))) H
def rNe : R2 := fun x y H Q => scal x y = true ∧ Q (.bl (!decide (x = y))) H
theorem dec_int {i j : Int} : decide (V.int i = V.int j) = (i == j) := by
  rw [Bool.eq_iff_iff]
  simp
theorem dec_bl {i j : Bool} : decide (V.bl i = V.bl j) = (i == j) := by
  rw [Bool.eq_iff_iff]
  simp
theorem dec_str {i j : Str} : decide (V.str i = V.str j) = (i == j) := by
  rw [Bool.eq_iff_iff]
  simp
theorem dec_byt {i j : Array UInt8} : decide (V.byt i = V.byt j) = (i.toList == j.toList) := by
  rw [Bool.eq_iff_iff]
  cases i
  cases j
  simp
section
variable {X : Cx} {a b c : Expr} {ta tb tc : TE} {pos : Pos}
theorem fin_bl {pins : List (Addr × Obj)} {σ : St} {H : Hp} {s : Shared} {Q : VK} {k k' : Bool} (I : Inv X pins σ H s) (q : Q (.bl k) H) (e : k = k') : EP X pins σ Q (.bool k') s := by
  subst e
  exact ⟨.bl k, H, I, rfl, q⟩
theorem op_eq : OpR X (compareOp .Eq) rEq := by
  intro pins s σ H x y v u Q I rx ry h
  obtain ⟨hs, q⟩ := h
  cases x with
  | non =>
    cases rx
    cases y with
    | non => cases ry; exact PySem.EqNone.eq_none_none (fin_bl I q (by simp))
    | bl j => cases ry; exact PySem.EqNone.eq_none_bool (fin_bl I q (by simp))
    | int j => obtain ⟨t', rfl⟩ := ry; exact PySem.EqNone.eq_none_int (fin_bl I q (by simp))
    | str j => obtain ⟨t', rfl⟩ := ry; exact PySem.EqNone.eq_none_str (fin_bl I q (by simp))
    | _ => exact absurd (show false = true from hs) Bool.false_ne_true
  | bl i =>
    cases rx
    cases y with
    | non => cases ry; exact PySem.EqNone.eq_bool_none (fin_bl I q (by simp))
    | bl j => cases ry; exact eq_bool (fin_bl I q dec_bl)
    | str j => obtain ⟨t', rfl⟩ := ry; exact PySem.EqMixed.eq_bool_str (fin_bl I q (by simp))
    | _ => exact absurd (show false = true from hs) Bool.false_ne_true
  | int i =>
    obtain ⟨t, rfl⟩ := rx
    cases y with
    | non => cases ry; exact PySem.EqNone.eq_int_none (fin_bl I q (by simp))
    | int j => obtain ⟨t', rfl⟩ := ry; exact eq_int (fin_bl I q dec_int)
    | str j => obtain ⟨t', rfl⟩ := ry; exact PySem.EqMixed.eq_int_str (fin_bl I q (by simp))
    | _ => exact absurd (show false = true from hs) Bool.false_ne_true
  | str i =>
    obtain ⟨t, rfl⟩ := rx
    cases y with
    | non => cases ry; exact PySem.EqNone.eq_str_none (fin_bl I q (by simp))
    | bl j => cases ry; exact PySem.EqMixed.eq_str_bool (fin_bl I q (by simp))
    | int j => obtain ⟨t', rfl⟩ := ry; exact PySem.EqMixed.eq_str_int (fin_bl I q (by simp))
    | str j => obtain ⟨t', rfl⟩ := ry; exact eq_str (fin_bl I q dec_str)
    | _ => exact absurd (show false = true from hs) Bool.false_ne_true
  | byt i =>
    obtain ⟨t, rfl⟩ := rx
    cases y with
    | byt j => obtain ⟨t', rfl⟩ := ry; exact PySem.W.eq_bytes (fin_bl I q dec_byt)
    | _ => exact absurd (show false = true from hs) Bool.false_ne_true
  | _ => cases y <;> exact absurd (show false = true from hs) Bool.false_ne_true
theorem op_ne : OpR X (compareOp .NotEq) rNe := by
  intro pins s σ H x y v u Q I rx ry h
  obtain ⟨hs, q⟩ := h
  cases x with
  | non =>
    cases rx
    cases y with
    | non => cases ry; exact PySem.EqNone.ne_none_none (fin_bl I q (by simp))
    | bl j => cases ry; exact PySem.EqNone.ne_none_bool (fin_bl I q (by simp))
    | int j => obtain ⟨t', rfl⟩ := ry; exact PySem.EqNone.ne_none_int (fin_bl I q (by simp))
    | str j => obtain ⟨t', rfl⟩ := ry; exact PySem.EqNone.ne_none_str (fin_bl I q (by simp))
    | _ => exact absurd (show false = true from hs) Bool.false_ne_true
  | bl i =>
    cases rx
    cases y with
    | non => cases ry; exact PySem.EqNone.ne_bool_none (fin_bl I q (by simp))
    | bl j => cases ry; exact ne_bool (fin_bl I q (congrArg not dec_bl))
    | str j => obtain ⟨t', rfl⟩ := ry; exact PySem.EqMixed.ne_bool_str (fin_bl I q (by simp))
    | _ => exact absurd (show false = true from hs) Bool.false_ne_true
  | int i =>
    obtain ⟨t, rfl⟩ := rx
    cases y with
    | non => cases ry; exact PySem.EqNone.ne_int_none (fin_bl I q (by simp))
    | int j => obtain ⟨t', rfl⟩ := ry; exact ne_int (fin_bl I q (congrArg not dec_int))
    | str j => obtain ⟨t', rfl⟩ := ry; exact PySem.EqMixed.ne_int_str (fin_bl I q (by simp))
    | _ => exact absurd (show false = true from hs) Bool.false_ne_true
  | str i =>
    obtain ⟨t, rfl⟩ := rx
    cases y with
    | non => cases ry; exact PySem.EqNone.ne_str_none (fin_bl I q (by simp))
    | bl j => cases ry; exact PySem.EqMixed.ne_str_bool (fin_bl I q (by simp))
    | int j => obtain ⟨t', rfl⟩ := ry; exact PySem.EqMixed.ne_str_int (fin_bl I q (by simp))
    | str j => obtain ⟨t', rfl⟩ := ry; exact ne_str (fin_bl I q (congrArg not dec_str))
    | _ => exact absurd (show false = true from hs) Bool.false_ne_true
  | byt i =>
    obtain ⟨t, rfl⟩ := rx
    cases y with
    | byt j => obtain ⟨t', rfl⟩ := ry; exact PySem.W.ne_bytes (fin_bl I q (congrArg not dec_byt))
    | _ => exact absurd (show false = true from hs) Bool.false_ne_true
  | _ => cases y <;> exact absurd (show false = true from hs) Bool.false_ne_true
theorem op_lt : OpR X (compareOp .Lt) (rI0 fun i j => .bl (decide (i < j))) := opB0 fun _ _ _ _ _ _ _ q => lt_int q
theorem op_le : OpR X (compareOp .LtE) (rI0 fun i j => .bl (decide (i ≤ j))) := opB0 fun _ _ _ _ _ _ _ q => le_int q
theorem op_gt : OpR X (compareOp .Gt) (rI0 fun i j => .bl (decide (j < i))) := opB0 fun _ _ _ _ _ _ _ q => gt_int q
theorem op_ge : OpR X (compareOp .GtE) (rI0 fun i j => .bl (decide (j ≤ i))) := opB0 fun _ _ _ _ _ _ _ q => ge_int q
theorem op_isN : OpR X (compareOp .Is) (fun x y H Q => y = .non ∧ Q (.bl (decide (x = .non))) H) := by
  intro pins s σ H x y v u Q I rx ry h
  obtain ⟨rfl, q⟩ := h
  cases ry
  refine is_none_gen (fin_bl I q ?_)
  cases x <;> first
    | (cases rx; rfl)
    | (obtain ⟨t, rfl⟩ := rx; rfl)
theorem op_notN : OpR X (compareOp .IsNot) (fun x y H Q => y = .non ∧ Q (.bl (!decide (x = .non))) H) := by
  intro pins s σ H x y v u Q I rx ry h
  obtain ⟨rfl, q⟩ := h
  cases ry
  refine isnot_none_gen (fin_bl I q ?_)
  cases x <;> first
    | (cases rx; rfl)
    | (obtain ⟨t, rfl⟩ := rx; rfl)
theorem nomark (b : Expr) {op : CmpOp} (h : op ≠ .In := by decide) (h2 : op ≠ .NotIn := by decide) : behindInMarks op b = false := by
  have e1 : (op == CmpOp.In) = false := by cases op <;> first | rfl | exact absurd rfl h
  have e2 : (op == CmpOp.NotIn) = false := by cases op <;> first | rfl | exact absurd rfl h2
  cases b <;> simp [behindInMarks, e1, e2]
theorem pe_cmpR {op : CmpOp} {r : R2} (ho : OpR X (compareOp op) r) (ha : PE X a ta) (hb : PE X b tb) (hm : behindInMarks op b = false) : PE X (.Compare a [op] [b] pos) (tOp r ta tb) := by
  intro pins s σ H Q I h
  exact wpAny_Compare1 (binT ha hb I h fun v u s2 x y H2 I2 rx ry q => ho pins s2 σ H2 x y v u Q I2 rx ry q) hm
def tTest (t : TE) : TT := fun σ H Q => t σ H fun x H' => ∃ k, x = .bl k ∧ Q k H'
theorem pt_cmpR {op : CmpOp} {r : R2} (ho : OpR X (compareOp op) r) (ha : PE X a ta) (hb : PE X b tb) (hm : behindInMarks op b = false) : PT X (.Compare a [op] [b] pos) (tTest (tOp r ta tb)) := by
  intro pins s σ H Q I h
  refine wpAny_isTrue_Compare1 (thn (ha pins s σ H _ I h) fun v s1 ⟨x, H1, I1, r1, q1⟩ => thn (hb pins s1 σ H1 _ I1 q1) fun u s2 ⟨y, H2, I2, r2, q2⟩ =>
    thn (ho pins s2 σ H2 x y v u _ I2 r1 r2 q2) fun c s3 ⟨z, H3, I3, r3, k, e, q3⟩ => ?_) hm
  subst e
  cases r3
  exact wpAny_truthy_bool ⟨H3, I3, q3⟩
def tChain (r r' : R2) (ta tb tc : TE) : TE := fun σ H Q => ta σ H fun x H1 => tb σ H1 fun y H2 => r x y H2 fun z H3 => ∃ k, z = .bl k ∧
  (if k = true then tc σ H3 fun w' H4 => r' y w' H4 Q else Q (.bl false) H3)
theorem pe_chain {op op' : CmpOp} {r r' : R2} (ho : OpR X (compareOp op) r) (ho' : OpR X (compareOp op') r') (ha : PE X a ta) (hb : PE X b tb) (hc : PE X c tc)
    (hm : lastMarks [op, op'] [b, c] = false := by with_unfolding_all rfl) : PE X (.Compare a [op, op'] [b, c] pos) (tChain r r' ta tb tc) := by
  intro pins s σ H Q I h
  refine Compare_chain (thn (ha pins s σ H _ I h) fun v s1 ⟨x, H1, I1, r1, q1⟩ => chain_link (thn (hb pins s1 σ H1 _ I1 q1) fun u s2 ⟨y, H2, I2, r2, q2⟩ =>
    thn (ho pins s2 σ H2 x y v u _ I2 r1 r2 q2) fun d s3 ⟨z, H3, I3, r3, k, e, q3⟩ => ?_)) hm
  subst e
  cases r3
  refine wpAny_truthy_bool ?_
  cases k with
  | false => exact ite_ff ⟨.bl false, H3, I3, rfl, q3⟩
  | true => exact ite_tt (chain_last (thn (hc pins s3 σ H3 _ I3 q3) fun w' s4 ⟨z', H4, I4, r4, q4⟩ => ho' pins s4 σ H4 y z' u w' Q I4 r2 r4 q4))
theorem line63 : (sizeLine : Nat) < 2 ^ 63 := by rw [sizeLine_eq]; decide
theorem vals1 {x : V} {us : List Value} (r : Vals [x] us) : ∃ u, us = [u] ∧ RelV x u := by
  cases r with
  | cons r1 r2 => cases r2; exact ⟨_, rfl, r1⟩
theorem vals2 {x y : V} {us : List Value} (r : Vals [x, y] us) : ∃ u w', us = [u, w'] ∧ RelV x u ∧ RelV y w' := by
  cases r with
  | cons r1 r2 =>
    cases r2 with
    | cons r3 r4 => cases r4; exact ⟨_, _, rfl, r1, r3⟩
theorem call_max2 (hc : X.calm = true) : CallR X (.builtin "max") (fun xs H Q => ∃ i j, xs = [.int i, .int j] ∧ Q (.int (if j > i then j else i)) H) := by
  intro pins s σ H xs us Q I r h
  obtain ⟨i, j, rfl, q⟩ := h
  obtain ⟨u, w', rfl, ⟨t, rfl⟩, ⟨t', rfl⟩⟩ := vals2 r
  refine max_two_ints (I.ok.hd hc) fun h' tk k => ⟨_, H, I.kept k, ?_, q⟩
  by_cases hj : j > i
  · rw [if_pos hj, if_pos hj]; exact ⟨_, rfl⟩
  · rw [if_neg hj, if_neg hj]; exact ⟨_, rfl⟩
theorem call_min2 (hc : X.calm = true) : CallR X (.builtin "min") (fun xs H Q => ∃ i j, xs = [.int i, .int j] ∧ Q (.int (if j < i then j else i)) H) := by
  intro pins s σ H xs us Q I r h
  obtain ⟨i, j, rfl, q⟩ := h
  obtain ⟨u, w', rfl, ⟨t, rfl⟩, ⟨t', rfl⟩⟩ := vals2 r
  refine min_two_ints (I.ok.hd hc) fun h' tk k => ⟨_, H, I.kept k, ?_, q⟩
  by_cases hj : j < i
  · rw [if_pos hj, if_pos hj]; exact ⟨_, rfl⟩
  · rw [if_neg hj, if_neg hj]; exact ⟨_, rfl⟩
theorem call_ord : CallR X (.builtin "ord") (fun xs H Q => ∃ x, xs = [.str x] ∧ x.length = 1 ∧ Q (.int (x.cps.getD 0 0 : Nat)) H) := by
  intro pins s σ H xs us Q I r h
  obtain ⟨x, rfl, hz, q⟩ := h
  obtain ⟨u, rfl, t, rfl⟩ := vals1 r
  exact ord_of_one hz ⟨.int _, H, I.tok _, ⟨_, rfl⟩, q⟩
end
end L2
namespace L2
open PySem PySem.Spec PyProof.Rows
structure ObjM (h : Heap) (x dx C : Addr) (mA : Str → Option Value) : Prop where
  obj : h.get? x = some (PySem.W.instObj C dx)
  ns : h.Ns1 dx mA
  ne : dx ≠ x
theorem lookIn_ns {h : Heap} {dx : Addr} {mA : Str → Option Value} (n : h.Ns1 dx mA) : ∃ od, h.get? dx = some od ∧ ∀ name, PySem.W.lookIn name od = some (mA name) := by
  obtain ⟨o, es, ep, ho, hd, hk, _, hm⟩ := n
  refine ⟨o, ho, fun name => ?_⟩
  have e := hm name
  unfold nsFind findBy at e
  rw [← Array.find?_toList] at e
  unfold PySem.W.lookIn
  rw [hd]
  dsimp only
  split
  · rename_i y q
    rw [q] at e
    exact congrArg some e
  · rename_i q
    rw [q] at e
    have a : es.toList.any (·.refKey) = false := by
      rw [List.any_eq_false]
      intro y hy
      obtain ⟨z, t, hkey⟩ := hk y (Array.mem_toList_iff.mp hy)
      simp [DictEntry.refKey, hkey]
    have a' : ¬ es.toList.any (·.refKey) = true := by rw [a]; exact Bool.false_ne_true
    rw [if_neg a']
    exact congrArg some e
theorem ObjM.look {h : Heap} {x dx C : Addr} {mA : Str → Option Value} (I : ObjM h x dx C mA) : ∃ od, PySem.W.InstAt h x (PySem.W.instObj C dx) C (some od) ∧ ∀ name, PySem.W.lookIn name od = some (mA name) :=
  let ⟨od, ho, hl⟩ := lookIn_ns I.ns
  ⟨od, ⟨I.obj, rfl, rfl, ho⟩, hl⟩
section
variable {prog : Program} {w : World} {A : Around} {E : Value → Shared → Prop} {s : Shared} {K : PySem.W.Frag} {x dx C f : Addr} {mA : Str → Option Value} {name : Str} {v : Value}
theorem get_map {expr : Bool} {Q : Value → Shared → Prop} (X : K.In s.heap) (I : ObjM s.heap x dx C mA) (hg : PySem.W.plainGet K C name = true) (hh : PySem.W.hasDictIn K C = true)
    (ha : PySem.W.findIn K (.ref C) name = some none) (hv : mA name = some v) (hv' : PySem.W.handedIn v = true) (h : Q v { s with toks := s.toks + 1 }) :
    wpAny (model prog w) A (getAttr (.ref x) name expr) Q E s := by
  obtain ⟨od, J, hl⟩ := I.look
  exact PySem.W.get_value X J (PySem.W.plainGet_of hg).1 (PySem.W.findObj_own hh ha rfl (by rw [hl, hv])) hv' h
theorem get_meth {pl : Sem Bool} {Q : Value × List Value → Shared → Prop} (X : K.In s.heap) (I : ObjM s.heap x dx C mA) (hg : PySem.W.plainGet K C name = true)
    (hf : PySem.W.findIn K (.ref C) name = some (some (.ref f))) (ht : PySem.W.isFn K (.ref f) = true) (hv : mA name = none) (h : Q (.ref f, [.ref x]) s) :
    wpAny (model prog w) A (getMethod (.ref x) name pl) Q E s := by
  obtain ⟨od, J, hl⟩ := I.look
  exact PySem.W.method_fn X J (PySem.W.plainGet_of hg).1 (PySem.W.plainGet_of hg).2 hf (beq_iff_eq.mp ht) (by show (PySem.W.lookIn name od).map (·.isSome) = some false; rw [hl, hv]; rfl) h
theorem set_map {ns : List Str} {Q : Unit → Shared → Prop} (X : K.In s.heap) (I : ObjM s.heap x dx C mA)
    (hs : PySem.W.findIn K (.ref C) "__setattr__" = some (some (.builtin "object.__setattr__"))) (hp : PySem.W.plainOver K C = true) (ht : PySem.W.takerIn K C name = some none) (hh : PySem.W.hasDictIn K C = true)
    (hw : PySem.Within mA ns) (hsz : ns.length ≤ sizeLine)
    (h : ∀ h', ObjM h' x dx C (fun y => if y = name then some v else mA y) → Heap.SameBut dx s.heap h' → Q () { s with heap := h', toks := s.toks + 2 }) :
    wpAny (model prog w) A (setAttr (.ref x) name v) Q E s := by
  obtain ⟨od, J, hl⟩ := I.look
  refine PySem.W.set_plain X J hs (PySem.W.osa_open (s := { s with toks := s.toks + 1 }) (r := none) X J hp ht fun b => ?_)
  obtain ⟨cd, hc, hd'⟩ := PySem.W.any_some hh
  have hx : s.heap.get? x = some ⟨.ref C, some dx, .plain, #[]⟩ := I.obj
  refine wpAny_bind (wpAny_pure (wpAny_bind (wpAny_bind (wpAny_loadPart hx (wpAny_bind (PySem.W.Looks.here (s := { s with toks := s.toks + 1 }) (PySem.W.looks_clsIn X hc) ?_))))))
  rw [hd']
  refine wpAny_pure (a := some dx) (wpAny_bind (wpAny_pure (wpAny_bind ?_)))
  refine wpAny_nsSet1 (s := { s with toks := s.toks + 1 }) I.ns fun h' hn2 hs2 => ?_
  obtain ⟨oD, esD, epD, hoD, hdD, hcD⟩ := hn2.count (PySem.Within.cons name v hw)
  refine wpAny_bind (wpAny_lookBehind hoD (by rw [hdD]; exact pastItsLine_dict (Nat.le_trans hcD (by rw [List.length_cons]; omega))) ?_)
  exact wpAny_pure (h _ ⟨(hs2.2 _ (Ne.symm I.ne)).trans I.obj, hn2, I.ne⟩ hs2)
theorem make_map {R : Result → Shared → Prop} {vs : List Value} {kw : List (Str × Value)} (X : K.In s.heap) (hm : PySem.W.makesIn K C = true)
    (hi : PySem.W.findIn K (.ref C) "__init__" = some (some (.ref f))) (hf : PySem.W.typeIn K (.ref f) = some (.type "function"))
    (h : codeAny (model prog w) (A.under (.builtin "type.__call__" ⟨.ref C :: vs, kw⟩)) (.call (.ref f) ⟨.ref (s.heap.objs.size + 1) :: vs, kw⟩) (PySem.W.InitBack (s.heap.objs.size + 1) R)
      { s with heap := (s.heap.push PySem.W.emptyDict).push (PySem.W.instObj C s.heap.objs.size) }) :
    codeAny (model prog w) A (.call (.ref C) ⟨vs, kw⟩) R s := by
  obtain ⟨hh, g, d, t, os⟩ := s
  exact PySem.W.make_core (PySem.W.makes_of X hm) (PySem.W.looks_findIn X hi) (fun self => PySem.W.bind_fn X self hf) (.inl rfl) h
end
def putF (f : Str) (v : V) : List (Str × V) → List (Str × V)
  | [] => [(f, v)]
  | (g, x) :: r => if g = f then (g, v) :: r else (g, x) :: putF f v r
theorem lookup_putF (f g : Str) (v : V) : ∀ fs : List (Str × V), (putF f v fs).lookup g = if g = f then some v else fs.lookup g
  | [] => by
    show List.lookup g [(f, v)] = _
    by_cases h : g = f
    · have hb : (g == f) = true := beq_iff_eq.mpr h
      simp only [List.lookup, hb, if_pos h]
    · have hb : (g == f) = false := beq_eq_false_iff_ne.mpr h
      simp only [List.lookup, hb, if_neg h]
  | (k, x) :: r => by
    have ih := lookup_putF f g v r
    rw [show putF f v ((k, x) :: r) = (if k = f then (k, v) :: r else (k, x) :: putF f v r) from rfl]
    by_cases hk : k = f
    · rw [if_pos hk]
      by_cases h : g = k
      · have hb : (g == k) = true := beq_iff_eq.mpr h
        simp only [List.lookup, hb, if_pos (h.trans hk)]
      · have hb : (g == k) = false := beq_eq_false_iff_ne.mpr h
        simp only [List.lookup, hb, if_neg (fun e : g = f => h (e.trans hk.symm))]
    · rw [if_neg hk]
      by_cases h : g = k
      · have hb : (g == k) = true := beq_iff_eq.mpr h
        simp only [List.lookup, hb, if_neg (fun e : g = f => hk (h.symm.trans e))]
      · have hb : (g == k) = false := beq_eq_false_iff_ne.mpr h
        simp only [List.lookup, hb]
        exact ih
theorem keys_putF (f : Str) (v : V) : ∀ fs : List (Str × V), f ∈ (putF f v fs).map (·.1) ∧ ∀ g, g ∈ fs.map (·.1) → g ∈ (putF f v fs).map (·.1)
  | [] => ⟨by simp [putF], fun g h => by simp at h⟩
  | (k, x) :: r => by
    obtain ⟨i1, i2⟩ := keys_putF f v r
    rw [show putF f v ((k, x) :: r) = (if k = f then (k, v) :: r else (k, x) :: putF f v r) from rfl]
    by_cases hk : k = f
    · rw [if_pos hk]
      subst hk
      exact ⟨by simp, fun g h => by simpa using h⟩
    · rw [if_neg hk]
      refine ⟨?_, fun g h => ?_⟩
      · rw [List.map_cons]
        exact List.mem_cons_of_mem _ i1
      · rw [List.map_cons] at h ⊢
        rcases List.mem_cons.mp h with e | e
        · exact List.mem_cons.mpr (.inl e)
        · exact List.mem_cons_of_mem _ (i2 g e)
theorem length_putF (f : Str) (v : V) : ∀ fs : List (Str × V), (putF f v fs).length ≤ fs.length + 1
  | [] => by simp [putF]
  | (k, x) :: r => by
    have ih := length_putF f v r
    rw [show putF f v ((k, x) :: r) = (if k = f then (k, v) :: r else (k, x) :: putF f v r) from rfl]
    by_cases hk : k = f
    · rw [if_pos hk, List.length_cons, List.length_cons]; omega
    · rw [if_neg hk, List.length_cons, List.length_cons]; omega
theorem RelO.some_of {v : V} {o : Option Value} (r : RelO (some v) o) : ∃ u, o = some u ∧ RelV v u := by
  cases o with
  | none => exact (show False from r).elim
  | some u => exact ⟨u, rfl, r⟩
theorem RelO.none_of {o : Option Value} (r : RelO none o) : o = none := by
  cases o with
  | none => rfl
  | some u => exact (show False from r).elim
theorem handed_of {v : V} {u : Value} (r : RelV v u) : PySem.W.handedIn u = true := by
  cases v with
  | non => cases (show u = Value.none from r); rfl
  | bl b => cases (show u = Value.bool b from r); rfl
  | int i => obtain ⟨t, e⟩ := (show ∃ t, u = Value.int i t from r); cases e; rfl
  | str x => obtain ⟨t, e⟩ := (show ∃ t, u = Value.str x t from r); cases e; rfl
  | byt b => obtain ⟨t, e⟩ := (show ∃ t, u = Value.bytes b t from r); cases e; rfl
  | flt b => obtain ⟨t, e⟩ := (show ∃ t, u = Value.float b t from r); cases e; rfl
  | ref a => cases (show u = Value.ref a from r); rfl
  | ty n => cases (show u = Value.type n from r); rfl
section
variable {P : Program} {w : World} {H H' : Hp} {h h' : Heap} {a C dx : Addr} {fs fs' : List (Str × V)}
theorem ins_get (hok : HOk P w H h) (e : H a = some (.ins C dx fs)) : ∃ mA, ObjM h a dx C mA ∧ (∀ f, RelO (fs.lookup f) (mA f)) ∧ PySem.Within mA (fs.map (·.1)) ∧ fs.length ≤ 1000 ∧ H dx = some (.own a) := by
  obtain ⟨d, z, ne, ob, mA, n, r, q⟩ := (show ObjOk P w H h a (.ins C dx fs) from hok a _ e)
  exact ⟨mA, ⟨ob, n, ne⟩, r, q, z, d⟩
end
structure Cls (K : PySem.W.Frag) (C : Addr) : Prop where
  pg : PySem.W.plainGet K C Str.empty = true
  hd : PySem.W.hasDictIn K C = true
  po : PySem.W.plainOver K C = true
  sa : PySem.W.findIn K (.ref C) "__setattr__" = some (some (.builtin "object.__setattr__"))
theorem Cls.get {K : PySem.W.Frag} {C : Addr} (c : Cls K C) (f : Str) : PySem.W.plainGet K C f = true := c.pg
def NoAttr (K : PySem.W.Frag) (C : Addr) (f : Str) : Prop := PySem.W.findIn K (.ref C) f = some none
theorem NoAttr.taker {K : PySem.W.Frag} {C : Addr} {f : Str} (n : NoAttr K C f) : PySem.W.takerIn K C f = some none := by
  unfold PySem.W.takerIn
  rw [show PySem.W.findIn K (.ref C) f = some none from n]
  rfl
structure Meth (K : PySem.W.Frag) (C : Addr) (m : Str) (f : Addr) : Prop where
  at_ : PySem.W.findIn K (.ref C) m = some (some (.ref f))
  fn : PySem.W.isFn K (.ref f) = true
  kp : PySem.W.keepIn K (.ref f) = true
section
variable {X : Cx} {pins : List (Addr × Obj)} {σ : St} {H : Hp} {s : Shared} {a C dx : Addr} {fs : List (Str × V)} {f : Str} {v : V} {A : Around} {E : Value → Shared → Prop}
theorem getattr_ok {b : Bool} {Q : Value → Shared → Prop} (I : Inv X pins σ H s) (e : H a = some (.ins C dx fs)) (c : Cls X.K C) (n : NoAttr X.K C f) (l : fs.lookup f = some v)
    (h : ∀ u s', Inv X pins σ H s' → RelV v u → Q u s') : wpAny (model X.prog X.w) A (getAttr (.ref a) f b) Q E s := by
  obtain ⟨mA, O, r, _, _, _⟩ := ins_get I.hok e
  obtain ⟨u, hu, ru⟩ := RelO.some_of (v := v) (o := mA f) (by rw [← l]; exact r f)
  exact get_map I.kIn O (c.get f) c.hd n hu (handed_of ru) (h u _ (I.tok _) ru)
theorem getmeth_ok {m : Str} {g : Addr} {pl : Sem Bool} {Q : Value × List Value → Shared → Prop} (I : Inv X pins σ H s) (e : H a = some (.ins C dx fs)) (c : Cls X.K C) (k : Meth X.K C m g) (l : fs.lookup m = none)
    (h : Q (.ref g, [.ref a]) s) : wpAny (model X.prog X.w) A (getMethod (.ref a) m pl) Q E s := by
  obtain ⟨mA, O, r, _, _, _⟩ := ins_get I.hok e
  have hn : mA m = none := RelO.none_of (by rw [← l]; exact r m)
  exact get_meth I.kIn O (c.get m) k.at_ k.fn hn h
theorem setattr_ok {y : V} {u : Value} {Q : Unit → Shared → Prop} (I : Inv X pins σ H s) (e : H a = some (.ins C dx fs)) (c : Cls X.K C) (n : NoAttr X.K C f) (hl : fs.length < 1000) (ry : RelV y u)
    (h : ∀ s', Inv X pins σ (upd H a (.ins C dx (putF f y fs))) s' → Q () s') : wpAny (model X.prog X.w) A (setAttr (.ref a) f u) Q E s := by
  obtain ⟨mA, O, r, wi, _, ho⟩ := ins_get I.hok e
  have hz : (fs.map (·.1)).length ≤ sizeLine := by rw [List.length_map, sizeLine_eq]; omega
  refine set_map I.kIn O c.sa c.po n.taker c.hd wi hz fun h' O' sb => h _ ?_
  have hd : ∃ o, h'.get? dx = some o := let ⟨o, _, _, e', _⟩ := O'.ns; ⟨o, e'⟩
  refine I.write (x := a) (e := dx) (by rw [e]; exact True.intro) (.inr ho) (fun b q hb z => (sb.2 b hb).trans z) hd ?_
  refine ⟨by rw [upd_ne O.ne]; exact ho, ?_, O.ne, O'.obj, _, O'.ns, fun g => ?_, fun g hg => ?_⟩
  · have := length_putF f y fs; omega
  · show RelO ((putF f y fs).lookup g) (if g = f then some u else mA g)
    rw [lookup_putF]
    by_cases q : g = f
    · rw [if_pos q, if_pos q]; exact ry
    · rw [if_neg q, if_neg q]; exact r g
  · by_cases q : g = f
    · rw [q]; exact (keys_putF f y fs).1
    · refine (keys_putF f y fs).2 g (wi g fun z => hg ?_)
      show (if g = f then some u else mA g) = none
      rw [if_neg q]; exact z
theorem Inv.made (I : Inv X pins σ H s) : Inv X pins σ (upd (upd H s.heap.objs.size (.own (s.heap.objs.size + 1))) (s.heap.objs.size + 1) (.ins C s.heap.objs.size []))
    { s with heap := (s.heap.push PySem.W.emptyDict).push (PySem.W.instObj C s.heap.objs.size) } := by
  have e1 : (s.heap.push PySem.W.emptyDict).get? s.heap.objs.size = some PySem.W.emptyDict := Heap.get?_push_size s.heap rfl
  have e2 : ((s.heap.push PySem.W.emptyDict).push (PySem.W.instObj C s.heap.objs.size)).get? (s.heap.objs.size + 1) = some (PySem.W.instObj C s.heap.objs.size) := by
    have := Heap.get?_push_size (s.heap.push PySem.W.emptyDict) (o := PySem.W.instObj C s.heap.objs.size) rfl
    rwa [Heap.size_push] at this
  have e3 : (s.heap.push PySem.W.emptyDict).Ns s.heap.objs.size (fun _ => none) := ⟨PySem.W.emptyDict, #[], _, e1, rfl, (fun e he => absurd he (by simp)), fun _ => rfl⟩
  have I1 := I.laid (a := s.heap.objs.size) (o := .own (s.heap.objs.size + 1)) (h' := s.heap.push PySem.W.emptyDict) (t' := s.toks) (fun b u q => Heap.get?_push_of_some _ q) (Nat.le_refl _) ⟨_, e1⟩
  refine I1.laid (a := s.heap.objs.size + 1) (o := .ins C s.heap.objs.size []) (t' := s.toks) (fun b u q => Heap.get?_push_of_some _ q) (Nat.le_of_eq (Heap.size_push _ _)) ?_
  have ne : s.heap.objs.size ≠ s.heap.objs.size + 1 := Nat.ne_of_lt (Nat.lt_succ_self _)
  refine ⟨by rw [upd_ne ne, upd_same], Nat.zero_le _, ne, e2, fun _ => none, (Heap.Ns1.of_empty e3).at fun o q => Heap.get?_push_of_some _ q, fun _ => True.intro, fun y hy => absurd rfl hy⟩
theorem attr_of {prog : Program} {w : World} {env : Env} {e : Expr} {f : Str} {pos : Pos} {s : Shared} {Q : Value → Shared → Prop} (hb : attributeBase e f env (eval e env) = eval e env)
    (h : wpAny (model prog w) A (eval e env) (fun o s₁ => wpAny (model prog w) A (getAttr o f true) Q E s₁) E s) : wpAny (model prog w) A (eval (.Attribute e f pos) env) Q E s :=
  Attribute_any_ h (by rw [arm_eval_Attribute, hb])
end
def tFld (K : PySem.W.Frag) (ta : TE) (f : Str) : TE := fun σ H Q => ta σ H fun x H1 => ∃ a C dx fs v, x = .ref a ∧ H1 a = some (.ins C dx fs) ∧ Cls K C ∧ NoAttr K C f ∧ fs.lookup f = some v ∧ Q v H1
def sFld (K : PySem.W.Frag) (ta tv : TE) (f : Str) : TS := fun D σ H => tv σ H fun y H1 => ta σ H1 fun x H2 => ∃ a C dx fs, x = .ref a ∧ H2 a = some (.ins C dx fs) ∧ Cls K C ∧ NoAttr K C f ∧ fs.length < 1000 ∧
  D.nx σ (upd H2 a (.ins C dx (putF f y fs)))
def InOp (X : Cx) (op : Operator) (rd : V → V → Hp → VK → Prop) : Prop :=
  ∀ (pins : List (Addr × Obj)) (s : Shared) (σ : St) (H : Hp) (x y : V) (u v : Value) (Q : VK), Inv X pins σ H s → RelV x u → RelV y v → rd x y H Q → wpAny (model X.prog X.w) X.A (inplaceOp op u v) (EP X pins σ Q) X.xe s
def sFldAug (K : PySem.W.Frag) (ta tv : TE) (rd : V → V → Hp → VK → Prop) (f : Str) : TS := fun D σ H => ta σ H fun x H1 => ∃ a C dx fs v, x = .ref a ∧ H1 a = some (.ins C dx fs) ∧ Cls K C ∧ NoAttr K C f ∧ fs.lookup f = some v ∧
  tv σ H1 fun y H2 => rd v y H2 fun z H3 => ∃ dx' fs', H3 a = some (.ins C dx' fs') ∧ fs'.length < 1000 ∧ D.nx σ (upd H3 a (.ins C dx' (putF f z fs')))
section
variable {X : Cx} {o e value : Expr} {f : Str} {pos pos' tpos : Pos} {ta tv : TE}
theorem pe_fld (he : PE X e ta) (hb : attributeBase e f X.env (eval e X.env) = eval e X.env) : PE X (.Attribute e f pos) (tFld X.K ta f) := by
  intro pins s σ H Q I h
  refine attr_of hb (thn (he pins s σ H _ I h) fun u s1 hqq => ?_)
  obtain ⟨x, H1, I1, rx, a, C, dx, fs, v, ex, ea, c, n, l, q⟩ := hqq
  subst ex
  obtain rfl : u = Value.ref a := rx
  exact getattr_ok I1 ea c n l fun u' s2 I2 ru => ⟨v, H1, I2, ru, q⟩
theorem ps_fld (ha : PE X o ta) (hv : PE X value tv) (hs : swapsWith value (some (.Attribute o f pos')) pos.line X.env = pure false) : PS X (.Assign [.Attribute o f pos'] value pos) (sFld X.K ta tv f) := by
  intro pins s σ H D I h
  refine plainObj_wpAny_Assign_Attribute (thn (hv pins s σ H _ I h) fun u s1 ⟨y, H1, I1, ry, q⟩ => thn (ha pins s1 σ H1 _ I1 q) fun ov s2 hqq => ?_) hs
  obtain ⟨x, H2, I2, rx, a, C, dx, fs, ex, ea, c, n, l, q2⟩ := hqq
  subst ex
  obtain rfl : ov = Value.ref a := rx
  exact setattr_ok I2 ea c n l ry fun s3 I3 => ⟨σ, _, I3, q2⟩
theorem ps_fldaug {op : Operator} {rd : V → V → Hp → VK → Prop} (ha : PE X o ta) (hv : PE X value tv) (hop : InOp X op rd) : PS X (.AugAssign (.Attribute o f tpos) op value pos) (sFldAug X.K ta tv rd f) := by
  intro pins s σ H D I h
  refine wpAny_AugAssign_AttributeAny (thn (ha pins s σ H _ I h) fun ov s1 hqq => ?_)
  obtain ⟨x, H1, I1, rx, a, C, dx, fs, v, ex, ea, c, n, l, q⟩ := hqq
  subst ex
  obtain rfl : ov = Value.ref a := rx
  refine getattr_ok I1 ea c n l fun u s2 I2 ru => thn (hv pins s2 σ H1 _ I2 q) fun w3 s3 ⟨y, H2, I3, ry, q3⟩ => thn (hop pins s3 σ H2 v y u w3 _ I3 ru ry q3) fun w4 s4 hqq => ?_
  obtain ⟨z, H3, I4, rz, dx', fs', ea', l', q4⟩ := hqq
  exact setattr_ok I4 ea' c n l' rz fun s5 I5 => ⟨σ, _, I5, q4⟩
def rAdd : V → V → Hp → VK → Prop := fun x y H Q => ∃ i j, x = .int i ∧ y = .int j ∧ Q (.int (i + j)) H
theorem in_add : InOp X .Add rAdd := by
  rintro pins s σ H x y u v Q I rx ry ⟨i, j, rfl, rfl, q⟩
  obtain ⟨t, rfl⟩ := (show ∃ t, u = Value.int i t from rx)
  obtain ⟨t', rfl⟩ := (show ∃ t', v = Value.int j t' from ry)
  exact PyProof.Rows.iadd_int ⟨.int (i + j), H, I.tok _, ⟨_, rfl⟩, q⟩
end
section
variable {X : Cx} {pins : List (Addr × Obj)} {σ : St} {H : Hp} {s : Shared} {A : Around} {E : Value → Shared → Prop} {Q : Value → Shared → Prop} {c : Value} {b : Bool}
end
end L2
namespace L2
open PySem PySem.Spec PyProof.Rows
structure Room (k : Nat) (A : Around) : Prop where
  hd : A.handled = none
  dp : A.depth + 3 * k + 5 < recursionLimit
  un : A.units + 16 * k + 200 < cLine
theorem Room.mono {j k : Nat} {A : Around} (r : Room k A) (h : j ≤ k) : Room j A := ⟨r.hd, by have := r.dp; omega, by have := r.un; omega⟩
theorem Room.deeper {k : Nat} {A : Around} (r : Room (k + 1) A) (env : Env) : Room k (A.deeper env) :=
  ⟨r.hd, by have := r.dp; show A.depth + 1 + 3 * k + 5 < _; omega, by have := r.un; show A.units + 3 + 16 * k + 200 < _; omega⟩
theorem make_depth {A : Around} {C : Addr} {us : List Value} {kw : List (Str × Value)} : (A.under (.builtin "type.__call__" ⟨.ref C :: us, kw⟩)).depth = A.depth + 1 := by
  first | rfl | simp [Around.under, Code.weight, Code.isCreation, Code.isGuard, Code.isCaller, Code.frames, Code.isFrame, guardIds]
theorem make_units {A : Around} {C : Addr} {us : List Value} {kw : List (Str × Value)} : (A.under (.builtin "type.__call__" ⟨.ref C :: us, kw⟩)).units = A.units + 1 := by
  first | rfl | simp [Around.under, Code.cUnits, Code.frames, Code.isFrame]
theorem Room.make {k : Nat} {A : Around} (r : Room (k + 1) A) (C : Addr) (us : List Value) (kw : List (Str × Value)) : Room k (A.under (.builtin "type.__call__" ⟨.ref C :: us, kw⟩)) :=
  ⟨r.hd, by have := r.dp; rw [make_depth]; omega, by have := r.un; rw [make_units]; omega⟩
theorem Room.depth {k : Nat} {A : Around} (r : Room k A) : A.depth < recursionLimit := by have := r.dp; omega
theorem Room.units0 {k : Nat} {A : Around} (r : Room k A) : A.units < cLine := by have := r.un; omega
def tNil : TA := fun _ H Q => Q [] H
def tCons (ta : TE) (tr : TA) : TA := fun σ H Q => ta σ H fun x H1 => tr σ H1 fun xs H2 => Q (x :: xs) H2
section
variable {X : Cx} {e : Expr} {es : List Expr} {te : TE} {t : TA} {pos : Pos}
theorem pa_nil : PA X [] tNil := fun _ _ _ _ H Q I h => Calls.spliced_nil ⟨[], H, I, .nil, h⟩
theorem pa_cons (ha : PE X e te) (hr : PA X es t) (hs : starEach (e :: es) X.env = (false, eval e X.env) :: starEach es X.env := by rfl) : PA X (e :: es) (tCons te t) := by
  intro pos pins s σ H Q I h
  rw [hs]
  show wpAny _ _ (spliced ((false, eval e X.env) :: backTo pos (starEach es X.env))) _ _ s
  refine Calls.spliced_cons (thn (ha pins s σ H _ I h) fun u s1 hqq => ?_)
  obtain ⟨x, H1, I1, r1, q1⟩ := hqq
  exact thn (hr pos pins s1 σ H1 _ I1 q1) fun us s2 ⟨xs, H2, I2, r2, q2⟩ => ⟨x :: xs, H2, I2, .cons r1 r2, q2⟩
def tTup (t : TA) : TE := fun σ H Q => t σ H fun xs H1 => xs.length ≤ sizeLine ∧ ∀ p, H1 p = none → Q (.ref p) (upd H1 p (.tup xs))
def tLst (t : TA) : TE := fun σ H Q => t σ H fun xs H1 => xs.length ≤ sizeLine ∧ ∀ p, H1 p = none → Q (.ref p) (upd H1 p (.lst xs))
theorem pe_tup {x1} (h : PA X es t) : PE X (.Tuple es x1 pos) (tTup t) := by
  intro pins s σ H Q I hq
  refine wpAny_Tuple_spliced (thn (h pos pins s σ H _ I hq) fun us s1 ⟨xs, H1, I1, r, z, q⟩ => ⟨by rw [← r.length]; exact z, ?_⟩)
  have hf : H1 s1.heap.objs.size = none := I1.hok.fresh (Nat.le_refl _)
  refine ⟨.ref s1.heap.objs.size, upd H1 s1.heap.objs.size (.tup xs), I1.laid (t' := s1.toks) (fun b u e => Heap.get?_push_of_some _ e) (Nat.le_refl _) ?_, rfl, q _ hf⟩
  exact ⟨z, us, r, ⟨_, Heap.get?_push_size _ rfl, rfl, _, rfl⟩⟩
theorem pe_lst (h : PA X es t) : PE X (.List es pos) (tLst t) := by
  intro pins s σ H Q I hq
  refine wpAny_List_spliced (thn (h pos pins s σ H _ I hq) fun us s1 ⟨xs, H1, I1, r, z, q⟩ => ⟨by rw [← r.length]; exact z, ?_⟩)
  have hf : H1 s1.heap.objs.size = none := I1.hok.fresh (Nat.le_refl _)
  refine ⟨.ref s1.heap.objs.size, upd H1 s1.heap.objs.size (.lst xs), I1.laid (t' := s1.toks) (fun b u e => Heap.get?_push_of_some _ e) (Nat.le_refl _) ?_, rfl, q _ hf⟩
  exact ⟨z, us, 0, r, Heap.get?_push_size _ rfl⟩
end
abbrev Sp := List V → Hp → VK → XK → Prop
abbrev CXT := List Env → Hp → Shared → XK → Value → Shared → Prop
structure Env0 (P : Program) (w : World) (K : PySem.W.Frag) (mg : Str → Option Value) (base : Heap) (A : Around) (outer : List Env) (s : Shared) (H : Hp) : Prop where
  frames : A.frames = some outer
  mod : Mod K mg base
  bs : ∀ b o, base.get? b = some o → s.heap.get? b = some o ∧ H b = none
  bsz : base.objs.size ≤ s.heap.objs.size
  funs : s.heap.FunFrames base outer
  frf : ∀ b ∈ frs outer, H b = none
  hok : HOk P w H s.heap
  bare : AllBare s.gens
def CE (outer : List Env) (P : Program) (w : World) (H : Hp) (s : Shared) (Q : VK) (u : Value) (s' : Shared) : Prop :=
  ∃ v H', s'.os = s.os ∧ AllBare s'.gens ∧ Un (frs outer) [] H H' s.heap s'.heap ∧ HOk P w H' s'.heap ∧ RelV v u ∧ Q v H'
def CR (CX : CXT) (outer : List Env) (P : Program) (w : World) (H : Hp) (s : Shared) (Q : VK) (E : XK) (r : Result) (s' : Shared) : Prop :=
  match r with
  | .ok (.ret u) => CE outer P w H s Q u s'
  | .ok _ => False
  | .error e => CX outer H s E e s'
structure FnOk (P : Program) (w : World) (K : PySem.W.Frag) (mg : Str → Option Value) (base : Heap) (CX : CXT) (k : Nat) (f : Addr) (fd : FuncData) (ps : List Str) (sp : Sp) : Prop where
  len : ∀ vs H Q E, sp vs H Q E → vs.length = ps.length
  run : ∀ (A : Around) (outer : List Env) (s : Shared) (H : Hp) (args : Args) (us : List Value) (vs : List V) (Q : VK) (E : XK), Room k A → Env0 P w K mg base A outer s H → BindsTo s fd args (ps.zip us) → Vals vs us → sp vs H Q E →
    codeAny (model P w) A (.call (.ref f) args) (CR CX outer P w H s Q E) s
theorem Env0.make {P : Program} {w : World} {K : PySem.W.Frag} {mg : Str → Option Value} {base : Heap} {A : Around} {outer : List Env} {s : Shared} {H : Hp} (e : Env0 P w K mg base A outer s H) (C : Addr) (us : List Value) (kw : List (Str × Value)) :
    Env0 P w K mg base (A.under (.builtin "type.__call__" ⟨.ref C :: us, kw⟩)) outer s H := ⟨by first | exact e.frames | (simpa [Around.under, Code.envs, Code.isFrame, pushEnvs] using e.frames), e.mod, e.bs, e.bsz, e.funs, e.frf, e.hok, e.bare⟩
section
variable {X : Cx} {pins : List (Addr × Obj)} {σ : St} {H : Hp} {s s' : Shared}
theorem Inv.env0 (I : Inv X pins σ H s) : Env0 X.prog X.w X.K X.mg X.base X.A X.stack s H :=
  ⟨I.ok.frames, I.ok.mod, I.bs, Nat.le_trans I.ok.bsz I.sz, I.stack, I.stkFree, I.hok, I.bare⟩
theorem Inv.after {Q : VK} {u : Value} (I : Inv X pins σ H s) (h : CE X.stack X.prog X.w H s Q u s') : EP X pins σ Q u s' := by
  obtain ⟨v, H', os, bare, un, hok, r, q⟩ := h
  obtain ⟨hh, g, d, t, os'⟩ := s'
  obtain rfl : os' = s.os := os
  exact ⟨v, H', I.call (h' := hh) (g' := g) (d' := d) (t' := t) (ch := []) un hok bare (fun b z => absurd z (by simp)), r, q⟩
end
def tCall (sp : Sp) (dvs : List V) (E : XK) (t : TA) : TE := fun σ H Q => t σ H fun vs H1 => sp (vs ++ dvs) H1 Q E
def tMeth (C : Addr) (m : Str) (sp : Sp) (dvs : List V) (E : XK) (ta : TE) (t : TA) : TE := fun σ H Q => ta σ H fun x H1 => ∃ a dx fs, x = .ref a ∧ H1 a = some (.ins C dx fs) ∧ fs.lookup m = none ∧
  t σ H1 fun vs H2 => sp (x :: (vs ++ dvs)) H2 Q E
def tMake (C : Addr) (sp : Sp) (dvs : List V) (E : XK) (t : TA) : TE := fun σ H Q => t σ H fun vs H1 => ∀ x dx, H1 x = none → H1 dx = none → dx ≠ x →
  sp (.ref x :: (vs ++ dvs)) (upd (upd H1 dx (.own x)) x (.ins C dx [])) (fun v H2 => v = .non ∧ Q (.ref x) H2) E
def Binds (K : PySem.W.Frag) (fd : FuncData) (ps : List Str) (ds : List Value) : Prop :=
  ∀ (s : Shared) (us : List Value), K.In s.heap → (us ++ ds).length = ps.length → BindsTo s fd ⟨us, []⟩ (ps.zip (us ++ ds))
theorem Binds.all {K : PySem.W.Frag} {fd : FuncData} {ps : List Str} (h : ∀ us : List Value, us.length = ps.length → bindArgs fd ⟨us, []⟩ = pure (ps.zip us)) : Binds K fd ps [] := fun s us _ hl => by
  rw [List.append_nil] at hl ⊢
  exact .of_eq (h us hl)
def Passes (CX : CXT) (X : Cx) (E : XK) : Prop := ∀ (pins : List (Addr × Obj)) (σ : St) (H : Hp) (s : Shared) (e : Value) (s' : Shared), Inv X pins σ H s → CX X.stack H s E e s' → X.xe e s'
section
variable {X : Cx} {CX : CXT} {k : Nat} {f C : Addr} {fd : FuncData} {ps : List Str} {sp : Sp} {dvs : List V} {ds : List Value} {E : XK} {x m : Str} {p pos apos : Pos} {e o : Expr} {es : List Expr} {ta : TE} {t : TA}
theorem run_fn {pins : List (Addr × Obj)} {σ : St} {H : Hp} {s : Shared} {Q : VK} {us : List Value} {vs : List V} (F : FnOk X.prog X.w X.K X.mg X.base CX k f fd ps sp) (hr : Room k X.A) (hb : Binds X.K fd ps ds) (hd : Vals dvs ds) (hx : Passes CX X E)
    (I : Inv X pins σ H s) (r : Vals vs us) (h : sp (vs ++ dvs) H Q E) : wpAny (model X.prog X.w) X.A (call (.ref f) us) (EP X pins σ Q) X.xe s := by
  have r2 : Vals (vs ++ dvs) (us ++ ds) := r.append hd
  have hl : (us ++ ds).length = ps.length := by rw [← r2.length]; exact F.len _ _ _ _ h
  refine wpAny_call (codeAny_mono (F.run X.A X.stack s H ⟨us, []⟩ (us ++ ds) (vs ++ dvs) Q E hr I.env0 (hb s us I.kIn hl) r2 h) fun r s' hq => ?_)
  cases r with
  | error e => exact hx pins σ H s e s' I hq
  | ok fl =>
    cases fl with
    | ret u => exact I.after hq
    | next => exact False.elim hq
    | brk => exact False.elim hq
    | cont => exact False.elim hq
theorem pe_call (F : FnOk X.prog X.w X.K X.mg X.base CX k f fd ps sp) (hr : Room k X.A) (hg : Gl X x) (hm : X.mg x = some (.ref f)) (hk : PySem.W.keepIn X.K (.ref f) = true) (hb : Binds X.K fd ps ds) (hd : Vals dvs ds) (hx : Passes CX X E)
    (ha : PA X (e :: es) t) (hdb : (x == ("__debug__" : Str)) = false := by decide) (he : starEach (e :: es) X.env = (false, eval e X.env) :: starEach es X.env := by rfl) (hpl : (backTo pos (starEach es X.env)).any (·.1) = false := by rfl) :
    PE X (.Call (.Name x p) (e :: es) [] pos) (tCall sp dvs E t) := by
  intro pins s σ H Q I h
  refine wpAny_Call_Name_kw (ld_glob I hg hm ?_ hdb)
  refine PySem.W.callWith_K (h₀ := X.base) I.ok.mod.kin hk (thn (ha pos pins s σ H _ I h) fun us s1 ⟨vs, H1, I1, r, q⟩ => ⟨I1.kIn, ?_⟩) he hpl
  exact run_fn F hr hb hd hx I1 r q
theorem pe_call0 (F : FnOk X.prog X.w X.K X.mg X.base CX k f fd ps sp) (hr : Room k X.A) (hg : Gl X x) (hm : X.mg x = some (.ref f)) (hk : PySem.W.keepIn X.K (.ref f) = true) (hb : Binds X.K fd ps ds) (hd : Vals dvs ds) (hx : Passes CX X E)
    (hdb : (x == ("__debug__" : Str)) = false := by decide) : PE X (.Call (.Name x p) [] [] pos) (tCall sp dvs E tNil) := by
  intro pins s σ H Q I h
  refine wpAny_Call_Name_kw (ld_glob I hg hm ?_ hdb)
  exact PySem.W.callWith_K0 I.kIn hk (run_fn (us := []) F hr hb hd hx I .nil h)
theorem pe_meth {pl : Sem Bool} (he : PE X o ta) (c : Cls X.K C) (hm : Meth X.K C m f) (F : FnOk X.prog X.w X.K X.mg X.base CX k f fd ps sp) (hr : Room k X.A) (hb : Binds X.K fd ps ds) (hd : Vals dvs ds) (hx : Passes CX X E) (ha : PA X (e :: es) t)
    (hst : starEach (e :: es) X.env = (false, eval e X.env) :: starEach es X.env := by rfl) (hpl : (backTo pos (starEach es X.env)).any (·.1) = false := by rfl)
    (ht : eval (.Call (.Attribute o m apos) (e :: es) [] pos) X.env = (do
      let ov ← eval o X.env
      standAt apos.atName
      let (f, first) ← holding [ov] (getMethod ov m pl)
      callWith pos f first (backTo pos (starEach (e :: es) X.env)) (backToKw pos (keywordEach [] X.env))) := by rfl) :
    PE X (.Call (.Attribute o m apos) (e :: es) [] pos) (tMeth C m sp dvs E ta t) := by
  intro pins s σ H Q I h
  refine PySem.W.methodCall_KW (pl := pl) (thn (he pins s σ H _ I h) fun u s1 hqq => ?_) ht
  obtain ⟨x, H1, I1, rx, a, dx, fs, ex, ea, l, q⟩ := hqq
  subst ex
  obtain rfl : u = Value.ref a := rx
  refine getmeth_ok I1 ea c hm l ?_
  refine PySem.W.callWith_K (first := [.ref a]) (h₀ := X.base) I.ok.mod.kin hm.kp (thn (ha pos pins s1 σ H1 _ I1 q) fun us s2 ⟨vs, H2, I2, r, q2⟩ => ⟨I2.kIn, ?_⟩) hst hpl
  exact run_fn (us := .ref a :: us) (vs := .ref a :: vs) F hr hb hd hx I2 (.cons rfl r) q2
theorem pe_meth0 {pl : Sem Bool} (he : PE X o ta) (c : Cls X.K C) (hm : Meth X.K C m f) (F : FnOk X.prog X.w X.K X.mg X.base CX k f fd ps sp) (hr : Room k X.A) (hb : Binds X.K fd ps ds) (hd : Vals dvs ds) (hx : Passes CX X E)
    (ht : eval (.Call (.Attribute o m apos) [] [] pos) X.env = (do
      let ov ← eval o X.env
      standAt apos.atName
      let (f, first) ← holding [ov] (getMethod ov m pl)
      callWith pos f first (backTo pos (starEach [] X.env)) (backToKw pos (keywordEach [] X.env))) := by rfl) :
    PE X (.Call (.Attribute o m apos) [] [] pos) (tMeth C m sp dvs E ta tNil) := by
  intro pins s σ H Q I h
  refine PySem.W.methodCall_KW (pl := pl) (thn (he pins s σ H _ I h) fun u s1 hqq => ?_) ht
  obtain ⟨x, H1, I1, rx, a, dx, fs, ex, ea, l, q⟩ := hqq
  subst ex
  obtain rfl : u = Value.ref a := rx
  refine getmeth_ok I1 ea c hm l ?_
  exact PySem.W.callWith_K0 (first := [.ref a]) I1.kIn hm.kp (run_fn (us := [.ref a]) (vs := [.ref a]) F hr hb hd hx I1 (.cons rfl .nil) q)
structure Mk (K : PySem.W.Frag) (C f : Addr) : Prop where
  makes : PySem.W.makesIn K C = true
  init : PySem.W.findIn K (.ref C) "__init__" = some (some (.ref f))
  fn : PySem.W.isFn K (.ref f) = true
  kp : PySem.W.keepIn K (.ref C) = true
theorem run_make {pins : List (Addr × Obj)} {σ : St} {H : Hp} {s : Shared} {Q : VK} {us : List Value} {vs : List V} (M : Mk X.K C f) (F : FnOk X.prog X.w X.K X.mg X.base CX k f fd ps sp) (hr : Room (k + 1) X.A) (hb : Binds X.K fd ps ds) (hd : Vals dvs ds)
    (hx : Passes CX X E) (I : Inv X pins σ H s) (r : Vals vs us)
    (h : ∀ x dx, H x = none → H dx = none → dx ≠ x → sp (.ref x :: (vs ++ dvs)) (upd (upd H dx (.own x)) x (.ins C dx [])) (fun v H2 => v = .non ∧ Q (.ref x) H2) E) :
    wpAny (model X.prog X.w) X.A (call (.ref C) us) (EP X pins σ Q) X.xe s := by
  have hq := h (s.heap.objs.size + 1) s.heap.objs.size (I.hok.fresh (Nat.le_succ _)) (I.hok.fresh (Nat.le_refl _)) (Nat.ne_of_lt (Nat.lt_succ_self _))
  have I2 := Inv.made (C := C) I
  have r2 : Vals (V.ref (s.heap.objs.size + 1) :: (vs ++ dvs)) (Value.ref (s.heap.objs.size + 1) :: (us ++ ds)) := .cons rfl (r.append hd)
  have hl : (Value.ref (s.heap.objs.size + 1) :: us ++ ds).length = ps.length := by
    have e := r2.length
    rw [F.len _ _ _ _ hq] at e
    exact e.symm
  refine wpAny_call (make_map (f := f) I.kIn M.makes M.init (beq_iff_eq.mp M.fn) (codeAny_mono (F.run _ X.stack _ _ ⟨Value.ref (s.heap.objs.size + 1) :: us, []⟩ (Value.ref (s.heap.objs.size + 1) :: (us ++ ds)) _ _ E (hr.make C us [])
    (I2.env0.make C us []) (hb _ (Value.ref (s.heap.objs.size + 1) :: us) I2.kIn hl) r2 hq) fun r s' hq' => ?_))
  cases r with
  | error e => exact hx pins σ _ _ e s' I2 hq'
  | ok fl =>
    cases fl with
    | ret u =>
      obtain ⟨v, H', I3, rv, ev, q3⟩ := I2.after hq'
      subst ev
      exact ⟨rv, ⟨V.ref (s.heap.objs.size + 1), H', I3, rfl, q3⟩⟩
    | next => exact False.elim hq'
    | brk => exact False.elim hq'
    | cont => exact False.elim hq'
theorem pe_make (M : Mk X.K C f) (F : FnOk X.prog X.w X.K X.mg X.base CX k f fd ps sp) (hr : Room (k + 1) X.A) (hg : Gl X x) (hm : X.mg x = some (.ref C)) (hb : Binds X.K fd ps ds) (hd : Vals dvs ds) (hx : Passes CX X E)
    (ha : PA X (e :: es) t) (hdb : (x == ("__debug__" : Str)) = false := by decide) (he : starEach (e :: es) X.env = (false, eval e X.env) :: starEach es X.env := by rfl) (hpl : (backTo pos (starEach es X.env)).any (·.1) = false := by rfl) :
    PE X (.Call (.Name x p) (e :: es) [] pos) (tMake C sp dvs E t) := by
  intro pins s σ H Q I h
  refine wpAny_Call_Name_kw (ld_glob I hg hm ?_ hdb)
  refine PySem.W.callWith_K (h₀ := X.base) I.ok.mod.kin M.kp (thn (ha pos pins s σ H _ I h) fun us s1 ⟨vs, H1, I1, r, q⟩ => ⟨I1.kIn, ?_⟩) he hpl
  exact run_make M F hr hb hd hx I1 r q
end
section
variable {X : Cx} {CX : CXT} {k : Nat} {f C : Addr} {fd : FuncData} {ps ks : List Str} {sp : Sp} {E : XK} {x m : Str} {p pos apos kpos : Pos} {e o : Expr} {es : List Expr} {kws : List Keyword} {te ta : TE} {t tk : TA} {nm : Option Str}
variable {g : List Value → List Value → List Value} {gV : List V → List V → List V}
end
structure FnScope (N P : List Str) (sc : Scope) : Prop where
  kind : sc.kind = .function
  co : sc.isCoroutine = false
  gen : sc.isGenerator = false
  nd : N.Nodup
  pre : N.take P.length = P
  par : ∀ x ∈ P, sc.names.lookup x = some .local ∨ sc.names.lookup x = some .cell
  nofree : ∀ y ∈ sc.names, y.2 ≠ .free
theorem bindL_out {kindOf : Str → Option NameKind} {x : Str} : ∀ {binds : List (Str × Value)} {m : Str → Option Value}, (∀ v, (x, v) ∉ binds) → bindL kindOf binds m x = m x
  | [], _, _ => rfl
  | (n, v) :: r, m, h => by
    unfold bindL
    rw [bindL_out fun w hw => h w (List.mem_cons_of_mem _ hw)]
    split
    · have : x ≠ n := by rintro rfl; exact h v List.mem_cons_self
      simp [this]
    · rfl
theorem bindC_out {kindOf : Str → Option NameKind} {x : Str} : ∀ {binds : List (Str × Value)} {m : Str → Option Value}, (∀ v, (x, v) ∉ binds) → bindC kindOf binds m x = m x
  | [], _, _ => rfl
  | (n, v) :: r, m, h => by
    unfold bindC
    rw [bindC_out fun w hw => h w (List.mem_cons_of_mem _ hw)]
    split
    · rfl
    · have : x ≠ n := by rintro rfl; exact h v List.mem_cons_self
      simp [this]
theorem bindL_get {kindOf : Str → Option NameKind} {x : Str} {v : Value} : ∀ {P : List Str} {vs : List Value} {i : Nat} {m : Str → Option Value}, P.Nodup → P[i]? = some x → vs[i]? = some v → kindOf x = some .local →
    bindL kindOf (P.zip vs) m x = some v
  | [], _, _, _, _, h, _, _ => by simp at h
  | _ :: _, [], _, _, _, _, h, _ => by simp at h
  | p :: P, w :: vs, 0, m, nd, h1, h2, hk => by
    simp at h1 h2; subst h1; subst h2
    show bindL kindOf ((p, w) :: P.zip vs) m p = _
    unfold bindL
    rw [bindL_out fun v hv => (List.nodup_cons.mp nd).1 (List.of_mem_zip hv).1, if_pos hk]
    simp
  | p :: P, w :: vs, i + 1, m, nd, h1, h2, hk => by
    show bindL kindOf ((p, w) :: P.zip vs) m x = _
    unfold bindL
    exact bindL_get (i := i) (List.nodup_cons.mp nd).2 (by simpa using h1) (by simpa using h2) hk
theorem bindC_get {kindOf : Str → Option NameKind} {x : Str} {v : Value} : ∀ {P : List Str} {vs : List Value} {i : Nat} {m : Str → Option Value}, P.Nodup → P[i]? = some x → vs[i]? = some v → kindOf x ≠ some .local →
    bindC kindOf (P.zip vs) m x = some v
  | [], _, _, _, _, h, _, _ => by simp at h
  | _ :: _, [], _, _, _, _, h, _ => by simp at h
  | p :: P, w :: vs, 0, m, nd, h1, h2, hk => by
    simp at h1 h2; subst h1; subst h2
    show bindC kindOf ((p, w) :: P.zip vs) m p = _
    unfold bindC
    rw [bindC_out fun v hv => (List.nodup_cons.mp nd).1 (List.of_mem_zip hv).1, if_neg hk]
    simp
  | p :: P, w :: vs, i + 1, m, nd, h1, h2, hk => by
    show bindC kindOf ((p, w) :: P.zip vs) m x = _
    unfold bindC
    exact bindC_get (i := i) (List.nodup_cons.mp nd).2 (by simpa using h1) (by simpa using h2) hk
def start (N : List Str) (vs : List V) : St := vs.map some ++ List.replicate (N.length - vs.length) none
def cxOf (CX : CXT) (P : Program) (w : World) (K : PySem.W.Frag) (mg : Str → Option Value) (base : Heap) (N : List Str) (qual : Str) (scope : Scope) (f : Addr) (cd : Value) (A : Around) (outer : List Env) (s : Shared) (H : Hp) (E : XK) : Cx where
  prog := P
  w := w
  K := K
  mg := mg
  base := base
  A := A.deeper (envOfC qual scope s.heap.objs.size f cd)
  N := N
  s₀ := s
  H₀ := H
  env := envOfC qual scope s.heap.objs.size f cd
  outer := outer
  stack := envOfC qual scope s.heap.objs.size f cd :: outer
  ex := []
  calm := true
  fn := fun _ => true
  pn := []
  xe := fun e s' => wpAny (model P w) (A.deeper (envOfC qual scope s.heap.objs.size f cd)) (leaving (envOfC qual scope s.heap.objs.size f cd) e) (fun _ s'' => CX outer H s E e s'') (fun e' s'' => CX outer H s E e' s'') s'
theorem cell_has {sc : Scope} {n : Nat} {x : Str} (h : sc.names.lookup x = some .cell) : ∃ c, (cellsFrom n sc.names []).lookup x = some c := by
  have q := PySem.W.cellsFrom_some sc.names n [] (.inl h)
  exact Option.isSome_iff_exists.mp q
theorem inv_start {CX : CXT} {P : Program} {w : World} {K : PySem.W.Frag} {mg : Str → Option Value} {base : Heap} {N ps : List Str} {qual : Str} {scope : Scope} {f : Addr} {cd : Value} {A : Around} {outer : List Env} {s s1 : Shared} {H : Hp} {E : XK} {us : List Value} {vs : List V}
    (S : FnScope N ps scope) (hd : A.handled = none) (e0 : Env0 P w K mg base A outer s H) (hl : vs.length = ps.length) (r : Vals vs us)
    (x : InCallC s s.heap.objs.size (bindL (envOfC qual scope s.heap.objs.size f cd).kindOf (ps.zip us) fun _ => none) (cellsFrom (s.heap.objs.size + 1) scope.names []) (bindC (envOfC qual scope s.heap.objs.size f cd).kindOf (ps.zip us) fun _ => none) s1) :
    Inv (cxOf CX P w K mg base N qual scope f cd A outer s H E) [] (start N vs) H s1 := by
  have hpl : ps.length ≤ N.length := by have := congrArg List.length S.pre; rw [List.length_take] at this; omega
  obtain ⟨h1, tk, rfl, hk⟩ := x.done
  have noA : ∀ b : Addr, b ∉ (cxOf CX P w K mg base N qual scope f cd A outer s H E).ex := fun b z => absurd (show b ∈ ([] : List Addr) from z) (by simp)
  refine ⟨⟨e0.mod, S.kind, rfl, rfl, Nat.le_refl _, fun y z c h1 h2 => ?_, fun y hy => ?_, fun y c _ h => ?_, fun _ => hd, Around.frames_deeper e0.frames, .inr ⟨rfl, rfl⟩, fun b z => absurd z (noA b), e0.bs, e0.bsz, fun b _ _ => noA b, fun b z => absurd z (noA b), e0.funs, e0.frf⟩,
    rfl, e0.bare, Un.kept hk, ⟨_, x.toInCall.ns, fun i y v h1 h2 h3 => ?_⟩, fun y c h => ⟨_, x.cell y c h⟩, e0.hok.fresh (Nat.le_refl _), fun y c h => ?_, fun p hp => absurd (show p ∈ ([] : List (Addr × Obj)) from hp) (by simp), e0.hok.kept hk, ?_⟩
  · exact name_of_addr x.apart (PySem.mem_of_lookup h1) (PySem.mem_of_lookup h2)
  · have hy : scope.names.lookup y = some .cell ∨ scope.names.lookup y = some .free := hy
    rcases hy with hy | hy
    · exact cell_has hy
    · exact absurd rfl (S.nofree _ (PySem.mem_of_lookup hy))
  · exact Nat.le_of_lt (x.above y c (PySem.mem_of_lookup h))
  · have hi : i < vs.length := by
      unfold start at h2
      by_cases hi : i < vs.length
      · exact hi
      · rw [List.getElem?_append_right (by simpa using hi)] at h2
        rw [List.getElem?_replicate] at h2
        split at h2 <;> cases h2
    have ha : vs[i]? = some v := by
      unfold start at h2
      rw [List.getElem?_append_left (by simpa using hi), List.getElem?_map] at h2
      cases e : vs[i]? with
      | none => rw [e] at h2; cases h2
      | some a => rw [e] at h2; cases h2; rfl
    obtain ⟨u, hu, rv⟩ := r.get ha
    have hp : ps[i]? = some y := by
      rw [← S.pre, List.getElem?_take_of_lt (by omega)]; exact h1
    have ndP : ps.Nodup := by rw [← S.pre]; exact S.nd.sublist (List.take_sublist _ _)
    refine ⟨u, rv, ?_⟩
    rcases S.par y (List.mem_of_getElem? hp) with k | k
    · exact .inl ⟨k, bindL_get ndP hp hu k⟩
    · obtain ⟨c, e⟩ := cell_has (n := s.heap.objs.size + 1) k
      refine .inr ⟨.inl k, c, e, ?_⟩
      have q := x.cell y c e
      rw [bindC_get ndP hp hu (by show scope.names.lookup y ≠ _; rw [k]; decide)] at q
      exact q
  · exact e0.hok.fresh (Nat.le_of_lt (x.above y c (PySem.mem_of_lookup h)))
  · unfold start
    show _ = N.length
    rw [List.length_append, List.length_map, List.length_replicate]
    omega
theorem fn_of {CX : CXT} {P : Program} {w : World} {K : PySem.W.Frag} {mg : Str → Option Value} {base : Heap} {k : Nat} {f : Addr} {name qual : Str} {params : Arguments} {body : List Stmt} {scope : Scope} {dV kV doc pm cdv ct oc : Value} {an od : Option Addr}
    {osl : Array (Option Value)} {N ps : List Str} {sp : Sp} (lk : K.lookup f = some ⟨oc, od, .func (PySem.W.fnOf name qual params body scope dV kV doc pm an cdv ct), osl⟩) (hcd : PySem.W.codeIn K cdv qual = true) (S : FnScope N ps scope)
    (len : ∀ vs H Q E, sp vs H Q E → vs.length = ps.length)
    (hbody : ∀ (A : Around) (outer : List Env) (s : Shared) (H : Hp) (vs : List V) (Q : VK) (E : XK), Room k (A.deeper (envOfC qual scope s.heap.objs.size f cdv)) → sp vs H Q E →
      ∃ t, PSs (cxOf CX P w K mg base N qual scope f cdv A outer s H E) body t ∧ t { nx := fun _ H' => Q .non H', rt := Q } (start N vs) H) :
    FnOk P w K mg base CX (k + 1) f (PySem.W.fnOf name qual params body scope dV kV doc pm an cdv ct) ps sp := by
  refine ⟨len, fun A outer s H args us vs Q E hr e0 hb r hsp => ?_⟩
  have hl := len _ _ _ _ hsp
  have KX : K.In s.heap := e0.mod.kin.keeps fun b o e => (e0.bs b o e).1
  have lim : s.heap.NoLimit := e0.mod.nolimit.keeps fun b o e => (e0.bs b o e).1
  have hkind : ∀ y ∈ ps.zip us, scope.names.lookup y.1 = some .local ∨ (scope.names.lookup y.1 = some .cell ∧ ((cellsFrom (s.heap.objs.size + 1) scope.names []).lookup y.1).isSome = true) := fun ⟨n, v⟩ hy => by
    rcases S.par n (List.of_mem_zip hy).1 with q | q
    · exact .inl q
    · exact .inr ⟨q, PySem.W.cellsFrom_some _ _ _ (.inl q)⟩
  refine codeAny_call_function hr.depth (KX _ _ lk) rfl S.co S.gen rfl (PySem.W.codeRec_of KX hcd) (hb _ _ _ _ ?_)
  refine wpAny_newFunctionEnv_cells S.kind hkind fun env he s1 x => ?_
  subst he
  refine ⟨lim.keeps x.toInCall.keep, codeAny_func ?_⟩
  obtain ⟨t, ht, hq⟩ := hbody A outer s H vs Q E (hr.deeper _) hsp
  have I : Inv (cxOf CX P w K mg base N qual scope f cdv A outer s H E) [] (start N vs) H s1 := inv_start S hr.hd e0 hl r x
  refine wpAny_mono (ht [] s1 (start N vs) H _ I hq) (fun fl s' hs => ?_) fun e s' hs => hs
  have fin : ∀ {σ' : St} {H' : Hp} {v : V} {u : Value}, Inv (cxOf CX P w K mg base N qual scope f cdv A outer s H E) [] σ' H' s' → RelV v u → Q v H' → CE outer P w H s Q u s' :=
    fun {σ' H' v u} J rv q => ⟨v, H', J.os, J.bare, J.base, J.hok, rv, q⟩
  cases fl with
  | ret u =>
    obtain ⟨v, σ', H', J, rv, q⟩ := hs
    exact fin J rv q
  | next =>
    obtain ⟨σ', H', J, q⟩ := hs
    exact fin (v := V.non) (u := Value.none) J rfl q
  | brk =>
    obtain ⟨_, _, _, q⟩ := hs
    exact False.elim q
  | cont =>
    obtain ⟨_, _, _, q⟩ := hs
    exact False.elim q
end L2
namespace L2
open PySem PySem.Spec PyProof.Rows
section
variable {X : Cx} {x : Str} {p pos : Pos} {e : Expr} {es : List Expr} {t : TA} {id T : String} {r : List V → Hp → VK → Prop}
def tCB (r : List V → Hp → VK → Prop) (t : TA) : TE := fun σ H Q => t σ H fun vs H1 => r vs H1 Q
theorem pe_callB (hc : CallR X (.builtin id) r) (hg : Gl X x) (hm : X.mg x = none) (hv : bootBuiltins x = some (.builtin id)) (ha : PA X (e :: es) t) (hn : x ≠ "__name__" := by decide) (hdb : (x == ("__debug__" : Str)) = false := by decide)
    (he : starEach (e :: es) X.env = (false, eval e X.env) :: starEach es X.env := by rfl) (hpl : (backTo pos (starEach es X.env)).any (·.1) = false := by rfl) : PE X (.Call (.Name x p) (e :: es) [] pos) (tCB r t) := by
  intro pins s σ H Q I h
  refine wpAny_Call_Name_kw (ld_blt I hg hm hv ?_ hn hdb)
  exact PyProof.Rows.callWith_builtin1 (thn (ha pos pins s σ H _ I h) fun us s1 ⟨vs, H1, I1, r1, q1⟩ => hc pins s1 σ H1 vs us Q I1 r1 q1) he hpl
theorem pe_callTy (hc : CallR X (.type T) r) (hg : Gl X x) (hm : X.mg x = none) (hv : bootBuiltins x = some (.type T)) (ha : PA X (e :: es) t) (hn : x ≠ "__name__" := by decide) (hdb : (x == ("__debug__" : Str)) = false := by decide)
    (he : starEach (e :: es) X.env = (false, eval e X.env) :: starEach es X.env := by rfl) (hpl : (backTo pos (starEach es X.env)).any (·.1) = false := by rfl) : PE X (.Call (.Name x p) (e :: es) [] pos) (tCB r t) := by
  intro pins s σ H Q I h
  refine wpAny_Call_Name_kw (ld_blt I hg hm hv ?_ hn hdb)
  exact PyProof.Rows.callWith_type1 (thn (ha pos pins s σ H _ I h) fun us s1 ⟨vs, H1, I1, r1, q1⟩ => hc pins s1 σ H1 vs us Q I1 r1 q1) he hpl
end
end L2
namespace HT
open PySem PyProof.Rows
section
open PySem.SeqAt
open PySem.AutoSeq1 (wpAny_loadPart')
open PySem.MeetsSeq PySem.MeetsSeq2 PySem.MeetsSeq3
end
section
variable {prog : Program} {w : World} {A : Around} {E : Value → Shared → Prop} {s : Shared}
def sIx (n d : Nat) : Option Int → Nat
  | none => d
  | some v => if v < 0 then (v + (n : Int)).toNat else min v.toNat n
end
end HT
namespace L2
open PySem PySem.Spec PyProof.Rows
abbrev TO := St → Hp → (Option Int → Hp → Prop) → Prop
def PO (X : Cx) (e : Option Expr) (t : TO) : Prop :=
  ∀ (pins : List (Addr × Obj)) (s : Shared) (σ : St) (H : Hp) (Q : Option Int → Hp → Prop), Inv X pins σ H s → t σ H Q →
    wpAny (model X.prog X.w) X.A (evalPart e X.env) (fun u s' => ∃ o H', Inv X pins σ H' s' ∧ IsPart u o ∧ Q o H') X.xe s
def tNoPart : TO := fun _ H Q => Q none H
def tPart (t : TE) : TO := fun σ H Q => t σ H fun x H1 => ∃ i, x = .int i ∧ Q (some i) H1
theorem intsAre_of {ns : List Int} : ∀ {us : List Value}, Vals (ns.map V.int) us → IntsAre us ns := by
  induction ns with
  | nil => intro us r; rw [List.map_nil] at r; cases r; exact .nil
  | cons n ns ih =>
    intro us r
    rw [List.map_cons] at r
    cases r with
    | cons r1 r2 =>
      obtain ⟨t, e⟩ := r1
      subst e
      exact .cons n t (ih r2)
section
variable {X : Cx} {e : Expr} {te : TE} {lo hi : Option Expr} {tl th : TO} {pos p2 : Pos}
theorem po_none : PO X none tNoPart := by
  intro pins s σ H Q I h
  rw [evalPart_none]
  exact wpAny_pure ⟨none, H, I, .none, h⟩
theorem po_some (h : PE X e te) : PO X (some e) (tPart te) := by
  intro pins s σ H Q I hw
  rw [evalPart_some]
  refine thn (h pins s σ H _ I hw) fun u s1 hqq => ?_
  obtain ⟨x, H1, I1, r1, q1⟩ := hqq
  obtain ⟨i, rfl, q⟩ := q1
  obtain ⟨t, rfl⟩ := r1
  exact ⟨some i, H1, I1, .int i t, q⟩
def SlR (X : Cx) (r : V → Option Int → Option Int → Hp → VK → Prop) : Prop :=
  ∀ (pins : List (Addr × Obj)) (s : Shared) (σ : St) (H : Hp) (x : V) (v vl vu : Value) (lo hi : Option Int) (sl : Addr) (Q : VK), Inv X pins σ H s → RelV x v → s.heap.IsSliceOf sl vl vu .none → IsPart vl lo → IsPart vu hi → r x lo hi H Q →
    ∃ T id, typeLookup (.type T) "__getitem__" = pure (some (.builtin id)) ∧ s.TypeIs v T ∧ wpAny (model X.prog X.w) X.A (getItem v (.ref sl)) (EP X pins σ Q) X.xe s
def tSl (r : V → Option Int → Option Int → Hp → VK → Prop) (te : TE) (tl th : TO) : TE := fun σ H Q => te σ H fun x H1 => tl σ H1 fun l H2 => th σ H2 fun u H3 => r x l u H3 Q
theorem pe_slice {r : V → Option Int → Option Int → Hp → VK → Prop} (hr : SlR X r) (he : PE X e te) (hl : PO X lo tl) (hu : PO X hi th) : PE X (.Subscript e (.Slice lo hi none p2) pos) (tSl r te tl th) := by
  intro pins s σ H Q I h
  refine Subscript_ (thn (he pins s σ H _ I h) fun v s1 hqq => ?_)
  obtain ⟨x, H1, I1, r1, q1⟩ := hqq
  refine wpAny_Slice (thn (hl pins s1 σ H1 _ I1 q1) fun vl s2 ⟨l, H2, I2, pl, q2⟩ => thn (hu pins s2 σ H2 _ I2 q2) fun vu s3 hqq => ?_)
  obtain ⟨u, H3, I3, pu, q3⟩ := hqq
  rw [evalPart_none]
  refine wpAny_pure ?_
  have I4 : Inv X pins σ H3 { s3 with heap := s3.heap.push { cls := .type "slice", data := .fields #[vl, vu, .none] } } := I3.kept (t' := s3.toks) fun b ob q => Heap.get?_push_of_some _ q
  obtain ⟨T, id, hT, ht, hg⟩ := hr pins { s3 with heap := s3.heap.push { cls := .type "slice", data := .fields #[vl, vu, .none] } } σ H3 x v vl vu l u s3.heap.objs.size Q I4 r1 (Heap.IsSliceOf.new ..) pl pu q3
  show wpAny (model X.prog X.w) X.A (subscriptTail e (.Slice lo hi none p2) v (.ref s3.heap.objs.size)) (EP X pins σ Q) X.xe { s3 with heap := s3.heap.push { cls := .type "slice", data := .fields #[vl, vu, .none] } }
  exact tail_any (ops := [.ref s3.heap.objs.size, v]) ht hT hg (by with_unfolding_all rfl)
def cutV (xs : List V) (lo hi : Option Int) : List V := (xs.drop (HT.sIx xs.length 0 lo)).take (HT.sIx xs.length xs.length hi - HT.sIx xs.length 0 lo)
theorem cutV_length (xs : List V) (lo hi : Option Int) : (cutV xs lo hi).length ≤ xs.length := by
  unfold cutV
  rw [List.length_take, List.length_drop]
  omega
end
end L2
namespace L2
open PySem PySem.Spec PyProof.Rows
def ixN (n : Nat) (i : Int) : Option Nat := if 0 ≤ i then (if i < n then some i.toNat else none) else if -(n : Int) ≤ i then some (i + n).toNat else none
def atI {α : Type} (xs : List α) (i : Int) : Option α := (ixN xs.length i).bind fun j => xs[j]?
theorem ixN_seq {n : Nat} {i : Int} {j : Nat} (h : ixN n i = some j) : seqIndex? i n = some j ∧ j < n ∧ -(n : Int) ≤ i ∧ i < n := by
  unfold ixN at h
  by_cases h0 : 0 ≤ i
  · rw [if_pos h0] at h
    by_cases h1 : i < n
    · rw [if_pos h1] at h
      have e : i.toNat = j := Option.some.inj h
      exact ⟨by rw [seqIndex_of h0 h1, e], by omega, by omega, h1⟩
    · rw [if_neg h1] at h; cases h
  · rw [if_neg h0] at h
    by_cases h1 : -(n : Int) ≤ i
    · rw [if_pos h1] at h
      have e : (i + n).toNat = j := Option.some.inj h
      exact ⟨by rw [seqIndex_neg (by omega) h1, e], by omega, h1, by omega⟩
    · rw [if_neg h1] at h; cases h
theorem atI_get {α : Type} {xs : List α} {i : Int} {v : α} (h : atI xs i = some v) : ∃ j, seqIndex? i xs.length = some j ∧ xs[j]? = some v ∧ j < xs.length ∧ -(xs.length : Int) ≤ i ∧ i < xs.length := by
  unfold atI at h
  cases e : ixN xs.length i with
  | none => rw [e] at h; cases h
  | some j =>
    rw [e] at h
    obtain ⟨h1, h2, h3, h4⟩ := ixN_seq e
    exact ⟨j, h1, h, h2, h3, h4⟩
theorem atI_nat {α : Type} {xs : List α} {j : Nat} {v : α} (h : xs[j]? = some v) : atI xs (j : Int) = some v := by
  have hj : j < xs.length := (List.getElem?_eq_some_iff.mp h).1
  have e : ixN xs.length (j : Int) = some j := by
    unfold ixN
    rw [if_pos (by omega), if_pos (by omega)]; simp
  unfold atI; rw [e]; exact h
def PlainIx (b : Expr) : Prop := ∀ o i, subscripted b false o i = operate [o, i] (getItem o i)
def IxR (X : Cx) (r : R2) : Prop :=
  ∀ (value slice : Expr) (pins : List (Addr × Obj)) (s : Shared) (σ : St) (H : Hp) (x y : V) (v u : Value) (Q : VK), Inv X pins σ H s → RelV x v → RelV y u → r x y H Q →
    subscripted slice false v u = operate [v, u] (getItem v u) → wpAny (model X.prog X.w) X.A (subscriptTail value slice v u) (EP X pins σ Q) X.xe s
def MtR (X : Cx) (id : String) (r : V → List V → Hp → VK → Prop) : Prop :=
  ∀ (pins : List (Addr × Obj)) (s : Shared) (σ : St) (H : Hp) (x : V) (xs : List V) (v : Value) (us : List Value) (Q : VK), Inv X pins σ H s → RelV x v → Vals xs us → r x xs H Q →
    wpAny (model X.prog X.w) X.A (call (.builtin id) (v :: us)) (EP X pins σ Q) X.xe s
section
variable {X : Cx} {a b : Expr} {ta tb : TE} {pos : Pos}
theorem pe_ix {r : R2} (hr : IxR X r) (ha : PE X a ta) (hb : PE X b tb) (hs : PlainIx b) : PE X (.Subscript a b pos) (tOp r ta tb) := by
  intro pins s σ H Q I h
  exact Subscript_ (binT ha hb I h fun v u s2 x y H2 I2 rx ry q => hr a b pins s2 σ H2 x y v u Q I2 rx ry q (hs _ _))
def rIxL (K : PySem.W.Frag) : R2 := fun x y H Q => ∃ p xs i v, x = .ref p ∧ y = .int i ∧ SqL K H p xs ∧ atI xs i = some v ∧ Q v H
def rIxT (K : PySem.W.Frag) : R2 := fun x y H Q => ∃ p xs i v, x = .ref p ∧ y = .int i ∧ SqT K H p xs ∧ atI xs i = some v ∧ Q v H
theorem ix_list : IxR X (rIxL X.K) := by
  intro value slice pins s σ H x y v u Q I rx ry h hs
  obtain ⟨p, xs, i, z, rfl, rfl, hq, he, q⟩ := h
  cases rx
  obtain ⟨t, rfl⟩ := ry
  obtain ⟨its, r, pl, hz⟩ := I.list hq
  obtain ⟨j, h1, h2, h3, h4, h5⟩ := atI_get he
  obtain ⟨w, ew, rw'⟩ := r.get h2
  have hl := r.length
  have hn := line63
  have fin : EP X pins σ Q w s := ⟨z, H, I, rw', q⟩
  by_cases h0 : 0 ≤ i
  · have hj : i.toNat = j := by
      rw [seqIndex_of h0 h5] at h1
      exact Option.some.inj h1
    exact item_listR pl.isList h0 (by omega) (by rw [hj]; simpa using ew) fin hs
  · have hj : (i + (its.toArray.size : Int)).toNat = j := by
      rw [seqIndex_neg (by omega) h4] at h1
      rw [List.size_toArray, ← hl]
      exact Option.some.inj h1
    exact subscriptTail_builtinR (x := w) pl.isList.typeIs slot_list_getitem.lookup
      (wpAny_getItem_list_neg (Q := fun r s' => r = w ∧ EP X pins σ Q r s') pl.isList (by omega) (by rw [List.size_toArray] <;> omega) (by omega) (by rw [hj]; simpa using ew) ⟨rfl, fin⟩) hs
theorem ix_tup : IxR X (rIxT X.K) := by
  intro value slice pins s σ H x y v u Q I rx ry h hs
  obtain ⟨p, xs, i, z, rfl, rfl, hq, he, q⟩ := h
  cases rx
  obtain ⟨t, rfl⟩ := ry
  obtain ⟨its, r, pl, hz⟩ := I.tuple hq
  obtain ⟨j, h1, h2, h3, h4, h5⟩ := atI_get he
  obtain ⟨w, ew, rw'⟩ := r.get h2
  have hl := r.length
  have hn := line63
  have fin : EP X pins σ Q w s := ⟨z, H, I, rw', q⟩
  exact subscriptTail_builtinR (x := w) pl.typeIs slot_tuple_getitem.lookup
    (getItem_tuple (j := j) (Q := fun r s' => r = w ∧ EP X pins σ Q r s') pl (by omega) (by omega) (by rw [List.size_toArray, ← hl]; exact h1) (by simpa using ew) ⟨rfl, fin⟩) hs
theorem mapSeq_set (its : List Value) (n j : Nat) (u : Value) : Obj.mapSeq (·.setIfInBounds j u) { cls := .type "list", data := .seq its.toArray n } = { cls := .type "list", data := .seq (its.set j u).toArray n } := by
  simp [Obj.mapSeq]
theorem Inv.lst {pins : List (Addr × Obj)} {σ : St} {H : Hp} {s : Shared} {p : Addr} {xs : List V} (I : Inv X pins σ H s) (h : H p = some (.lst xs)) :
    ∃ (its : List Value) (n : Nat), Vals xs its ∧ s.heap.get? p = some { cls := .type "list", data := .seq its.toArray n } ∧ xs.length ≤ sizeLine := by
  obtain ⟨z, its, n, r, e⟩ := I.hok p _ h
  exact ⟨its, n, r, e, z⟩
theorem Inv.lstUpd {pins : List (Addr × Obj)} {σ : St} {H : Hp} {s : Shared} {p : Addr} {xs ys : List V} {its its' : List Value} {n n' : Nat} {f : Obj → Obj} (I : Inv X pins σ H s) (h : H p = some (.lst xs))
    (ho : s.heap.get? p = some { cls := .type "list", data := .seq its.toArray n }) (hf : f { cls := .type "list", data := .seq its.toArray n } = { cls := .type "list", data := .seq its'.toArray n' }) (r : Vals ys its') (hz : ys.length ≤ sizeLine) (t : Nat) :
    Inv X pins σ (upd H p (.lst ys)) { s with heap := s.heap.update p f, toks := t } := by
  have e : (s.heap.update p f).get? p = some { cls := .type "list", data := .seq its'.toArray n' } := by
    rw [Heap.get?_update_self f ho (by rw [hf] <;> rfl), hf]
  refine I.write (x := p) (e := p) (by rw [h]; trivial) (.inl rfl) (fun b u hb q => (Heap.get?_update_other _ _ (Ne.symm hb)).trans q) ⟨_, e⟩ ?_
  exact ⟨hz, its', n', r, e⟩
def rSetL : V → V → V → Hp → (Hp → Prop) → Prop := fun o i v H Q => ∃ p xs k j, o = .ref p ∧ i = .int k ∧ H p = some (.lst xs) ∧ ixN xs.length k = some j ∧ Q (upd H p (.lst (xs.set j v)))
theorem set_list : PSet X rSetL := by
  intro pins s σ H o i v ov iv u Q I ro ri rv h
  obtain ⟨p, xs, k, j, rfl, rfl, hp, hj, q⟩ := h
  cases ro
  obtain ⟨t, rfl⟩ := ri
  obtain ⟨its, n, r, ho, hz⟩ := I.lst hp
  obtain ⟨h1, h2, h3, h4⟩ := ixN_seq hj
  have hl := r.length
  have hn := line63
  have I' : Inv X pins σ (upd H p (.lst (xs.set j v))) { s with heap := s.heap.update p (Obj.mapSeq (·.setIfInBounds j u)) } :=
    I.lstUpd hp ho (mapSeq_set its n j u) (r.set rv j) (by rw [List.length_set]; exact hz) s.toks
  by_cases h0 : 0 ≤ k
  · have hk : k.toNat = j := by
      rw [seqIndex_of h0 h4] at h1
      exact Option.some.inj h1
    exact PySem.W.ki_setAt ho h0 (by omega) (by rw [List.size_toArray, ← hl]; exact h4) (by rw [hk]; exact ⟨_, I', q⟩)
  · have hk : (k + (its.toArray.size : Int)).toNat = j := by
      rw [seqIndex_neg (by omega) h3] at h1
      rw [List.size_toArray, ← hl]
      exact Option.some.inj h1
    exact PySem.W.ki_setBack ho (by omega) (by rw [List.size_toArray, ← hl]; exact h3) (by omega) (by rw [hk]; exact ⟨_, I', q⟩)
theorem slice_bounds (lo hi : Option Int) (n : Nat) : (sliceBounds lo hi none n).1 = ((HT.sIx n 0 lo : Nat) : Int) ∧ (sliceBounds lo hi none n).2.1 = ((HT.sIx n n hi : Nat) : Int) ∧ (sliceBounds lo hi none n).2.2 = 1 := by
  refine ⟨?_, ?_, rfl⟩
  · cases lo with
    | none => simp [sliceBounds, HT.sIx]
    | some i =>
      simp only [sliceBounds, HT.sIx, Option.getD_none, show (1 : Int) > 0 by decide, if_true]
      by_cases h : i < 0
      · simp only [h, if_true] <;> omega
      · simp only [h, if_false] <;> omega
  · cases hi with
    | none => simp [sliceBounds, HT.sIx]
    | some i =>
      simp only [sliceBounds, HT.sIx, Option.getD_none, show (1 : Int) > 0 by decide, if_true]
      by_cases h : i < 0
      · simp only [h, if_true] <;> omega
      · simp only [h, if_false] <;> omega
theorem slicePick_cut (its : List Value) (lo hi : Option Int) : slicePick its.toArray lo hi none = ((its.drop (HT.sIx its.length 0 lo)).take (HT.sIx its.length its.length hi - HT.sIx its.length 0 lo)).toArray := by
  obtain ⟨h1, h2, h3⟩ := slice_bounds lo hi its.toArray.size
  unfold slicePick
  rw [h1, h2, h3]
  simp only [sliceRange_one, pick_run, List.size_toArray] <;> rfl
def rSlL (K : PySem.W.Frag) : V → Option Int → Option Int → Hp → VK → Prop := fun x lo hi H Q => ∃ a xs, x = .ref a ∧ SqL K H a xs ∧ ∀ p, H p = none → Q (.ref p) (upd H p (.lst (cutV xs lo hi)))
theorem sl_list : SlR X (rSlL X.K) := by
  intro pins s σ H x v vl vu lo hi sl Q I rx hs pl pu h
  obtain ⟨a, xs, rfl, hx, q⟩ := h
  cases rx
  obtain ⟨its, r, ht, hz⟩ := I.list hx
  have hlen := r.length
  refine ⟨"list", _, slot_list_getitem.lookup, ht.isList.typeIs, ?_⟩
  refine wpAny_getItem_list_slice ht.isList hs pl pu .none (by simp) ?_ (by rw [List.size_toArray] <;> omega)
  rw [slicePick_cut, ← hlen]
  refine ⟨.ref s.heap.objs.size, _, I.laid (t' := s.toks) (o := .lst (cutV xs lo hi)) (fun b ob q => Heap.get?_push_of_some _ q) (Nat.le_refl _) ?_, rfl, q _ (I.hok.fresh (Nat.le_refl _))⟩
  exact ⟨Nat.le_trans (cutV_length xs lo hi) hz, _, 0, (r.drop (HT.sIx xs.length 0 lo)).take (HT.sIx xs.length xs.length hi - HT.sIx xs.length 0 lo), Heap.get?_push_size _ rfl⟩
def flatV : V → Bool
  | .non => true
  | .bl _ => true
  | .int _ => true
  | .str _ => true
  | _ => false
def eqV : V → V → Bool
  | .non, .non => true
  | .bl a, .bl b => a == b
  | .bl a, .int b => (if a then 1 else 0) == b
  | .int a, .bl b => a == (if b then 1 else 0)
  | .int a, .int b => a == b
  | .str a, .str b => a == b
  | _, _ => false
theorem eqAt_V {A : Around} {s : Shared} {y x : V} {u v : Value} (ry : RelV y u) (rx : RelV x v) (fy : flatV y = true) (fx : flatV x = true) : SeqAt.EqAt A s u v (eqV y x) := by
  cases y with
  | non =>
    cases ry
    cases x with
    | non => cases rx; exact SeqAt.EqAt.same _
    | bl b => cases rx; exact SeqAt.EqAt.none_bool b
    | int b => obtain ⟨t, rfl⟩ := rx; exact SeqAt.EqAt.none_int b t
    | str b => obtain ⟨t, rfl⟩ := rx; exact SeqAt.EqAt.none_str b t
    | _ => exact absurd (show false = true from fx) Bool.false_ne_true
  | bl a =>
    cases ry
    cases x with
    | non => cases rx; exact SeqAt.EqAt.bool_none a
    | bl b => cases rx; exact SeqAt.EqAt.bool_bool a b
    | int b => obtain ⟨t, rfl⟩ := rx; exact SeqAt.EqAt.bool_int a b t
    | str b => obtain ⟨t, rfl⟩ := rx; exact SeqAt.EqAt.bool_str a b t
    | _ => exact absurd (show false = true from fx) Bool.false_ne_true
  | int a =>
    obtain ⟨t', rfl⟩ := ry
    cases x with
    | non => cases rx; exact SeqAt.EqAt.int_none a t'
    | bl b => cases rx; exact SeqAt.EqAt.int_bool a t' b
    | int b => obtain ⟨t, rfl⟩ := rx; exact SeqAt.EqAt.int_int a t' b t
    | str b => obtain ⟨t, rfl⟩ := rx; exact SeqAt.EqAt.int_str a t' b t
    | _ => exact absurd (show false = true from fx) Bool.false_ne_true
  | str a =>
    obtain ⟨t', rfl⟩ := ry
    cases x with
    | non => cases rx; exact SeqAt.EqAt.str_none a t'
    | bl b => cases rx; exact SeqAt.EqAt.str_bool a t' b
    | int b => obtain ⟨t, rfl⟩ := rx; exact SeqAt.EqAt.str_int a t' b t
    | str b => obtain ⟨t, rfl⟩ := rx; exact SeqAt.EqAt.str_str a t' b t
    | _ => exact absurd (show false = true from fx) Bool.false_ne_true
  | _ => exact absurd (show false = true from fy) Bool.false_ne_true
theorem call_len_seq : CallR X (.builtin "len") (fun xs H Q => ∃ p ys, xs = [.ref p] ∧ (SqL X.K H p ys ∨ SqT X.K H p ys) ∧ Q (.int ys.length) H) := by
  intro pins s σ H xs us Q I r h
  obtain ⟨p, ys, rfl, hq, q⟩ := h
  obtain ⟨u, rfl, rx⟩ := vals1 r
  cases rx
  have hn := line63
  rcases hq with hq | hq
  · obtain ⟨its, r', pl, hz⟩ := I.list hq
    have hlen := r'.length
    exact Calls.call_len_list pl.isList (by simp only [List.size_toArray] <;> omega) ⟨.int ys.length, H, I.tok _, ⟨s.toks + 1, by rw [List.size_toArray, hlen]⟩, q⟩
  · obtain ⟨its, r', pl, hz⟩ := I.tuple hq
    have hlen := r'.length
    exact len_tuple pl (by simp only [List.size_toArray] <;> omega) ⟨.int ys.length, H, I.tok _, ⟨s.toks + 1, by rw [List.size_toArray, hlen]⟩, q⟩
theorem call_list_of : CallR X (.type "list") (fun xs H Q => ∃ p ys, xs = [.ref p] ∧ (SqL X.K H p ys ∨ SqT X.K H p ys) ∧ ∀ l, H l = none → Q (.ref l) (upd H l (.lst ys))) := by
  intro pins s σ H xs us Q I r h
  obtain ⟨p, ys, rfl, hq, q⟩ := h
  obtain ⟨u, rfl, rx⟩ := vals1 r
  cases rx
  have fin : ∀ (its : List Value), Vals ys its → ys.length ≤ sizeLine → ∀ (h' : Heap) (c' : Nat), (∀ b o', s.heap.get? b = some o' → h'.get? b = some o') →
      h'.get? s.heap.objs.size = some { cls := .type "list", dict := none, data := .seq its.toArray c', slots := #[] } → EP X pins σ Q (.ref s.heap.objs.size) { s with heap := h' } := fun its r' hz h' c' kp e =>
    ⟨.ref s.heap.objs.size, _, I.laid (t' := s.toks) kp (Nat.le_refl _) (show ObjOk X.prog X.w _ h' _ (.lst ys) from ⟨hz, its, c', r', e⟩), rfl, q _ (I.hok.fresh (Nat.le_refl _))⟩
  rcases hq with hq | hq
  · obtain ⟨its, r', pl, hz⟩ := I.list hq
    have hlen := r'.length
    obtain ⟨o, ho, hc, n, hd⟩ := pl.isList
    exact call_list_seq p (.inl rfl) ho hc hd (fun h' c' kp e => fin its r' hz h' c' kp e) (by simp only [List.size_toArray] <;> omega)
  · obtain ⟨its, r', pl, hz⟩ := I.tuple hq
    have hlen := r'.length
    obtain ⟨o, ho, hc, n, hd⟩ := pl
    exact call_list_seq p (.inr rfl) ho hc hd (fun h' c' kp e => fin its r' hz h' c' kp e) (by simp only [List.size_toArray] <;> omega)
def tyV (K : PySem.W.Frag) (T : String) (x : V) (H : Hp) : Prop := match x with
  | .str _ => T = "str"
  | .int _ => T = "int"
  | .ref p => (T = "list" ∧ ∃ xs, SqL K H p xs) ∨ (T = "tuple" ∧ ∃ o, K.lookup p = some o ∧ o.cls = .type "tuple" ∧ o.dict = none) ∨
      (T = "dict" ∧ ((∃ kvs, H p = some (.dK kvs)) ∨ ∃ kvs, H p = some (.dT kvs))) ∨ (T = "set" ∧ ∃ S n, H p = some (.set S n))
  | _ => False
theorem tyV_is {pins : List (Addr × Obj)} {σ : St} {H : Hp} {s : Shared} {T : String} {x : V} {v : Value} (I : Inv X pins σ H s) (r : RelV x v) (ty : tyV X.K T x H) :
    s.TypeIs v T ∧ ∀ a, v = .ref a → ∃ ob, s.heap.get? a = some ob ∧ ob.dict = none := by
  cases x with
  | str z =>
    obtain ⟨t, rfl⟩ := r
    cases (show T = "str" from ty)
    exact ⟨typeIs_str s z t, fun _ e => nomatch e⟩
  | int i =>
    obtain ⟨t, rfl⟩ := r
    cases (show T = "int" from ty)
    exact ⟨typeIs_int s i t, fun _ e => nomatch e⟩
  | ref p =>
    cases r
    rcases ty with ⟨rfl, xs, hq⟩ | ⟨rfl, o, hk, hc, hd⟩ | ⟨rfl, hk⟩ | ⟨rfl, S, n, hk⟩
    · obtain ⟨its, _, pl, _⟩ := I.list hq
      refine ⟨pl.isList.typeIs, fun a e => ?_⟩
      cases e
      obtain ⟨o, n, e, c, hd, _⟩ := pl
      exact ⟨o, e, hd⟩
    · refine ⟨⟨o, I.kIn p o hk, hc⟩, fun a e => ?_⟩
      cases e
      exact ⟨o, I.kIn _ o hk, hd⟩
    · have z : ∃ o, s.heap.get? p = some o ∧ o.ExactDict := by
        rcases hk with ⟨kvs, hk⟩ | ⟨kvs, hk⟩
        · obtain ⟨_, _, _, _, o, _, _, e, ex, _⟩ := I.hok p _ hk
          exact ⟨o, e, ex⟩
        · obtain ⟨_, _, _, _, o, _, _, e, ex, _⟩ := I.hok p _ hk
          exact ⟨o, e, ex⟩
      obtain ⟨o, e, ex⟩ := z
      refine ⟨⟨o, e, ex.1⟩, fun a e2 => ?_⟩
      cases e2
      exact ⟨o, e, ex.2.1⟩
    · obtain ⟨o, _, _, _, e, ex, _⟩ := I.hok p _ hk
      refine ⟨⟨o, e, ex.1⟩, fun a e2 => ?_⟩
      cases e2
      exact ⟨o, e, ex.2.1⟩
  | _ => exact False.elim ty
def tBM (K : PySem.W.Frag) (T : String) (r : V → List V → Hp → VK → Prop) (to : TE) (t : TA) : TE := fun σ H Q => to σ H fun x H1 => tyV K T x H1 ∧ t σ H1 fun xs H2 => r x xs H2 Q
variable {o e : Expr} {es : List Expr} {to : TE} {t : TA} {name : Str} {apos cpos : Pos} {T id : String} {r : V → List V → Hp → VK → Prop}
theorem pe_bm (pa : PlainAttrs T) (slot : Slot T name id) (hty : typeOf (.builtin id) = pure (.type "method_descriptor")) (hm : MtR X id r) (ho : PE X o to) (ha : PA X (e :: es) t)
    (hbase : attributeBase o name X.env (eval o X.env) = eval o X.env := by rfl)
    (hfew : ((backTo cpos (starEach (e :: es) X.env)).all (fun x => !x.1) && (backToKw cpos (keywordEach [] X.env)).all (fun x => x.1.isSome)
      && decide ((e :: es).length + ([] : List Keyword).length + (if ([] : List Keyword).isEmpty then 0 else 1) < 30)) = true := by rfl)
    (hline : (apos.endLine == cpos.line) = true := by rfl) (hs : starEach (e :: es) X.env = (false, eval e X.env) :: starEach es X.env := by rfl) (hplain : (backTo cpos (starEach es X.env)).any (·.1) = false := by rfl) :
    PE X (.Call (.Attribute o name apos) (e :: es) [] cpos) (tBM X.K T r to t) := by
  intro pins s σ H Q I h
  refine wpAny_Call_method_late hbase hfew hline rfl (thn (ho pins s σ H _ I h) fun v s1 hqq => ?_)
  obtain ⟨x, H1, I1, r1, ty, q1⟩ := hqq
  obtain ⟨h1, h2⟩ := tyV_is I1 r1 ty
  refine ⟨T, id, pa, slot, hty, h1, h2, ?_⟩
  have hA := ha cpos pins s1 σ H1 _ I1 q1
  rw [hs] at hA ⊢
  refine Calls.callWith_builtin (by show (false || (backTo cpos (starEach es X.env)).any (·.1)) = false; rw [hplain] <;> rfl) (Calls.evalArgs_plain ?_)
  exact thn hA fun us s2 ⟨vs, H2, I2, r2, q2⟩ => hm pins s2 σ H2 x vs v us Q I2 r1 r2 q2
end
end L2
namespace L2
open PySem PySem.Spec PyProof.Rows
def MtM (X : Cx) (id : String) (r : V → List V → Hp → VK → Prop) : Prop :=
  ∀ (pins : List (Addr × Obj)) (s : Shared) (σ : St) (H : Hp) (x : V) (xs : List V) (v : Value) (us : List Value) (Q : VK), Inv X pins σ H s → RelV x v → Vals xs us → r x xs H Q →
    wpAny (model X.prog X.w) X.A (call (.builtin id) (v :: us)) (EP X pins σ Q) X.xe s
theorem Vals.one : ∀ {x : V} {us : List Value}, Vals [x] us → ∃ u, us = [u] ∧ RelV x u
  | _, _, .cons r .nil => ⟨_, rfl, r⟩
theorem Vals.rep {xs : List V} {us : List Value} (h : Vals xs us) : ∀ k : Nat, Vals (List.replicate k xs).flatten (List.replicate k us).flatten
  | 0 => .nil
  | k + 1 => by
    rw [List.replicate_succ, List.replicate_succ, List.flatten_cons, List.flatten_cons]
    exact Vals.append h (Vals.rep h k)
theorem foldl_rep (its : List Value) : ∀ (k : Nat) (acc : List Value),
    List.foldl (fun x1 x2 => x1 ++ x2) acc.toArray (List.replicate k its.toArray) = (acc ++ (List.replicate k its).flatten).toArray
  | 0, acc => by simp
  | k + 1, acc => by
    have e : acc.toArray ++ its.toArray = (acc ++ its).toArray := by simp
    have e2 : (acc ++ its) ++ (List.replicate k its).flatten = acc ++ (List.replicate (k + 1) its).flatten := by
      rw [List.replicate_succ, List.flatten_cons, List.append_assoc]
    rw [← e2, ← foldl_rep its k (acc ++ its), ← e, List.replicate_succ, List.foldl_cons]
section
variable {X : Cx} {pins : List (Addr × Obj)} {σ : St} {H : Hp} {s : Shared} {l b : Addr} {xs ys zs : List V}
theorem Inv.lset {its its' : List Value} {n : Nat} {f : Array Value → Array Value} {t' : Nat} (I : Inv X pins σ H s) (hH : H l = some (.lst xs))
    (e : s.heap.get? l = some { cls := .type "list", data := .seq its.toArray n }) (hf : f its.toArray = its'.toArray) (hv : Vals ys its') (hz : ys.length ≤ sizeLine) :
    Inv X pins σ (upd H l (.lst ys)) { s with heap := s.heap.update l (Obj.mapSeq f), toks := t' } := by
  have q := PySem.IsL.update e f
  rw [hf] at q
  refine I.write (x := l) (e := l) (by rw [hH]; exact trivial) (.inl rfl) (fun b' u hb hu => (Heap.get?_update_other s.heap (Obj.mapSeq f) (Ne.symm hb)).trans hu) ⟨_, q⟩ ?_
  exact ⟨hz, its', _, hv, q⟩
theorem Inv.lnew {its : List Value} {t' : Nat} (I : Inv X pins σ H s) (hv : Vals ys its) (hz : ys.length ≤ sizeLine) :
    Inv X pins σ (upd H s.heap.objs.size (.lst ys)) { s with heap := s.heap.push { cls := .type "list", data := .seq its.toArray }, toks := t' } :=
  I.laid (fun _ _ q => Heap.get?_push_of_some _ q) (Nat.le_refl _) ⟨hz, its, 0, hv, Heap.get?_push_size _ rfl⟩
theorem Inv.fresh (I : Inv X pins σ H s) : H s.heap.objs.size = none := I.hok.fresh (Nat.le_refl _)
theorem Inv.lstM (I : Inv X pins σ H s) (hH : H l = some (.lst xs)) : xs.length ≤ sizeLine ∧ ∃ (its : List Value) (n : Nat), Vals xs its ∧ xs.length = its.length ∧ s.heap.get? l = some { cls := .type "list", data := .seq its.toArray n } := by
  obtain ⟨z, its, n, r, e⟩ := I.hok l _ hH
  exact ⟨z, its, n, r, r.length, e⟩
theorem notLongL {n : Nat} (h : n ≤ sizeLine) : Builtin.List.listTooLong n = false := by
  unfold Builtin.List.listTooLong
  exact decide_eq_false (by omega)
end
section
variable {X : Cx}
def rAppend : V → List V → Hp → VK → Prop := fun x vs H Q => ∃ l xs y, x = .ref l ∧ vs = [y] ∧ H l = some (.lst xs) ∧ xs.length < sizeLine ∧ Q .non (upd H l (.lst (xs ++ [y])))
theorem mt_append : MtM X "list.append" rAppend := by
  intro pins s σ H x vs v us Q I rx rv h
  obtain ⟨l, xs, y, rfl, rfl, hH, hz, q⟩ := h
  cases rx
  obtain ⟨u, rfl, ru⟩ := rv.one
  obtain ⟨z, its, n, r, hl, e⟩ := I.lstM hH
  refine call_meets F.slot_list_append ⟨_, e, rfl⟩ F.entry_list_append (F.args_list_append_2 _ _) (PySem.list_append l its.toArray n u (by rw [List.size_toArray]; omega)) ⟨e, ?_⟩
  refine ⟨.non, _, I.lset (its' := its ++ [u]) hH e (by simp) (r.append (.cons ru .nil)) ?_, rfl, q⟩
  rw [List.length_append, List.length_singleton]
  omega
def rExtend : V → List V → Hp → VK → Prop := fun x vs H Q => ∃ l b xs zs, x = .ref l ∧ vs = [.ref b] ∧ H l = some (.lst xs) ∧ H b = some (.lst zs) ∧ xs.length + zs.length ≤ sizeLine ∧ Q .non (upd H l (.lst (xs ++ zs)))
theorem mt_extend : MtM X "list.extend" rExtend := by
  intro pins s σ H x vs v us Q I rx rv h
  obtain ⟨l, b, xs, zs, rfl, rfl, hH, hB, hz, q⟩ := h
  cases rx
  obtain ⟨u, rfl, ru⟩ := rv.one
  cases ru
  obtain ⟨z, its, n, r, hl, e⟩ := I.lstM hH
  obtain ⟨z2, its2, n2, r2, hl2, e2⟩ := I.lstM hB
  have hsz : its.toArray.size + its2.toArray.size ≤ sizeLine := by rw [List.size_toArray, List.size_toArray]; omega
  have hlong : ¬ (!its.toArray.isEmpty && Builtin.List.listTooLong (its.toArray.size + its2.toArray.size)) = true := by
    rw [notLongL hsz, Bool.and_false]
    exact Bool.false_ne_true
  refine call_meets F.slot_list_extend ⟨_, e, rfl⟩ F.entry_list_extend (F.args_list_extend_2 _ _)
    (AutoSeq1.list_extend_list_list_0 l its.toArray n b its2.toArray n2 hlong (by rw [List.size_toArray]; omega) (by omega)) ⟨e, e2, ?_⟩
  refine ⟨.non, _, I.lset (its' := its ++ its2) hH e (by simp) (r.append r2) ?_, rfl, q⟩
  rw [List.length_append]
  omega
def rCat : R2 := fun x y H Q => ∃ l b xs zs, x = .ref l ∧ y = .ref b ∧ H l = some (.lst xs) ∧ H b = some (.lst zs) ∧ xs.length + zs.length ≤ sizeLine ∧ ∀ p, H p = none → Q (.ref p) (upd H p (.lst (xs ++ zs)))
theorem op_cat : OpR X (binaryOp .Add) rCat := by
  intro pins s σ H x y v u Q I rx ry h
  obtain ⟨l, b, xs, zs, rfl, rfl, hH, hB, hz, q⟩ := h
  cases rx
  cases ry
  obtain ⟨z, its, n, r, hl, e⟩ := I.lstM hH
  obtain ⟨z2, its2, n2, r2, hl2, e2⟩ := I.lstM hB
  refine PySem.P.add_list e e2 ?_ (by rw [List.size_toArray, List.size_toArray]; omega)
  have ea : its.toArray ++ its2.toArray = (its ++ its2).toArray := by simp
  rw [ea]
  exact ⟨.ref _, _, I.lnew (t' := s.toks) (r.append r2) (by rw [List.length_append]; omega), rfl, q _ I.fresh⟩
def rRep : R2 := fun x y H Q => ∃ l k xs, x = .ref l ∧ y = .int k ∧ H l = some (.lst xs) ∧ -(2 ^ 63) ≤ k ∧ k < 2 ^ 63 ∧ xs.length * k.toNat ≤ sizeLine ∧
  ∀ p, H p = none → Q (.ref p) (upd H p (.lst (List.replicate k.toNat xs).flatten))
theorem len_rep {α : Type} (xs : List α) (k : Nat) : (List.replicate k xs).flatten.length = k * xs.length := by
  induction k with
  | zero => simp
  | succ k ih => rw [List.replicate_succ, List.flatten_cons, List.length_append, ih, Nat.succ_mul, Nat.add_comm]
theorem op_rep : OpR X (binaryOp .Mult) rRep := by
  intro pins s σ H x y v u Q I rx ry h
  obtain ⟨l, k, xs, rfl, rfl, hH, h1, h2, hz, q⟩ := h
  cases rx
  obtain ⟨t, rfl⟩ := ry
  obtain ⟨z, its, n, r, hl, e⟩ := I.lstM hH
  have hlen : its.toArray.size * k.toNat ≤ sizeLine := by rw [List.size_toArray, ← hl]; exact hz
  have hcap : ¬ its.toArray.size * k.toNat > (2 ^ 63 - 1) / 8 := by
    have : (sizeLine : Nat) ≤ (2 ^ 63 - 1) / 8 := by decide
    omega
  have hfit : ¬ (!Builtin.List.listFitsIndex k) = true := by
    rw [fitsIndex_both h1 h2]
    exact Bool.false_ne_true
  have hlong : ¬ Builtin.List.listTooLong (its.toArray.size * k.toNat) = true := by
    rw [notLongL hlen]
    exact Bool.false_ne_true
  have hnew : List.foldl (fun x1 x2 => x1 ++ x2) #[] (List.replicate (if its.toArray.isEmpty = true then 0 else k.toNat) its.toArray) = (List.replicate k.toNat its).flatten.toArray := by
    have f0 : ∀ m : Nat, List.foldl (fun x1 x2 => x1 ++ x2) #[] (List.replicate m its.toArray) = (List.replicate m its).flatten.toArray := fun m => by
      have := foldl_rep its m []
      rw [List.nil_append] at this
      exact this
    rw [f0]
    cases its with
    | nil => simp
    | cons a r' => rw [if_neg (by simp)]
  refine wpAny_binaryOp_repeat_ref (T := "list") (U := "int") (by decide) ⟨_, e, rfl⟩ (fun s' => typeIs_int s' k t) noFill_list_mul F.fills_int_mul F.slot_int_rmul repeat_list F.slot_int_index.lookup
    (call_meets F.slot_int_rmul (typeIs_int s k t) F.entry_int_rmul (F.args_int_rmul_2 _ _) (int___rmul___int_list k t l its.toArray n)
      ⟨e, rfl, ⟨_, e, rfl⟩, call_meets F.slot_list_mul ⟨_, e, rfl⟩ F.entry_list_mul (F.args_list_mul_2 _ _) (AutoListH.list___mul___list_int_3 l its.toArray n k t hfit hcap hlong) ⟨e, ?_⟩⟩)
  rw [hnew]
  exact ⟨.ref _, _, I.lnew (t' := s.toks) (r.rep k.toNat) (by rw [len_rep, Nat.mul_comm]; exact hz), rfl, q _ I.fresh⟩
end
section
variable {prog : Program} {w : World} {A : Around} {E : Value → Shared → Prop} {s : Shared}
end
section
variable {X : Cx}
end
end L2
namespace L2
open PySem PySem.Spec PyProof.Rows
section
variable {prog : Program} {w : World} {A : Around} {E : Value → Shared → Prop} {s : Shared} {l : Addr} {its : List Value} {ns : List Int} {Q : Value → Shared → Prop}
end
section
variable {X : Cx}
end
section
variable {X : Cx}
end
section
variable {X : Cx}
end
section
variable {X : Cx}
end
section
variable {X : Cx} {pins : List (Addr × Obj)} {σ : St} {H : Hp} {s : Shared}
end
section
variable {X : Cx}
end
end L2
namespace L2
open PySem PySem.Spec PyProof.Rows
abbrev CellAt (h : Heap) (c : Addr) (v : Option Value) : Prop := h.IsCell c v
def relS (scope sc : Scope) : Scope :=
  { scope with names := scope.names.map fun (n, k) => if (k == .free && sc.kind == .function && sc.names.lookup n == some .cell) then (n, .cell) else (n, k) }
def cloFrom (cells : List (Str × Addr)) : List (Str × NameKind) → List (Str × Addr) → List (Str × Addr)
  | [], acc => acc
  | (n, k) :: r, acc => if k == .free then cloFrom cells r ((n, (cells.lookup n).getD 0) :: acc) else cloFrom cells r acc
theorem closure_loop (env : Env) (f : Str × NameKind → List (Str × Addr) → Sem (ForInStep (List (Str × Addr))))
    (hf : ∀ n k c, f (n, k) c = if k == .free then (do let a ← cellOf env n; pure (.yield ((n, a) :: c))) else pure (.yield c)) :
    ∀ (names : List (Str × NameKind)) (acc : List (Str × Addr)), (∀ y ∈ names, y.2 = .free → ∃ c, env.cells.lookup y.1 = some c) → forIn names acc f = pure (cloFrom env.cells names acc)
  | [], acc, _ => by rw [List.forIn_nil]; rfl
  | (n, k) :: r, acc, h => by
    rw [List.forIn_cons, hf]
    have ih := fun acc => closure_loop env f hf r acc fun y hy => h y (List.mem_cons_of_mem _ hy)
    unfold cloFrom
    by_cases hk : (k == NameKind.free) = true
    · rw [if_pos hk, if_pos hk]
      obtain ⟨c, hc⟩ := h (n, k) List.mem_cons_self (by simpa using hk)
      have e : cellOf env n = pure c := by unfold cellOf; rw [hc]
      rw [e]
      have e2 : (env.cells.lookup n).getD 0 = c := by rw [hc]; rfl
      rw [e2]
      exact ih _
    · rw [if_neg hk, if_neg hk]
      exact ih _
theorem closure_ok {scope : Scope} {env : Env} (h : ∀ y ∈ scope.names, y.2 = .free → ∃ c, env.cells.lookup y.1 = some c) : closureFor scope env = pure (cloFrom env.cells scope.names []) := by
  simp only [closureFor]
  rw [closure_loop env _ (fun n k c => rfl) scope.names [] h]
  rfl
theorem mem_lookup {α : Type} : ∀ {l : List (Str × α)} {n : Str} {c : α}, (n, c) ∈ l → ∃ c', l.lookup n = some c'
  | (k, v) :: r, n, c, h => by
    rw [List.lookup_cons]
    cases hb : n == k with
    | true => exact ⟨_, rfl⟩
    | false =>
      rcases List.mem_cons.mp h with e | h
      · cases e; simp at hb
      · exact mem_lookup h
theorem cloFrom_mem {cells : List (Str × Addr)} : ∀ {names : List (Str × NameKind)} {acc : List (Str × Addr)} {n : Str} {c : Addr}, (n, c) ∈ cloFrom cells names acc → (n, c) ∈ acc ∨ ((n, .free) ∈ names ∧ c = (cells.lookup n).getD 0)
  | [], _, _, _, h => .inl h
  | (m, k) :: r, acc, n, c, h => by
    unfold cloFrom at h
    split at h
    · rename_i hk
      have hk : k = .free := by simpa using hk
      rcases cloFrom_mem h with h | ⟨h1, h2⟩
      · rcases List.mem_cons.mp h with e | h
        · cases e; exact .inr ⟨hk ▸ List.mem_cons_self, rfl⟩
        · exact .inl h
      · exact .inr ⟨List.mem_cons_of_mem _ h1, h2⟩
    · rcases cloFrom_mem h with h | ⟨h1, h2⟩
      · exact .inl h
      · exact .inr ⟨List.mem_cons_of_mem _ h1, h2⟩
theorem cloFrom_acc {cells : List (Str × Addr)} : ∀ {names : List (Str × NameKind)} {acc : List (Str × Addr)} {p : Str × Addr}, p ∈ acc → p ∈ cloFrom cells names acc
  | [], _, _, h => h
  | (m, k) :: r, acc, p, h => by
    unfold cloFrom
    split
    · exact cloFrom_acc (List.mem_cons_of_mem _ h)
    · exact cloFrom_acc h
theorem cloFrom_has {cells : List (Str × Addr)} : ∀ {names : List (Str × NameKind)} {acc : List (Str × Addr)} {n : Str}, (n, .free) ∈ names → (n, (cells.lookup n).getD 0) ∈ cloFrom cells names acc
  | (m, k) :: r, acc, n, h => by
    unfold cloFrom
    rcases List.mem_cons.mp h with e | h
    · cases e
      exact cloFrom_acc List.mem_cons_self
    · split
      · exact cloFrom_has h
      · exact cloFrom_has h
theorem cells_mem : ∀ {names : List (Str × NameKind)} {h : Heap} {acc : List (Str × Addr)} {x : Str} {c : Addr}, (x, c) ∈ cellsFrom h.objs.size names acc →
    (x, c) ∈ acc ∨ ((x, .cell) ∈ names ∧ h.objs.size ≤ c ∧ CellAt (pushCells h names) c none)
  | [], _, _, _, _, h => .inl h
  | (n, k) :: r, h, acc, x, c, hm => by
    unfold cellsFrom at hm
    unfold pushCells
    split at hm
    · rename_i hk
      rw [if_pos hk]
      have hk : k = .cell := by simpa using hk
      rw [← Heap.size_push h { cls := .type "cell", data := .cell none }] at hm
      rcases cells_mem hm with hm | ⟨h1, h2, h3⟩
      · rcases List.mem_cons.mp hm with e | hm
        · cases e
          exact .inr ⟨hk ▸ List.mem_cons_self, Nat.le_refl _, _, pushCells_keeps r _ _ _ (Heap.get?_push_size _ rfl), rfl⟩
        · exact .inl hm
      · rw [Heap.size_push] at h2
        exact .inr ⟨List.mem_cons_of_mem _ h1, Nat.le_of_succ_le h2, h3⟩
    · rename_i hk
      rw [if_neg hk]
      rcases cells_mem hm with hm | ⟨h1, h2, h3⟩
      · exact .inl hm
      · exact .inr ⟨List.mem_cons_of_mem _ h1, h2, h3⟩
theorem cells_acc : ∀ {names : List (Str × NameKind)} {n : Nat} {acc : List (Str × Addr)} {p : Str × Addr}, p ∈ acc → p ∈ cellsFrom n names acc
  | [], _, _, _, h => h
  | (m, k) :: r, n, acc, p, h => by
    unfold cellsFrom
    split
    · exact cells_acc (List.mem_cons_of_mem _ h)
    · exact cells_acc h
theorem cells_has : ∀ {names : List (Str × NameKind)} {n : Nat} {acc : List (Str × Addr)} {x : Str}, (x, .cell) ∈ names → ∃ c, (x, c) ∈ cellsFrom n names acc
  | (m, k) :: r, n, acc, x, h => by
    unfold cellsFrom
    rcases List.mem_cons.mp h with e | h
    · cases e
      exact ⟨n, cells_acc List.mem_cons_self⟩
    · split
      · exact cells_has h
      · exact cells_has h
theorem cells_inj : ∀ {names : List (Str × NameKind)} {h : Heap} {acc : List (Str × Addr)} {x y : Str} {c : Addr}, (∀ p ∈ acc, p.2 < h.objs.size) → (∀ x y c, (x, c) ∈ acc → (y, c) ∈ acc → x = y) →
    (x, c) ∈ cellsFrom h.objs.size names acc → (y, c) ∈ cellsFrom h.objs.size names acc → x = y
  | [], _, _, _, _, _, _, hi, h1, h2 => hi _ _ _ h1 h2
  | (n, k) :: r, h, acc, x, y, c, hl, hi, h1, h2 => by
    unfold cellsFrom at h1 h2
    split at h1
    · rename_i hk
      rw [if_pos hk] at h2
      rw [← Heap.size_push h { cls := .type "cell", data := .cell none }] at h1 h2
      refine cells_inj (h := h.push _) (fun p hp => ?_) (fun x y c a b => ?_) h1 h2
      · rw [Heap.size_push]
        rcases List.mem_cons.mp hp with rfl | hp
        · exact Nat.lt_succ_self _
        · exact Nat.lt_succ_of_lt (hl p hp)
      · rcases List.mem_cons.mp a with e | a <;> rcases List.mem_cons.mp b with e' | b
        · cases e; cases e'; rfl
        · cases e; exact absurd (hl _ b) (Nat.lt_irrefl _)
        · cases e'; exact absurd (hl _ a) (Nat.lt_irrefl _)
        · exact hi _ _ _ a b
    · rename_i hk
      rw [if_neg hk] at h2
      exact cells_inj hl hi h1 h2
theorem newEnv_comp {M : Model} {A : Around} {E : Value → Shared → Prop} {s : Shared} {scope : Scope} {globals : Addr} {closure : List (Str × Addr)} {qual : Str} {func : Option Addr} {code : Value} {around : Env} {builtins : Addr} {Q : Env → Shared → Prop}
    (h : Q (newEnv scope s.heap.objs.size globals (cellsFrom (s.heap.objs.size + 1) scope.names closure) qual func code (some around) builtins)
      { s with heap := pushCells (s.heap.push { cls := .type "dict", data := .dict #[] }) scope.names }) :
    wpAny M A (newFunctionEnv scope globals closure [] qual func code (some around) builtins) Q E s := by
  simp only [newFunctionEnv, Option.isSome_some, if_true]
  refine wpAny_bind (wpAny_alloc ?_)
  refine wpAny_bind (wpAny_layCells _ (fun n k c => rfl) scope.names closure _ _ ?_)
  rw [show ({ s with heap := s.heap.push { cls := .type "dict", data := .dict #[] } } : Shared).heap.objs.size = s.heap.objs.size + 1 from Heap.size_push ..]
  rw [List.forIn_nil]
  exact wpAny_bind (wpAny_pure (wpAny_pure h))
theorem lookup_relS {sc : Scope} : ∀ {names : List (Str × NameKind)} {x : Str} {k : NameKind},
    (names.map fun (n, k) => if (k == NameKind.free && sc.kind == .function && sc.names.lookup n == some .cell) then (n, NameKind.cell) else (n, k)).lookup x = some k →
    ∃ k', names.lookup x = some k' ∧ (k = k' ∨ (k' = .free ∧ k = .cell))
  | [], _, _, h => by simp at h
  | (n, k₀) :: r, x, k, h => by
    have ih := @lookup_relS sc r x k
    have h' : List.lookup x ((if (k₀ == NameKind.free && sc.kind == .function && sc.names.lookup n == some .cell) = true then (n, NameKind.cell) else (n, k₀)) :: (r.map _)) = some k := h
    cases hx : x == n with
    | true =>
      simp only [List.lookup_cons, hx]
      by_cases hc : (k₀ == NameKind.free && sc.kind == .function && sc.names.lookup n == some .cell) = true
      · rw [if_pos hc] at h'
        simp only [List.lookup_cons, hx] at h'
        cases h'
        simp only [Bool.and_eq_true, beq_iff_eq] at hc
        exact ⟨k₀, rfl, .inr ⟨hc.1.1, rfl⟩⟩
      · rw [if_neg hc] at h'
        simp only [List.lookup_cons, hx] at h'
        cases h'
        exact ⟨_, rfl, .inl rfl⟩
    | false =>
      simp only [List.lookup_cons, hx]
      by_cases hc : (k₀ == NameKind.free && sc.kind == .function && sc.names.lookup n == some .cell) = true
      · rw [if_pos hc] at h'
        simp only [List.lookup_cons, hx] at h'
        exact ih h'
      · rw [if_neg hc] at h'
        simp only [List.lookup_cons, hx] at h'
        exact ih h'
structure BlkOk (N : List Str) (sc scope : Scope) (own : List (Str × Nat)) : Prop where
  kind : scope.kind = .function
  uniq : ∀ y ∈ scope.names, scope.names.lookup y.1 = some y.2
  ix : ∀ p ∈ own, N[p.2]? = some p.1
  free : ∀ y ∈ scope.names, y.2 = .free → sc.names.lookup y.1 = some .cell ∨ sc.names.lookup y.1 = some .free
  own : ∀ y ∈ scope.names, y.2 = .local ∨ y.2 = .cell → y.1 ∈ own.map (·.1) ∨ y.1 ∉ N
def wipe (σ : St) : List Nat → St
  | [] => σ
  | v :: vs => (wipe σ vs).set v none
theorem wipe_length (σ : St) : ∀ vs : List Nat, (wipe σ vs).length = σ.length
  | [] => rfl
  | v :: vs => by unfold wipe; rw [List.length_set, wipe_length σ vs]
theorem wipe_some {σ : St} {i : Nat} {x : V} : ∀ {vs : List Nat}, (wipe σ vs)[i]? = some (some x) → σ[i]? = some (some x) ∧ i ∉ vs
  | [], h => ⟨h, by simp⟩
  | v :: vs, h => by
    unfold wipe at h
    by_cases hi : v = i
    · subst hi
      by_cases hv : v < (wipe σ vs).length
      · rw [List.getElem?_set_self hv] at h; cases h
      · rw [List.getElem?_eq_none (by simpa using hv)] at h; cases h
    · rw [List.getElem?_set_ne hi] at h
      obtain ⟨h1, h2⟩ := wipe_some h
      exact ⟨h1, by simp only [List.mem_cons, not_or]; exact ⟨fun e => hi e.symm, h2⟩⟩
abbrev Cx.blk (X : Cx) (s : Shared) (H : Hp) (scope : Scope) (cenv : Env) (fp : List Addr) : Cx := { X with s₀ := s, H₀ := H, env := cenv, outer := X.stack, ex := fp, fn := fun x => scope.names.lookup x == some .cell, pn := [], xe := fun _ _ => False }
section
variable {X : Cx} {pins : List (Addr × Obj)} {σ : St} {H : Hp} {s : Shared}
theorem block_start {scope : Scope} {own : List (Str × Nat)} {fp : List Addr} (I : Inv X pins σ H s) (ok : BlkOk X.N X.env.scope scope own) (hN : X.N.Nodup) (hfp : ∀ b ∈ fp, FpOk X pins H b ∧ b < s.heap.objs.size) :
    Inv (X.blk s H scope (compEnvC scope (cellsFrom (s.heap.objs.size + 1) scope.names (cloFrom X.env.cells scope.names [])) s.heap.objs.size X.env) fp) [] (wipe σ (own.map (·.2))) H { s with heap := pushCells (s.heap.push { cls := .type "dict", data := .dict #[] }) scope.names } := by
  have hfree : ∀ y ∈ scope.names, y.2 = .free → ∃ c, X.env.cells.lookup y.1 = some c := fun y hy e => by
    rcases ok.free y hy e with k | k
    · exact I.ok.has _ (.inl k)
    · exact I.ok.has _ (.inr k)
  generalize hcenv : compEnvC scope (cellsFrom (s.heap.objs.size + 1) scope.names (cloFrom X.env.cells scope.names [])) s.heap.objs.size X.env = cenv
  have kp : ∀ b o, s.heap.get? b = some o → (pushCells (s.heap.push { cls := .type "dict", data := .dict #[] }) scope.names).get? b = some o := fun b o e => pushCells_keeps _ _ _ _ (Heap.get?_push_of_some _ e)
  have hL : cenv.locals = s.heap.objs.size := by rw [← hcenv]; rfl
  have hcl : cenv.cells = cellsFrom (s.heap.objs.size + 1) scope.names (cloFrom X.env.cells scope.names []) := by rw [← hcenv]; rfl
  have hsc : cenv.scope = relS scope X.env.scope := by rw [← hcenv]; rfl
  rw [← Heap.size_push s.heap { cls := .type "dict", data := .dict #[] }] at hcl
  have cm : ∀ {y c}, (y, c) ∈ cloFrom X.env.cells scope.names [] → X.env.cells.lookup y = some c ∧ c < s.heap.objs.size := fun {y c} hm => by
    rcases cloFrom_mem hm with hm | ⟨h1, rfl⟩
    · cases hm
    · obtain ⟨c, hc⟩ := hfree _ h1 rfl
      rw [hc]
      obtain ⟨w, z⟩ := I.cell _ _ hc
      exact ⟨rfl, z.lt⟩
  have mem : ∀ {y c}, cenv.cells.lookup y = some c → (X.env.cells.lookup y = some c ∧ c < s.heap.objs.size) ∨ (s.heap.objs.size + 1 ≤ c ∧ CellAt (pushCells (s.heap.push { cls := .type "dict", data := .dict #[] }) scope.names) c none) := fun {y c} e => by
    rw [hcl] at e
    rcases cells_mem (PySem.mem_of_lookup e) with hm | ⟨_, h2, h3⟩
    · exact .inl (cm hm)
    · rw [Heap.size_push] at h2; exact .inr ⟨h2, h3⟩
  have look : ∀ {y}, scope.names.lookup y = some .free → ∃ c, cenv.cells.lookup y = some c ∧ X.env.cells.lookup y = some c := fun {y} hl => by
    have hy : (y, NameKind.free) ∈ scope.names := PySem.mem_of_lookup hl
    obtain ⟨c', e'⟩ := mem_lookup (cells_acc (names := scope.names) (n := (s.heap.push { cls := .type "dict", data := .dict #[] }).objs.size) (cloFrom_has (cells := X.env.cells) (acc := []) hy))
    rw [← hcl] at e'
    refine ⟨c', e', ?_⟩
    rw [hcl] at e'
    rcases cells_mem (PySem.mem_of_lookup e') with hm | ⟨h1, _, _⟩
    · exact (cm hm).1
    · have := ok.uniq _ h1
      rw [hl] at this; cases this
  have okB : (X.blk s H scope cenv fp).Ok := by
    refine ⟨I.ok.mod, by show cenv.scope.kind = _; rw [hsc]; exact ok.kind, by show cenv.globals = _; rw [← hcenv]; exact I.ok.glob, by show cenv.builtins = _; rw [← hcenv]; exact I.ok.blt, by show s.heap.objs.size ≤ cenv.locals; rw [hL]; exact Nat.le_refl _,
      fun y z c e1 e2 => ?_, fun y hy => ?_, fun y c z e => ?_, I.ok.hd, I.ok.frames, .inl rfl, fun b hb => ⟨?_, fun y c e z => ?_⟩, I.bs, Nat.le_trans I.ok.bsz I.sz, fun b o e hb => ?_, fun b hb z => ?_, I.stack, I.stkFree⟩
    · have e1 : cenv.cells.lookup y = some c := e1
      have e2 : cenv.cells.lookup z = some c := e2
      rw [hcl] at e1 e2
      refine cells_inj (fun p hp => ?_) (fun y z c a b => I.ok.inj y z c (cm a).1 (cm b).1) (PySem.mem_of_lookup e1) (PySem.mem_of_lookup e2)
      rw [Heap.size_push]
      exact Nat.lt_succ_of_lt (cm (y := p.1) (c := p.2) hp).2
    · show ∃ c, cenv.cells.lookup y = some c
      have key : ∀ k, cenv.kindOf y = some k → (k = .cell ∨ k = .free) → ∃ c, cenv.cells.lookup y = some c := fun k hk hk' => by
        unfold Env.kindOf at hk
        rw [hsc] at hk
        obtain ⟨k', e, r⟩ := lookup_relS hk
        have : k' = .cell ∨ k' = .free := by
          rcases r with rfl | ⟨rfl, _⟩
          · exact hk'
          · exact .inr rfl
        rcases this with rfl | rfl
        · obtain ⟨c, hm⟩ := cells_has (n := (s.heap.push { cls := .type "dict", data := .dict #[] }).objs.size) (acc := cloFrom X.env.cells scope.names []) (PySem.mem_of_lookup e)
          obtain ⟨c', e'⟩ := mem_lookup hm
          exact ⟨c', by rw [hcl]; exact e'⟩
        · obtain ⟨c, h1, _⟩ := look e
          exact ⟨c, h1⟩
      rcases hy with hy | hy
      · exact key _ hy (.inl rfl)
      · exact key _ hy (.inr rfl)
    · have z : (scope.names.lookup y == some NameKind.cell) = true := z
      have z : scope.names.lookup y = some .cell := by simpa using z
      have e : cenv.cells.lookup y = some c := e
      rw [hcl] at e
      rcases cells_mem (PySem.mem_of_lookup e) with hm | ⟨_, h2, _⟩
      · rcases cloFrom_mem hm with hm | ⟨h1, _⟩
        · cases hm
        · have q := ok.uniq _ h1
          rw [z] at q; cases q
      · rw [Heap.size_push] at h2
        exact Nat.le_of_succ_le h2
    · show b ≠ cenv.locals
      rw [hL]; exact Nat.ne_of_lt (hfp b hb).2
    · have e : cenv.cells.lookup y = some c := e
      rcases mem e with ⟨h1, _⟩ | ⟨h1, _⟩
      · exact (hfp b hb).1.2.2.2.2.1 y c h1 z
      · have h2 : s.heap.objs.size + 1 ≤ b := by rw [← z]; exact h1
        exact absurd (Nat.lt_of_lt_of_le (hfp b hb).2 (Nat.le_of_succ_le h2)) (Nat.lt_irrefl _)
    · rcases (hfp b hb).1.2.2.2.1 with z | z
      · exact I.ok.noex b o e z
      · exact absurd (Nat.lt_of_lt_of_le (Heap.lt_size e) (Nat.le_trans I.ok.bsz z)) (Nat.lt_irrefl _)
    · rcases List.mem_cons.mp (I.stkSub b z) with z | z
      · exact (hfp b hb).1.2.1 z
      · exact (hfp b hb).1.2.2.1 z
  refine ⟨okB, rfl, I.bare, Un.kept kp, ⟨fun _ => none, ?_, fun i y av e1 e2 e3 => ?_⟩, fun y c e => ?_, ?_, fun y c e => ?_, fun p hp => ?_, I.hok.kept kp, by rw [wipe_length]; exact I.len⟩
  · show Heap.Ns _ cenv.locals _
    rw [hL]
    exact Heap.Ns.keeps (Heap.Ns.new ..) fun b o e => pushCells_keeps _ _ _ _ e
  · obtain ⟨e2, hne⟩ := wipe_some e2
    have hfr : scope.names.lookup y = some .free ∧ (cenv.kindOf y = some .cell ∨ cenv.kindOf y = some .free) := by
      have key : ∀ k, cenv.scope.names.lookup y = some k → k = .local ∨ k = .cell ∨ k = .free → scope.names.lookup y = some .free ∧ (cenv.kindOf y = some .cell ∨ cenv.kindOf y = some .free) := fun k hk hk' => by
        have hk0 := hk
        rw [hsc] at hk
        obtain ⟨k', e, r⟩ := lookup_relS hk
        have no : ¬ (k' = .local ∨ k' = .cell) := fun hh => by
          rcases ok.own _ (PySem.mem_of_lookup e) hh with e' | e'
          · obtain ⟨p, hp, hpy⟩ := List.mem_map.mp e'
            have e3 := ok.ix p hp
            have : p.1 = y := hpy
            rw [this] at e3
            exact hne (List.mem_map.mpr ⟨p, hp, nodup_ix hN e3 e1⟩)
          · exact e' (List.mem_of_getElem? e1)
        rcases r with rfl | ⟨rfl, rfl⟩
        · rcases hk' with rfl | rfl | rfl
          · exact absurd (.inl rfl) no
          · exact absurd (.inr rfl) no
          · exact ⟨e, .inr hk0⟩
        · exact ⟨e, .inl hk0⟩
      have e3 : Vis cenv.scope y := e3
      rcases e3 with e3 | e3 | e3
      · exact key _ e3 (.inl rfl)
      · exact key _ e3 (.inr (.inl rfl))
      · exact key _ e3 (.inr (.inr rfl))
    obtain ⟨m, hn, hl⟩ := I.loc
    have hvis : Vis X.env.scope y := (ok.free _ (PySem.mem_of_lookup hfr.1) rfl).elim (fun k => .inr (.inl k)) (fun k => .inr (.inr k))
    obtain ⟨w, r, q⟩ := hl i y av e1 e2 hvis
    refine ⟨w, r, .inr ⟨hfr.2, ?_⟩⟩
    obtain ⟨c, h1, h2⟩ := look hfr.1
    rcases q with ⟨k, _⟩ | ⟨_, c', e', z⟩
    · have k : X.env.scope.names.lookup y = some .local := k
      rcases ok.free _ (PySem.mem_of_lookup hfr.1) rfl with k' | k' <;> rw [show X.env.scope.names.lookup y = _ from k'] at k <;> cases k
    · rw [h2] at e'; cases e'
      exact ⟨c, h1, z.keeps kp⟩
  · have e : cenv.cells.lookup y = some c := e
    rcases mem e with ⟨h1, _⟩ | ⟨_, z⟩
    · obtain ⟨w, z⟩ := I.cell y c h1
      exact ⟨w, z.keeps kp⟩
    · exact ⟨_, z⟩
  · show H cenv.locals = none
    rw [hL]; exact I.hok.fresh (Nat.le_refl _)
  · have e : cenv.cells.lookup y = some c := e
    rcases mem e with ⟨h1, _⟩ | ⟨h1, _⟩
    · exact I.freeC y c h1
    · exact I.hok.fresh (Nat.le_of_succ_le h1)
  · exact absurd (show p ∈ ([] : List (Addr × Obj)) ++ [] from hp) (by simp)
theorem app_ok {E : Value → Shared → Prop} {D : Addr} {xs : List V} {y : V} {v : Value} {Q : Value → Shared → Prop} (I : Inv X pins σ H s) (hD : H D = some (.lst xs)) (hz : xs.length < sizeLine) (r : RelV y v)
    (h : ∀ s', Inv X pins σ (upd H D (.lst (xs ++ [y]))) s' → Q .none s') : wpAny (model X.prog X.w) X.A (call (.builtin "list.append") [.ref D, v]) Q E s := by
  obtain ⟨hz', its, n, ri, e⟩ := I.hok D _ hD
  have hl := ri.length
  refine append_at (hsz := by rw [List.size_toArray]; omega) e fun h' sb ho' => ?_
  refine h { s with heap := h' } (I.write (t' := s.toks) (by rw [hD]; trivial) (.inl rfl) (fun b u hb q => (sb.2 b hb).trans q) ⟨_, ho'⟩ ⟨by rw [List.length_append]; exact hz, its ++ [v], n + 1, ri.append (.cons r .nil), ?_⟩)
  rw [ho']
  simp
def PTs (X : Cx) (ifs : List Expr) (t : TT) : Prop :=
  ∀ (pins : List (Addr × Obj)) (s : Shared) (σ : St) (H : Hp) (Q : Bool → Hp → Prop), Inv X pins σ H s → t σ H Q →
    wpAny (model X.prog X.w) X.A (forIn ifs true fun c r => if r = true then do let ok ← isTrue c X.env (eval c X.env); pure (ForInStep.yield ok) else pure (ForInStep.yield r)) (TP X pins σ Q) X.xe s
def tYes : TT := fun _ H Q => Q true H
theorem pts_nil : PTs X [] tYes := fun _ _ _ H _ I h => wpAny_tests_nil ⟨H, I, h⟩
end
theorem thnF {α : Type} {t : Sem α} {Q Q' : α → Shared → Prop} {M : Model} {A : Around} {E : Value → Shared → Prop} {s : Shared} (h : wpAny M A t Q (fun _ _ => False) s) (hQ : ∀ a s, Q a s → Q' a s) : wpAny M A t Q' E s := wpAny_mono h hQ fun _ _ z => False.elim z
theorem compLoop_any {prog : Program} {w : World} {A : Around} {R : Result → Shared → Prop} {s : Shared} {elt target iter : Expr} {ifs : List Expr} {scope : Scope} {pos : Pos} {it acc : Value} {env : Env} (I : Nat → Shared → Prop)
    (turn : ∀ n s, I n s → wpAny (model prog w) A (pyNext it) (fun r s₁ => match r with
      | none => R (.ok .next) s₁
      | some v => wpAny (model prog w) A (letOwnedTupleGo target it v) (fun _ s₁' => wpAny (model prog w) A (assign target env v) (fun _ s₂ =>
          wpAny (model prog w) A (forIn ifs true fun c r => if r = true then do let ok ← isTrue c env (eval c env); pure (ForInStep.yield ok) else pure (ForInStep.yield r)) (fun ok s₃ =>
            if ok = true then wpAny (model prog w) A (eval elt env) (fun x s₄ =>
              wpAny (model prog w) A (call (.builtin "list.append") [acc, x]) (fun _ s₅ => ∃ m, m < n ∧ I m s₅) (notedBy (model prog w) A env fun e s' => R (.error e) s') s₄) (notedBy (model prog w) A env fun e s' => R (.error e) s') s₃
            else ∃ m, m < n ∧ I m s₃) (notedBy (model prog w) A env fun e s' => R (.error e) s') s₂) (notedBy (model prog w) A env fun e s' => R (.error e) s') s₁') (notedBy (model prog w) A env fun e s' => R (.error e) s') s₁) (notedBy (model prog w) A env fun e s' => R (.error e) s') s)
    (n : Nat) (h : I n s) :
    codeAny (model prog w) A (.compLoop (.ListComp elt [⟨target, iter, ifs, 0⟩] scope pos) 0 it acc env) R s := by
  refine codeAny_loop rfl I (fun n s hI => ?_) n h
  show wpAny _ A ((compTurn (.ListComp elt [⟨target, iter, ifs, 0⟩] scope pos) 0 it acc env).onRaise (fun x => do noteFrame x env; theTreesLotGoes x)) _ _ s
  refine wpAny_noted ?_
  rw [compTurn_list]
  refine wpAny_bind (wpAny_standAt (wpAny_bind (wpAny_mono (turn n s hI) (fun r s₁ h₁ => ?_) fun _ _ h' => h')))
  cases r with
  | none => exact wpAny_pure h₁
  | some v =>
    refine wpAny_bind (wpAny_mono h₁ (fun _ s₁' h₁' => ?_) fun _ _ h' => h')
    refine wpAny_bind (wpAny_mono h₁' (fun _ s₂ h₂ => wpAny_bind (wpAny_mono h₂ (fun ok s₃ h₃ => ?_) fun _ _ h' => h')) fun _ _ h' => h')
    cases ok with
    | false => exact wpAny_pure ⟨rfl, h₃⟩
    | true =>
      exact wpAny_bind (wpAny_bind (wpAny_mono h₃ (fun x s₄ h₄ => wpAny_bind (wpAny_mono h₄ (fun _ s₅ h₅ => wpAny_pure (wpAny_pure ⟨rfl, h₅⟩)) fun _ _ h' => h')) fun _ _ h' => h'))
section
variable {X : Cx}
def tLc (wi : TI) (g : TG) (tt : TT) (te : TE) (vs : List Nat) : TE := fun σ H Q => wi σ H fun J H1 => ∀ D, H1 D = none → ∃ W : Nat → Nat → Hp → Prop, (∃ m, W 0 m (upd H1 D (.lst []))) ∧ ∀ i m H, W i m H →
  (J.stop i H ∧ Q (.ref D) H) ∨ (J.go i H ∧ ∃ Nx : Hp → Prop, (∀ H', Nx H' → ∃ m', m' < m ∧ W (i + 1) m' H') ∧ ∀ x H', J.yld i H x H' → g x (wipe σ vs) H' fun σ2 H2 => wipe σ2 vs = wipe σ vs ∧ tt σ2 H2 fun b H3 =>
    if b = true then te σ2 H3 fun y H4 => ∃ acc, H4 D = some (.lst acc) ∧ acc.length < sizeLine ∧ Nx (upd H4 D (.lst (acc ++ [y]))) else Nx H3)
theorem lc_core {pins : List (Addr × Obj)} {s : Shared} {σ : St} {H : Hp} {Q : VK} {elt tg iter : Expr} {ifs : List Expr} {scope : Scope} {own : List (Str × Nat)} {pos pos' : Pos} {wi : TI} {g : TG} {tt : TT} {te : TE} {use : Option (Value → Sem Unit)} {Qf : Value → Shared → Prop}
    (hc : X.calm = true) (hN : X.N.Nodup) (I : Inv X pins σ H s) (hi : PI X tg iter wi) (ok : BlkOk X.N X.env.scope scope own)
    (hg : ∀ (s : Shared) (H : Hp) (C : Addr) (cl : List (Str × Addr)) (fp : List Addr), PG (X.blk s H scope (compEnvC scope cl C X.env) fp) tg g) (ht : ∀ (s : Shared) (H : Hp) (C : Addr) (cl : List (Str × Addr)) (fp : List Addr), PTs (X.blk s H scope (compEnvC scope cl C X.env) fp) ifs tt)
    (he : ∀ (s : Shared) (H : Hp) (C : Addr) (cl : List (Str × Addr)) (fp : List Addr), PE (X.blk s H scope (compEnvC scope cl C X.env) fp) elt te) (hs : ∀ x, foldedSetIterable iter X.env x = pure x)
    (h : tLc wi g tt te (own.map (·.2)) σ H Q)
    (hRR : ∀ D C s' m H', Inv X pins σ H' s' → Q (.ref D) H' → s'.heap.Ns C m → FpOk X pins H' C → compPost (model X.prog X.w) X.A X.xe use Qf (.ref D) C (.ok .next) s') :
    wpAny (model X.prog X.w) X.A (comprehension (.ListComp elt [⟨tg, iter, ifs, 0⟩] scope pos) scope X.env pos' (newList []) false (eval iter X.env) use) Qf X.xe s := by
  have hfree : ∀ y ∈ scope.names, y.2 = .free → ∃ c, X.env.cells.lookup y.1 = some c := fun y hy e => by
    rcases ok.free y hy e with k | k
    · exact I.ok.has _ (.inl k)
    · exact I.ok.has _ (.inr k)
  refine wpAny_comprehension_free (use := use) rfl hs (closure_ok hfree) ok.kind (fun y hy e => by rw [ok.uniq y hy, e])
    (thn (hi pins s σ H _ I h) fun xv s1 hx => thn hx fun itv s2 h2 => ?_)
  obtain ⟨it, fp, tn, J, H2, e, I2, T, st2, f2, q⟩ := h2
  subst e
  refine wpAny_newObj_type (newEnv_comp ?_) (by show 0 ≤ sizeLine; decide)
  generalize hD : s2.heap.objs.size = D
  have hDn : H2 D = none := I2.hok.fresh (Nat.le_of_eq hD)
  obtain ⟨W, ⟨m0, w0⟩, turn⟩ := q D hDn
  -- the new list
  generalize hs3 : ({ s2 with heap := s2.heap.push { cls := .type "list", data := .seq ([] : List Value).toArray } } : Shared) = s3
  have I3 : Inv X pins σ (upd H2 D (.lst [])) s3 := by
    rw [← hs3]
    refine I2.laid (t' := s2.toks) (fun b o e => Heap.get?_push_of_some _ e) (Nat.le_of_eq hD) ⟨Nat.zero_le _, [], 0, .nil, ?_⟩
    rw [← hD]
    exact Heap.get?_push_size _ rfl
  have h3 : s3.heap = s2.heap.push { cls := .type "list", data := .seq ([] : List Value).toArray } := by rw [← hs3]
  have sz : ∀ b ∈ fp, b < s2.heap.objs.size := fun b hb => by
    obtain ⟨o, e, _⟩ := T.obj _ _ st2 b hb
    exact Heap.lt_size e
  have f3 : ∀ b ∈ fp, FpOk X pins (upd H2 D (.lst [])) b ∧ b < s3.heap.objs.size := fun b hb => by
    have hlt := sz b hb
    refine ⟨⟨?_, (f2 b hb).2⟩, by rw [h3, Heap.size_push]; exact Nat.lt_succ_of_lt hlt⟩
    rw [upd_ne (by rw [← hD]; exact Nat.ne_of_lt hlt)]
    exact (f2 b hb).1
  have st3 : tn 0 s3.heap := T.keep _ _ _ st2 fun b _ o e => by rw [h3]; exact Heap.get?_push_of_some _ e
  have I4 := block_start I3 ok hN f3
  have pg := hg s3 (upd H2 D (.lst [])) s3.heap.objs.size (cellsFrom (s3.heap.objs.size + 1) scope.names (cloFrom X.env.cells scope.names [])) fp
  have pt := ht s3 (upd H2 D (.lst [])) s3.heap.objs.size (cellsFrom (s3.heap.objs.size + 1) scope.names (cloFrom X.env.cells scope.names [])) fp
  have pe := he s3 (upd H2 D (.lst [])) s3.heap.objs.size (cellsFrom (s3.heap.objs.size + 1) scope.names (cloFrom X.env.cells scope.names [])) fp
  show codeAny _ _ (.compStart (.ListComp elt [⟨tg, iter, ifs, 0⟩] scope pos) 0 (.ref it) (.ref D) (compEnvC scope (cellsFrom (s3.heap.objs.size + 1) scope.names (cloFrom X.env.cells scope.names [])) s3.heap.objs.size X.env)) (compPost (model X.prog X.w) X.A X.xe use Qf (.ref D) s3.heap.objs.size) { s3 with heap := pushCells (s3.heap.push { cls := .type "dict", data := .dict #[] }) scope.names }
  have nfp : ∀ b ∈ fp, (upd H2 D (.lst [])) b = none := fun b hb => (f3 b hb).1.1
  generalize hce : compEnvC scope (cellsFrom (s3.heap.objs.size + 1) scope.names (cloFrom X.env.cells scope.names [])) s3.heap.objs.size X.env = ce at I4 pg pt pe ⊢
  have cL : ce.locals = s3.heap.objs.size := by subst hce; rfl
  generalize hH3 : upd H2 D (.lst []) = H3 at I3 I4 pg pt pe w0 nfp f3
  generalize hs4 : ({ s3 with heap := pushCells (s3.heap.push { cls := .type "dict", data := .dict #[] }) scope.names } : Shared) = s4 at I4 ⊢
  have st4 : tn 0 s4.heap := T.keep _ _ _ st3 fun b _ o e => by rw [← hs4]; exact pushCells_keeps _ _ _ _ (Heap.get?_push_of_some _ e)
  have stat : ∀ {σ' : St} {H' : Hp} {s' : Shared}, Inv (X.blk s3 H3 scope ce fp) [] σ' H' s' → (∀ b ∈ fp, H' b = none) → ∀ b ∈ fp, FpOk (X.blk s3 H3 scope ce fp) [] H' b := fun {σ' H' s'} I' hn b hb =>
    ⟨hn b hb, (I'.ok.exf b hb).1, I'.ok.exfs b hb, .inl hb, fun x c e => (I'.ok.exf b hb).2 x c e, fun p hp => absurd (show p ∈ ([] : List (Addr × Obj)) ++ [] from hp) (by simp)⟩
  have loop : codeAny (model X.prog X.w) X.A (.compLoop (.ListComp elt [⟨tg, iter, ifs, 0⟩] scope pos) 0 (.ref it) (.ref D) ce) (compPost (model X.prog X.w) X.A X.xe use Qf (.ref D) s3.heap.objs.size) s4 := by
    refine compLoop_any (fun n s' => ∃ i H', Inv (X.blk s3 H3 scope ce fp) [] (wipe σ (own.map (·.2))) H' s' ∧ tn i s'.heap ∧ (∀ b ∈ fp, H' b = none) ∧ W i n H') ?_ m0 ⟨0, H3, I4, st4, nfp, w0⟩
    rintro n s5 ⟨i, H5, I5, st5, n5, w5⟩
    rcases turn i n H5 w5 with ⟨stop, qq⟩ | ⟨go, Nx, hNx, step⟩
    · have td := T.done (X.blk s3 H3 scope ce fp) rfl rfl rfl hc i [] s5 _ H5 (fun _ _ => False) I5 (stat I5 n5) st5 stop
      refine thnF td fun r s6 ⟨hr, I6⟩ => ?_
      subst hr
      -- back in the def's context
      have I7 : Inv X pins σ H5 s6 := I3.call' (ch := fp) I6.os I6.base I6.hok I6.bare fun b hb => ⟨(f3 b hb).1.2.2.2.1, (f3 b hb).1.2.1, (f3 b hb).1.2.2.2.2.1, (f3 b hb).1.2.2.2.2.2⟩
      have nC : H5 s3.heap.objs.size = none := by
        have z : H5 ce.locals = none := I6.free
        rw [cL] at z
        exact z
      obtain ⟨m, hn, _⟩ := I6.loc
      have hn : s6.heap.Ns ce.locals m := hn
      rw [cL] at hn
      exact hRR D s3.heap.objs.size s6 m H5 I7 qq hn (I3.fpOk (Nat.le_refl _) nC)
    · have ti := T.item (X.blk s3 H3 scope ce fp) rfl rfl rfl hc i [] s5 _ H5 (fun _ _ => False) I5 (stat I5 n5) st5 go
      refine thnF ti fun r s6 ⟨u, hr, h6⟩ => ?_
      subst hr
      refine thnF h6 fun _ s7 hqq => ?_
      obtain ⟨x, H7, I7, r7, y7, st7, n7⟩ := hqq
      have I7' := I7.pinned (stat I7 n7) (T.obj _ _ st7)
      refine thnF (pg _ s7 _ H7 x u _ I7' r7 (step x H7 y7)) fun _ s8 hqq => ?_
      obtain ⟨σ8, H8, I8, hw8, q8⟩ := hqq
      refine thnF (pt _ s8 σ8 H8 _ I8 q8) fun b s9 ⟨H9, I9, q9⟩ => ?_
      -- the turn's end
      have fin : ∀ {s' : Shared} {H' : Hp}, Inv (X.blk s3 H3 scope ce fp) ([] ++ pinsAt fp s7.heap) σ8 H' s' → Nx H' → ∃ m, m < n ∧ ∃ i H', Inv (X.blk s3 H3 scope ce fp) [] (wipe σ (own.map (·.2))) H' s' ∧ tn i s'.heap ∧ (∀ b ∈ fp, H' b = none) ∧ W i m H' := fun {s' H'} I' nx => by
        obtain ⟨m', hm, w'⟩ := hNx H' nx
        have pin' : ∀ b ∈ fp, ∀ o, s7.heap.get? b = some o → s'.heap.get? b = some o ∧ H' b = none := fun b hb o e =>
          let z := I'.pin (b, o) (List.mem_append_right _ (List.mem_append_right _ (mem_pinsAt hb e)))
          ⟨z.1, z.2.1⟩
        have hl : (wipe σ (own.map (·.2))).length = σ8.length := by rw [← hw8, wipe_length]
        refine ⟨m', hm, i + 1, H', (I'.unpinned (pins := [])).weak hl (fun j v e => ?_), T.keep _ _ _ st7 fun b hb o e => (pin' b hb o e).1, fun b hb => ?_, w'⟩
        · rw [← hw8] at e
          exact (wipe_some e).1
        · obtain ⟨o, e, _⟩ := T.obj _ _ st7 b hb
          exact (pin' b hb o e).2
      cases b with
      | false =>
        simp only [Bool.false_eq_true, if_false] at q9 ⊢
        exact fin I9 q9
      | true =>
        simp only [if_true] at q9 ⊢
        refine thnF (pe _ s9 σ8 H9 _ I9 q9) fun z s10 hqq => ?_
        obtain ⟨yv, H10, I10, r10, acc, hD10, hz10, nx⟩ := hqq
        exact app_ok (X := X.blk s3 H3 scope ce fp) I10 hD10 hz10 r10 fun s11 I11 => fin I11 nx
  exact codeAny_compStart_list loop (T.self X.A 0 _ _ _ st4 loop)
theorem pe_lc {elt tg iter : Expr} {ifs : List Expr} {scope : Scope} {own : List (Str × Nat)} {pos : Pos} {wi : TI} {g : TG} {tt : TT} {te : TE} (hc : X.calm = true) (hN : X.N.Nodup) (hi : PI X tg iter wi) (ok : BlkOk X.N X.env.scope scope own)
    (hg : ∀ (s : Shared) (H : Hp) (C : Addr) (cl : List (Str × Addr)) (fp : List Addr), PG (X.blk s H scope (compEnvC scope cl C X.env) fp) tg g) (ht : ∀ (s : Shared) (H : Hp) (C : Addr) (cl : List (Str × Addr)) (fp : List Addr), PTs (X.blk s H scope (compEnvC scope cl C X.env) fp) ifs tt)
    (he : ∀ (s : Shared) (H : Hp) (C : Addr) (cl : List (Str × Addr)) (fp : List Addr), PE (X.blk s H scope (compEnvC scope cl C X.env) fp) elt te) (hs : ∀ x, foldedSetIterable iter X.env x = pure x := by intro _; rfl) :
    PE X (.ListComp elt [⟨tg, iter, ifs, 0⟩] scope pos) (tLc wi g tt te (own.map (·.2))) := by
  intro pins s σ H Q I h
  rw [eval_ListComp]
  refine lc_core hc hN I hi ok hg ht he hs h fun D C s' m H' I' q hn f => ⟨m, hn, fun h'' sb => ?_⟩
  obtain ⟨f0, f1, f2, f3, f4, f5⟩ := f
  exact ⟨.ref D, H', I'.turned (t' := s'.toks) (fun b o hb e => (sb.2 b hb).trans e) f0 f1 f3 f4 f5, rfl, q⟩
theorem ps_setLc {i : Nat} {y : Str} {py : Pos} {elt tg iter : Expr} {ifs : List Expr} {scope : Scope} {own : List (Str × Nat)} {pos spos : Pos} {wi : TI} {g : TG} {tt : TT} {te : TE} (hc : X.calm = true) (hN : X.N.Nodup) (hy : X.N[i]? = some y) (hyl : X.env.scope.names.lookup y = some .local)
    (hsw : swapsWith (.ListComp elt [⟨tg, iter, ifs, 0⟩] scope pos) (some (.Name y py)) spos.line X.env = pure true) (hi : PI X tg iter wi) (ok : BlkOk X.N X.env.scope scope own)
    (hg : ∀ (s : Shared) (H : Hp) (C : Addr) (cl : List (Str × Addr)) (fp : List Addr), PG (X.blk s H scope (compEnvC scope cl C X.env) fp) tg g) (ht : ∀ (s : Shared) (H : Hp) (C : Addr) (cl : List (Str × Addr)) (fp : List Addr), PTs (X.blk s H scope (compEnvC scope cl C X.env) fp) ifs tt)
    (he : ∀ (s : Shared) (H : Hp) (C : Addr) (cl : List (Str × Addr)) (fp : List Addr), PE (X.blk s H scope (compEnvC scope cl C X.env) fp) elt te) (hs : ∀ x, foldedSetIterable iter X.env x = pure x := by intro _; rfl) :
    PS X (.Assign [.Name y py] (.ListComp elt [⟨tg, iter, ifs, 0⟩] scope pos) spos) (tAsg (tLc wi g tt te (own.map (·.2))) (gName i)) := by
  intro pins s σ H D I h
  rw [exec_Assign_Name_used _ _ _ _ hsw]
  refine wpAny_bind (wpAny_standAt (wpAny_bind ?_))
  show wpAny _ X.A (do let _ ← comprehension (.ListComp elt [⟨tg, iter, ifs, 0⟩] scope pos) scope X.env (firstIterPos [⟨tg, iter, ifs, 0⟩] pos) (newList []) false (eval iter X.env) (some (assign (.Name y py) X.env))) _ _ s
  have h : tLc wi g tt te (own.map (·.2)) σ H (fun x H1 => gName i x σ H1 D.nx) := h
  refine wpAny_bind (thn (lc_core (Qf := fun _ s' => SP X pins D .next s') hc hN I hi ok hg ht he hs h fun L C s' m H' I' q hn f => ?_) fun _ s' hq => wpAny_pure (wpAny_pure hq))
  show wpAny _ _ (assign (.Name y py) X.env (.ref L)) _ _ _
  refine wpAny_assign_Name (store_ok2 (v := V.ref L) I' hN hy (.inl hyl) rfl (fun s2 I2 ⟨a, sb, ha⟩ => ?_) (.inr hyl))
  obtain ⟨f0, f1, f2, f3, f4, f5⟩ := f
  have haC : C ≠ a := by
    rcases ha with z | z
    · rw [z]; exact f1
    · exact fun e => f4 y a z e.symm
  refine ⟨m, hn.sameBut sb haC, fun h3 sb3 => ?_⟩
  exact ⟨_, H', I2.turned (t' := s2.toks) (fun b o hb e => (sb3.2 b hb).trans e) f0 f1 f3 f4 f5, q⟩
theorem sw_true {elt : Expr} {gs : List Comprehension} {scope : Scope} {pos py : Pos} {y : Str} {l : Nat} {env : Env} (hk : env.scope.kind = .function) (hy : env.scope.names.lookup y = some .local) (hl : (py.line == pos.line) = true)
    (ha : (scope.names.any fun (n, k) => n == y && (k == .local || k == .cell)) = false) : swapsWith (.ListComp elt gs scope pos) (some (.Name y py)) l env = pure true := by
  have ky : env.kindOf y = some .local := hy
  have hb : env.blockKind = .function := by unfold Env.blockKind; rw [hk]; rfl
  unfold swapsWith
  simp only [hb, ky, ha, Expr.pos, hl]
  rfl
end
theorem lc_range {lo : Int} {n : Nat} {g : TG} {tt : TT} {te : TE} {vs : List Nat} {σ : St} {H1 : Hp} {D : Addr} {Qd : Hp → Prop} (Pv : Nat → Hp → Prop) (h0 : Pv 0 (upd H1 D (.lst [])))
    (hs : ∀ i H, i < n → Pv i H → g (.int (lo + i)) (wipe σ vs) H fun σ2 H2 => wipe σ2 vs = wipe σ vs ∧ tt σ2 H2 fun b H3 =>
      if b = true then te σ2 H3 fun y H4 => ∃ acc, H4 D = some (.lst acc) ∧ acc.length < sizeLine ∧ Pv (i + 1) (upd H4 D (.lst (acc ++ [y]))) else Pv (i + 1) H3) (hd : ∀ H, Pv n H → Qd H) :
    ∃ W : Nat → Nat → Hp → Prop, (∃ m, W 0 m (upd H1 D (.lst []))) ∧ ∀ i m H, W i m H →
      ((Itr lo n).stop i H ∧ Qd H) ∨ ((Itr lo n).go i H ∧ ∃ Nx : Hp → Prop, (∀ H', Nx H' → ∃ m', m' < m ∧ W (i + 1) m' H') ∧ ∀ x H', (Itr lo n).yld i H x H' → g x (wipe σ vs) H' fun σ2 H2 => wipe σ2 vs = wipe σ vs ∧ tt σ2 H2 fun b H3 =>
        if b = true then te σ2 H3 fun y H4 => ∃ acc, H4 D = some (.lst acc) ∧ acc.length < sizeLine ∧ Nx (upd H4 D (.lst (acc ++ [y]))) else Nx H3) := by
  refine ⟨fun i m H => m = n - i ∧ i ≤ n ∧ Pv i H, ⟨n, by simp, Nat.zero_le _, h0⟩, ?_⟩
  rintro i m H ⟨rfl, hi, p⟩
  by_cases hlt : i < n
  · refine .inr ⟨hlt, Pv (i + 1), fun H' p' => ⟨n - (i + 1), by omega, rfl, hlt, p'⟩, fun x H' y => ?_⟩
    obtain ⟨e, y⟩ := y
    subst e y
    exact hs i _ hlt p
  · have e : i = n := by omega
    subst e
    exact .inl ⟨Nat.le_refl _, hd H p⟩
theorem lc_list {K : PySem.W.Frag} {a : Addr} {xs : List V} {g : TG} {tt : TT} {te : TE} {vs : List Nat} {σ : St} {H1 : Hp} {D : Addr} {Qd : Hp → Prop} (Pv : Nat → Hp → Prop) (h0 : Pv 0 (upd H1 D (.lst []))) (hl : ∀ i H, i ≤ xs.length → Pv i H → SqL K H a xs)
    (hs : ∀ i x H, xs[i]? = some x → Pv i H → g x (wipe σ vs) H fun σ2 H2 => wipe σ2 vs = wipe σ vs ∧ tt σ2 H2 fun b H3 =>
      if b = true then te σ2 H3 fun y H4 => ∃ acc, H4 D = some (.lst acc) ∧ acc.length < sizeLine ∧ Pv (i + 1) (upd H4 D (.lst (acc ++ [y]))) else Pv (i + 1) H3) (hd : ∀ H, Pv xs.length H → Qd H) :
    ∃ W : Nat → Nat → Hp → Prop, (∃ m, W 0 m (upd H1 D (.lst []))) ∧ ∀ i m H, W i m H →
      ((Itl K a).stop i H ∧ Qd H) ∨ ((Itl K a).go i H ∧ ∃ Nx : Hp → Prop, (∀ H', Nx H' → ∃ m', m' < m ∧ W (i + 1) m' H') ∧ ∀ x H', (Itl K a).yld i H x H' → g x (wipe σ vs) H' fun σ2 H2 => wipe σ2 vs = wipe σ vs ∧ tt σ2 H2 fun b H3 =>
        if b = true then te σ2 H3 fun y H4 => ∃ acc, H4 D = some (.lst acc) ∧ acc.length < sizeLine ∧ Nx (upd H4 D (.lst (acc ++ [y]))) else Nx H3) := by
  refine ⟨fun i m H => m = xs.length - i ∧ i ≤ xs.length ∧ Pv i H, ⟨xs.length, by simp, Nat.zero_le _, h0⟩, ?_⟩
  rintro i m H ⟨rfl, hi, p⟩
  have q := hl i H hi p
  by_cases hlt : i < xs.length
  · refine .inr ⟨⟨xs, xs[i], q, by simp [hlt]⟩, Pv (i + 1), fun H' p' => ⟨xs.length - (i + 1), by omega, rfl, hlt, p'⟩, fun x H' y => ?_⟩
    obtain ⟨e, y⟩ := y
    subst e
    exact hs i x _ (y xs q) p
  · have e : i = xs.length := by omega
    subst e
    exact .inl ⟨⟨xs, q, Nat.le_refl _⟩, hd H p⟩
def blkC (N : List Str) (sc scope : Scope) (own : List (Str × Nat)) : Bool :=
  (match scope.kind with | .function => true | _ => false) && (scope.names.all fun y => decide (scope.names.lookup y.1 = some y.2)) && (own.all fun p => decide (N[p.2]? = some p.1)) &&
    (scope.names.all fun y => match y.2 with
      | .free => (match sc.names.lookup y.1 with | some .cell => true | some .free => true | _ => false)
      | .local => decide (y.1 ∈ own.map (·.1)) || decide (y.1 ∉ N)
      | .cell => decide (y.1 ∈ own.map (·.1)) || decide (y.1 ∉ N)
      | _ => true)
theorem blkOk_by {N : List Str} {sc scope : Scope} {own : List (Str × Nat)} (h : blkC N sc scope own = true) : BlkOk N sc scope own := by
  unfold blkC at h
  simp only [Bool.and_eq_true, List.all_eq_true, decide_eq_true_eq] at h
  obtain ⟨⟨⟨h1, h2⟩, h3⟩, h4⟩ := h
  refine ⟨?_, h2, h3, fun y hy e => ?_, fun y hy e => ?_⟩
  · split at h1
    · assumption
    · cases h1
  · have q := h4 y hy
    simp only [e] at q
    split at q <;> first | exact .inl (by assumption) | exact .inr (by assumption) | cases q
  · have q := h4 y hy
    rcases e with e | e <;> (simp only [e, Bool.or_eq_true, decide_eq_true_eq] at q; exact q)
end L2
namespace L2
open PySem PySem.Spec PyProof.Rows
section
variable {prog : Program} {w : World} {A : Around} {R : Result → Shared → Prop} {s : Shared} {elt t0 i0 t1 i1 : Expr} {ifs0 ifs1 : List Expr} {scope : Scope} {pos : Pos} {it acc : Value} {env : Env}
end
section
variable {X : Cx}
end
end L2
namespace L2
open PySem PySem.Spec PyProof.Rows
section
variable {κ : Type} [DecidableEq κ]
end
section
variable {P : Program} {w : World} {H : Hp} {h : Heap} {a : Addr}
end
section
variable {X : Cx} {pins : List (Addr × Obj)} {σ : St} {H : Hp} {s : Shared} {a : Addr} {y v : V} {u r : Value} {o : Option V} {A : Around} {E : Value → Shared → Prop}
end
section
variable {X : Cx} {pins : List (Addr × Obj)} {σ : St} {H : Hp} {s : Shared} {a : Addr} {kvs : List (Key × V)} {k : Key} {u : Value} {A : Around} {E : Value → Shared → Prop}
end
section
variable {X : Cx} {o i e value : Expr} {pos pos' tpos : Pos} {td ty tv : TE}
end
section
variable {X : Cx} {pos : Pos}
end
section
variable {X : Cx} {pins : List (Addr × Obj)} {σ : St} {H : Hp} {s : Shared} {a : Addr} {y d : V} {u r : Value} {o : Option V} {A : Around} {E : Value → Shared → Prop}
end
section
variable {X : Cx} {o e f : Expr} {apos cpos : Pos} {td ty tx : TE}
end
section
variable {X : Cx} {pins : List (Addr × Obj)} {σ : St} {H : Hp} {s : Shared} {a : Addr} {kvs : List (Key × V)} {A : Around} {E : Value → Shared → Prop}
end
section
variable {X : Cx} {pins : List (Addr × Obj)} {σ : St} {H : Hp} {s : Shared} {a : Addr} {y : V} {u : Value} {A : Around} {E : Value → Shared → Prop}
end
end L2
namespace L2
open PySem PySem.Spec PyProof.Rows
section
variable {prog : Program} {w : World} {A : Around} {E : Value → Shared → Prop}
end
section
variable {X : Cx}
end
end L2
namespace L2
open PySem PySem.Spec PyProof.Rows
section
variable {X : Cx} {pins : List (Addr × Obj)} {σ : St} {H : Hp} {s : Shared} {h' : Heap}
theorem Inv.turnedL {t' : Nat} {ch : List Addr} (I : Inv X pins σ H s) (k : ∀ b o, b ∉ ch → s.heap.get? b = some o → h'.get? b = some o) (hf : ∀ b ∈ ch, FpOk X pins H b) : Inv X pins σ H { s with heap := h', toks := t' } := by
  have nit : ∀ b u, H b = some u → b ∉ ch := fun b u e z => by
    have q := (hf b z).1
    rw [q] at e; cases e
  refine I.step (g' := s.gens) (d' := s.drawn) (ch := ch) (fun b hb => ⟨(hf b hb).2.2.2.1, (hf b hb).2.1, (hf b hb).2.2.2.2.1, (hf b hb).2.2.2.2.2⟩) (fun b o _ _ hc e _ => k b o hc e) (fun b o _ _ hc e _ => ⟨o.slots, k b o hc e⟩)
    (fun _ _ _ _ n => n) (fun b o hc e => ⟨o, k b o hc e⟩) (fun _ _ e => e) (fun _ _ _ e => e) (fun b ps e => ⟨#[], by rw [e]; simp⟩) (fun m hm => ?_) (fun b u e => ?_) I.bare
  · obtain ⟨o, es, ep, ho, r⟩ := hm
    exact ⟨o, es, ep, k _ o (fun z => (hf _ z).2.1 rfl) ho, r⟩
  · refine (I.hok b u e).stay (fun c v hc q => k c v ?_ q) (fun _ q => q) fun _ _ q => q
    rcases hc with z | z
    · rw [z]; exact nit b u e
    · exact nit c _ z
theorem Inv.turnedNew {t' : Nat} {ch : List Addr} {T : Addr} {ob : HO} (I : Inv X pins σ H s) (k : ∀ b o, b ∉ ch → s.heap.get? b = some o → h'.get? b = some o) (hf : ∀ b ∈ ch, FpOk X pins H b) (hT : s.heap.objs.size ≤ T)
    (new : ObjOk X.prog X.w (upd H T ob) h' T ob) : Inv X pins σ (upd H T ob) { s with heap := h', toks := t' } := by
  have hn : H T = none := I.hok.fresh hT
  have nit : ∀ b u, H b = some u → b ∉ ch := fun b u e z => by
    have q := (hf b z).1
    rw [q] at e; cases e
  refine I.step (g' := s.gens) (d' := s.drawn) (ch := ch) (fun b hb => ⟨(hf b hb).2.2.2.1, (hf b hb).2.1, (hf b hb).2.2.2.2.1, (hf b hb).2.2.2.2.2⟩) (fun b o _ _ hc e _ => k b o hc e) (fun b o _ _ hc e _ => ⟨o.slots, k b o hc e⟩)
    (fun b o _ e n => ?_) (fun b o hc e => ⟨o, k b o hc e⟩) (fun b xs e => ?_) (fun b o u e => ?_) (fun b ps e => ⟨#[], ?_⟩) (fun m hm => ?_) (fun b u e => ?_) I.bare
  · rw [upd_ne (Nat.ne_of_lt (Nat.lt_of_lt_of_le (Heap.lt_size e) hT))]; exact n
  · rw [upd_ne (ne_of_none e hn)]; exact e
  · rw [upd_ne (ne_of_none e hn)]; exact e
  · rw [upd_ne (ne_of_none e hn), e]; simp
  · obtain ⟨o, es, ep, ho, r⟩ := hm
    exact ⟨o, es, ep, k _ o (fun z => (hf _ z).2.1 rfl) ho, r⟩
  · by_cases hb : b = T
    · subst hb
      rw [upd_same] at e
      cases e
      exact new
    · rw [upd_ne hb] at e
      refine (I.hok b u e).stay (fun c v hc q => k c v ?_ q) (fun c q => by rw [upd_ne (ne_of_none q hn)]; exact q) fun c xs q => by rw [upd_ne (ne_of_none q hn)]; exact q
      rcases hc with z | z
      · rw [z]; exact nit b u e
      · exact nit c _ z
end
section
variable {X : Cx}
theorem pi_one {tg : Expr} {pins : List (Addr × Obj)} {σ : St} {H : Hp} {s : Shared} {R : It → Hp → Prop} {J : It} {tn : Nat → Heap → Prop} {tk : Nat} (I : Inv X pins σ H s) (o : Obj)
    (T : Turn X.prog X.w X.K tg J [s.heap.objs.size] s.heap.objs.size tn) (st : tn 0 (s.heap.push o)) (q : R J H) : PIE X pins σ tg R (.ref s.heap.objs.size) { s with heap := s.heap.push o, toks := tk } := by
  refine ⟨s.heap.objs.size, [s.heap.objs.size], tn, J, H, rfl, I.kept fun b ob e => Heap.get?_push_of_some _ e, T, st, fun b hb => ?_, q⟩
  have e : b = s.heap.objs.size := by simpa using hb
  subst e
  exact I.fpOk (Nat.le_refl _) (I.hok.fresh (Nat.le_refl _))
end
section
variable {X : Cx} {tg : Expr}
end
section
variable {X : Cx} {tg : Expr}
end
def Its (x : Str) : It := ⟨fun i _ => i < x.cps.size, fun i H v H' => H' = H ∧ ∃ c, x.cps[i]? = some c ∧ v = .str ⟨#[c]⟩, fun i _ => x.cps.size ≤ i⟩
theorem turn_str {P : Program} {w : World} {K : PySem.W.Frag} {tg : Expr} (it : Addr) (x : Str) (t : Tok) (ty : String) (hty : ty = "str_ascii_iterator" ∨ ty = "str_iterator") :
    Turn P w K tg (Its x) [it] it (fun i h => h.IsStrIter it ty x t i) where
  mem := by simp
  obj := fun i h st b hb => by
    have e : b = it := by simpa using hb
    subst e
    obtain ⟨o, e, c, d⟩ := st
    exact ⟨o, e, fun v z => by rw [d] at z; cases z⟩
  keep := fun i h h' st k => let ⟨o, ho, r⟩ := st; ⟨o, k it (by simp) o ho, r⟩
  item := by
    intro X hP hw hK hc i pins s σ H E I hf st hg
    subst hP hw hK
    obtain ⟨f0, f1, f2, f3, f4, f5⟩ := hf it (by simp)
    have W : Walks X.prog X.w X.A it [it] [it] x.cps.size (SignAt x) (fun i h => h.IsStrIter it ty x t i) := by
      rcases hty with e | e
      · rw [e]; exact Walks.strAscii (I.ok.hd hc) it x t
      · rw [e]; exact Walks.strWide (I.ok.hd hc) it x t
    have hno : ["enumerate", "zip", "dict_itemiterator", "dict_reverseitemiterator", "odict_iterator", "itertools.zip_longest", "itertools.pairwise"].contains ty = false := by
      rcases hty with e | e
      · rw [e]; decide
      · rw [e]; decide
    refine W.item i s _ _ hg st fun v h' tk hv st' kk => ?_
    obtain ⟨c, u, hcx, rfl⟩ := hv
    have I1 : Inv X pins σ H { s with heap := h', toks := tk } := I.turned (fun b o hb e => kk b o (by simpa using hb) e) f0 f1 f3 f4 f5
    obtain ⟨oi, e, cc, dd⟩ := id st'
    exact ⟨_, rfl, go_of (s := { s with heap := h', toks := tk }) e cc dd hno ⟨.str ⟨#[c]⟩, H, I1, ⟨u, rfl⟩, ⟨rfl, c, hcx, rfl⟩, st', fun b hb => (hf b hb).1⟩⟩
  done := by
    intro X hP hw hK hc i pins s σ H E I hf st hg
    subst hP hw hK
    obtain ⟨f0, f1, f2, f3, f4, f5⟩ := hf it (by simp)
    have hx : x.cps[i]? = none := Array.getElem?_eq_none hg
    rcases hty with e | e
    · rw [e] at st
      exact wpAny_pyNext_ascii_end (I.ok.hd hc) st hx fun h' eb => ⟨rfl, I.turned (t' := s.toks) (fun b o hb e => eb b o hb e) f0 f1 f3 f4 f5⟩
    · rw [e] at st
      exact wpAny_pyNext_wide_end (I.ok.hd hc) st hx fun h' eb => ⟨rfl, I.turned (t' := s.toks) (fun b o hb e => eb b o hb e) f0 f1 f3 f4 f5⟩
  self := fun A i s Q E st h => by
    rcases hty with e | e
    · rw [e] at st; exact wpAny_pyIter_striter_ascii st h
    · rw [e] at st; exact wpAny_pyIter_striter_wide st h
def iStr (te : TE) : TI := fun σ H R => te σ H fun v H1 => ∃ x, v = .str x ∧ R (Its x) H1
theorem pi_str {X : Cx} {tg e : Expr} {te : TE} (he : PE X e te) : PI X tg e (iStr te) := by
  intro pins s σ H R I h
  refine thn (he pins s σ H _ I h) fun v s1 hqq => ?_
  obtain ⟨y, H1, I1, r1, x, ex, q⟩ := hqq
  subst ex
  obtain ⟨t, rfl⟩ := r1
  cases ha : x.cps.all (· < 128)
  · exact wpAny_pyIter_wide ha (pi_one (tk := s1.toks) I1 _ (turn_str _ x t "str_iterator" (.inr rfl)) ⟨_, Heap.get?_push_size _ rfl, rfl, rfl⟩ q)
  · exact wpAny_pyIter_ascii ha (pi_one (tk := s1.toks) I1 _ (turn_str _ x t "str_ascii_iterator" (.inl rfl)) ⟨_, Heap.get?_push_size _ rfl, rfl, rfl⟩ q)
section
variable {prog : Program} {w : World} {A : Around} {E : Value → Shared → Prop} {s : Shared}
end
section
variable {X : Cx} {pins : List (Addr × Obj)} {σ : St} {H : Hp} {s : Shared} {d : Addr} {o : Obj}
end
section
variable {P : Program} {w : World} {K : PySem.W.Frag} {tg : Expr} {d : Addr} {o : Obj} {es : Array DictEntry} {ep : Nat}
end
section
variable {X : Cx} {tg e : Expr} {td : TE} {apos cpos : Pos}
end
def Ite (K : PySem.W.Frag) (a : Addr) : It :=
  ⟨fun i H => ∃ (xs : List V) (x : V), SqL K H a xs ∧ xs[i]? = some x, fun i H v H' => ∃ T x, v = .ref T ∧ H T = none ∧ H' = upd H T (.tup [.int (i : Nat), x]) ∧ ∀ xs, SqL K H a xs → xs[i]? = some x, fun i H => ∃ xs : List V, SqL K H a xs ∧ xs.length ≤ i⟩
theorem turn_enum {P : Program} {w : World} {K : PySem.W.Frag} {elts : List Expr} {kk : Nat} {tpos : Pos} (a e it : Addr) :
    Turn P w K (.Tuple elts kk tpos) (Ite K a) [e, it] e (fun i h => (∃ old, IsEnum h e it ((i : Nat) : Int) old) ∧ h.IsListIter it a i ∧ e ≠ it) where
  mem := by simp
  obj := fun i h st b hb => by
    obtain ⟨⟨old, he⟩, ⟨o, ho, hc, hd⟩, _⟩ := st
    have e' : b = e ∨ b = it := by simpa using hb
    rcases e' with z | z
    · rw [z]; exact ⟨_, he, fun v q => nomatch q⟩
    · rw [z]; exact ⟨o, ho, fun v q => by rw [hd] at q; cases q⟩
  keep := fun i h h' st k => let ⟨⟨old, he⟩, hi, hne⟩ := st; ⟨⟨old, k e (by simp) _ he⟩, hi.at fun o q => k it (by simp) o q, hne⟩
  item := by
    intro X hP hw hK hc i pins s σ H E I hf st hg
    subst hP hw hK
    obtain ⟨⟨old, he⟩, hit, hne⟩ := st
    obtain ⟨xs, x, hq, hx⟩ := hg
    obtain ⟨its, rv, p, hz⟩ := I.list hq
    obtain ⟨u, hu, ru⟩ := rv.get hx
    have hel : e < s.heap.objs.size := Heap.lt_size he
    have hil : it < s.heap.objs.size := by obtain ⟨_, q, _⟩ := hit; exact Heap.lt_size q
    refine wpAny_pyNext_enum_item he hit p.isList (x := u) (by simpa using hu) hne fun h' ho hit' hT hsz hk => ?_
    refine ⟨_, rfl, wpAny_letOwnedTupleGo_enum (s := { s with heap := h', toks := s.toks + 1 }) ho fun h'' he' sb => ?_⟩
    have hT2 : h''.get? s.heap.objs.size = some { cls := .type "tuple", data := .seq #[.int i s.toks, u] } := (sb.2 _ (Nat.ne_of_gt hel)).trans hT
    have new : ObjOk X.prog X.w (upd H s.heap.objs.size (.tup [.int (i : Nat), x])) h'' s.heap.objs.size (.tup [.int (i : Nat), x]) :=
      ⟨by show 2 ≤ sizeLine; decide, [.int i s.toks, u], .cons ⟨_, rfl⟩ (.cons ru .nil), ⟨_, hT2, rfl, _, rfl⟩⟩
    have I1 : Inv X pins σ (upd H s.heap.objs.size (.tup [.int (i : Nat), x])) { s with heap := h'', toks := s.toks + 1 } :=
      I.turnedNew (ch := [e, it]) (fun b ob hb q => (sb.2 b (fun z => hb (by simp [z]))).trans (hk b ob (fun z => hb (by simp [z])) (fun z => hb (by simp [z])) q)) hf (Nat.le_refl _) new
    refine ⟨.ref s.heap.objs.size, _, I1, rfl, ⟨_, x, rfl, I.hok.fresh (Nat.le_refl _), rfl, fun ys hy => by rw [I.list_inj hy hq]; exact hx⟩, ⟨⟨u, ?_⟩, hit'.at fun o q => (sb.2 it (Ne.symm hne)).trans q, hne⟩, fun b hb => ?_⟩
    · have e1 : ((i + 1 : Nat) : Int) = (i : Int) + 1 := by omega
      rw [e1]; exact he'
    · have hb' : b < s.heap.objs.size := by
        have e' : b = e ∨ b = it := by simpa using hb
        rcases e' with z | z
        · rw [z]; exact hel
        · rw [z]; exact hil
      rw [upd_ne (Nat.ne_of_lt hb')]
      exact (hf b hb).1
  done := by
    intro X hP hw hK hc i pins s σ H E I hf st hg
    subst hP hw hK
    obtain ⟨⟨old, he⟩, hit, hne⟩ := st
    obtain ⟨xs, hq, hx⟩ := hg
    obtain ⟨its, rv, p, hz⟩ := I.list hq
    obtain ⟨f0, f1, f2, f3, f4, f5⟩ := hf it (by simp)
    have hl := rv.length
    exact wpAny_pyNext_enum_end (I.ok.hd hc) he hit p.isList (by simp; omega) fun h' eb => ⟨rfl, I.turned (t' := s.toks) (fun b o hb q => eb b o hb q) f0 f1 f3 f4 f5⟩
  self := fun A i s Q E st h => let ⟨⟨_, he⟩, _⟩ := st; wpAny_pyIter_enum he h
def iEnum (K : PySem.W.Frag) (ta : TA) : TI := fun σ H R => ta σ H fun vs H1 => ∃ a xs, vs = [.ref a] ∧ SqL K H1 a xs ∧ R (Ite K a) H1
theorem pi_enum {X : Cx} {e : Expr} {ta : TA} {p pos tpos : Pos} {elts : List Expr} {kk : Nat} (hg : Gl X "enumerate") (hm : X.mg "enumerate" = none) (ha : PA X [e] ta) (hs : starEach [e] X.env = [(false, eval e X.env)] := by rfl) :
    PI X (.Tuple elts kk tpos) (.Call (.Name "enumerate" p) [e] [] pos) (iEnum X.K ta) := by
  intro pins s σ H R I h
  refine Call_ (ld_blt I hg hm boot_enumerate (PyProof.Rows.callWith_type1 (thn (ha pos pins s σ H _ I h) fun us s1 hqq => ?_) hs rfl))
  obtain ⟨vs, H1, I1, r1, q1⟩ := hqq
  obtain ⟨a, xs, ex, hq, q⟩ := q1
  subst ex
  cases r1 with
  | cons r rr =>
    cases rr
    cases r
    obtain ⟨its, rv, p', hz⟩ := I1.list hq
    refine call_enumerate_list p'.isList fun h' he hit hsz hk => wpAny_pyIter_enum he ?_
    have I2 : Inv X pins σ H1 { s1 with heap := h' } := I1.kept (t' := s1.toks) hk
    refine ⟨s1.heap.objs.size + 1, [s1.heap.objs.size + 1, s1.heap.objs.size], _, _, H1, rfl, I2, turn_enum a (s1.heap.objs.size + 1) s1.heap.objs.size, ⟨⟨.none, he⟩, hit, Nat.succ_ne_self _⟩, fun b hb => ?_, q⟩
    have e' : b = s1.heap.objs.size + 1 ∨ b = s1.heap.objs.size := by simpa using hb
    have hle : s1.heap.objs.size ≤ b := by
      rcases e' with z | z
      · rw [z]; exact Nat.le_add_right _ _
      · rw [z]; exact Nat.le_refl _
    exact I1.fpOk hle (I1.hok.fresh hle)
theorem boot_zip5 : bootBuiltins "zip" = some (.type "zip") := by decide +kernel
def Itz (K : PySem.W.Frag) (a b : Addr) : It :=
  ⟨fun i H => ∃ (xs ys : List V) (x y : V), SqL K H a xs ∧ SqL K H b ys ∧ xs[i]? = some x ∧ ys[i]? = some y,
    fun i H v H' => ∃ T x y, v = .ref T ∧ H T = none ∧ H' = upd H T (.tup [x, y]) ∧ (∀ xs, SqL K H a xs → xs[i]? = some x) ∧ ∀ ys, SqL K H b ys → ys[i]? = some y,
    fun i H => ∃ xs ys : List V, SqL K H a xs ∧ SqL K H b ys ∧ (xs.length ≤ i ∨ ys.length ≤ i)⟩
theorem turn_zip {P : Program} {w : World} {K : PySem.W.Frag} {elts : List Expr} {kk : Nat} {tpos : Pos} {a b z TI TO i1 i2 : Addr} (D : ZipApart z TI TO i1 i2 a b) :
    Turn P w K (.Tuple elts kk tpos) (Itz K a b) [z, TI, TO, i1, i2] z (fun i h => IsZip h z TI TO .none ∧ IsPair h TI (.ref i1) (.ref i2) ∧ (∃ x y, IsPair h TO x y) ∧ h.IsListIter i1 a i ∧ h.IsListIter i2 b i) where
  mem := by simp
  obj := fun i h st c hc => by
    obtain ⟨hz, hTI, ⟨x, y, hTO⟩, ⟨o1, e1, _, d1⟩, ⟨o2, e2, _, d2⟩⟩ := st
    have e' : c = z ∨ c = TI ∨ c = TO ∨ c = i1 ∨ c = i2 := by simpa using hc
    rcases e' with q | q | q | q | q
    · rw [q]; exact ⟨_, hz, fun v q => nomatch q⟩
    · rw [q]; exact ⟨_, hTI, fun v q => nomatch q⟩
    · rw [q]; exact ⟨_, hTO, fun v q => nomatch q⟩
    · rw [q]; exact ⟨o1, e1, fun v q => by rw [d1] at q; cases q⟩
    · rw [q]; exact ⟨o2, e2, fun v q => by rw [d2] at q; cases q⟩
  keep := fun i h h' st k => by
    obtain ⟨hz, hTI, ⟨x, y, hTO⟩, h1, h2⟩ := st
    exact ⟨k z (by simp) _ hz, k TI (by simp) _ hTI, ⟨x, y, k TO (by simp) _ hTO⟩, h1.at fun o q => k i1 (by simp) o q, h2.at fun o q => k i2 (by simp) o q⟩
  item := by
    intro X hP hw hK hc i pins s σ H E I hf st hg
    subst hP hw hK
    obtain ⟨hz, hTI, ⟨x0, y0, hTO⟩, h1, h2⟩ := st
    obtain ⟨xs, ys, x, y, hqx, hqy, hx, hy⟩ := hg
    obtain ⟨its, rv, p, _⟩ := I.list hqx
    obtain ⟨its2, rv2, p2, _⟩ := I.list hqy
    obtain ⟨u, hu, ru⟩ := rv.get hx
    obtain ⟨u2, hu2, ru2⟩ := rv2.get hy
    have hzl : z < s.heap.objs.size := Heap.lt_size hz
    refine wpAny_pyNext_zip_item D hz hTI hTO h1 h2 p.isList p2.isList (x := u) (y := u2) (by simpa using hu) (by simpa using hu2) fun h' z' TO' h1' h2' hT hsz hk => ?_
    refine ⟨_, rfl, wpAny_letOwnedTupleGo_zip (s := { s with heap := h' }) z' fun h'' z'' sb => ?_⟩
    have hT2 : h''.get? s.heap.objs.size = some { cls := .type "tuple", data := .seq #[u, u2] } := (sb.2 _ (Nat.ne_of_gt hzl)).trans hT
    have new : ObjOk X.prog X.w (upd H s.heap.objs.size (.tup [x, y])) h'' s.heap.objs.size (.tup [x, y]) :=
      ⟨by show 2 ≤ sizeLine; decide, [u, u2], .cons ru (.cons ru2 .nil), ⟨_, hT2, rfl, _, rfl⟩⟩
    have I1 : Inv X pins σ (upd H s.heap.objs.size (.tup [x, y])) { s with heap := h'' } :=
      I.turnedNew (t' := s.toks) (ch := [z, TI, TO, i1, i2]) (fun c o hb q => (sb.2 c (fun q' => hb (by simp [q']))).trans (hk c o (fun q' => hb (by simp [q'])) (fun q' => hb (by simp [q'])) (fun q' => hb (by simp [q'])) (fun q' => hb (by simp [q'])) q)) hf (Nat.le_refl _) new
    refine ⟨.ref s.heap.objs.size, _, I1, rfl, ⟨_, x, y, rfl, I.hok.fresh (Nat.le_refl _), rfl, fun l hl => by rw [I.list_inj hl hqx]; exact hx, fun l hl => by rw [I.list_inj hl hqy]; exact hy⟩, ⟨z'', ?_, ⟨u, u2, ?_⟩, ?_, ?_⟩, fun c hcm => ?_⟩
    · exact (sb.2 _ D.TIz).trans (hk _ _ D.TIz D.TITO D.TIi1 D.TIi2 hTI)
    · exact (sb.2 _ D.TOz).trans TO'
    · exact h1'.at fun o q => (sb.2 _ D.i1z).trans q
    · exact h2'.at fun o q => (sb.2 _ D.i2z).trans q
    · have hlt : c < s.heap.objs.size := by
        have e' : c = z ∨ c = TI ∨ c = TO ∨ c = i1 ∨ c = i2 := by simpa using hcm
        rcases e' with q | q | q | q | q
        · rw [q]; exact hzl
        · rw [q]; exact Heap.lt_size hTI
        · rw [q]; exact Heap.lt_size hTO
        · rw [q]; obtain ⟨_, e1, _⟩ := h1; exact Heap.lt_size e1
        · rw [q]; obtain ⟨_, e2, _⟩ := h2; exact Heap.lt_size e2
      rw [upd_ne (Nat.ne_of_lt hlt)]
      exact (hf c hcm).1
  done := by
    intro X hP hw hK hc i pins s σ H E I hf st hg
    subst hP hw hK
    obtain ⟨hz, hTI, ⟨x0, y0, hTO⟩, h1, h2⟩ := st
    obtain ⟨xs, ys, hqx, hqy, hend⟩ := hg
    obtain ⟨its, rv, p, _⟩ := I.list hqx
    obtain ⟨its2, rv2, p2, _⟩ := I.list hqy
    have l1 := rv.length
    have l2 := rv2.length
    have he : its.toArray[i]? = none ∨ its2.toArray[i]? = none := by
      rcases hend with q | q
      · exact .inl (by simp; omega)
      · exact .inr (by simp; omega)
    exact wpAny_pyNext_zip_end (I.ok.hd hc) D hz hTI hTO h1 h2 p.isList p2.isList he fun h' hk => ⟨rfl, I.turnedL (t' := s.toks) (ch := [z, TI, TO, i1, i2]) (fun c o hb q =>
      hk c o (fun q' => hb (by simp [q'])) (fun q' => hb (by simp [q'])) (fun q' => hb (by simp [q'])) (fun q' => hb (by simp [q'])) q) hf⟩
  self := fun A i s Q E st h => wpAny_pyIter_zip st.1 h
def iZip (K : PySem.W.Frag) (ta : TA) : TI := fun σ H R => ta σ H fun vs H1 => ∃ a b xs ys, vs = [.ref a, .ref b] ∧ SqL K H1 a xs ∧ SqL K H1 b ys ∧ R (Itz K a b) H1
theorem pi_zip {X : Cx} {e e2 : Expr} {ta : TA} {p pos tpos : Pos} {elts : List Expr} {kk : Nat} (hg : Gl X "zip") (hm : X.mg "zip" = none) (ha : PA X [e, e2] ta)
    (hs : starEach [e, e2] X.env = (false, eval e X.env) :: starEach [e2] X.env := by rfl) (hpl : (backTo pos (starEach [e2] X.env)).any (·.1) = false := by rfl) :
    PI X (.Tuple elts kk tpos) (.Call (.Name "zip" p) [e, e2] [] pos) (iZip X.K ta) := by
  intro pins s σ H R I h
  refine Call_ (ld_blt I hg hm boot_zip5 (PyProof.Rows.callWith_type1 (thn (ha pos pins s σ H _ I h) fun us s1 hqq => ?_) hs hpl))
  obtain ⟨vs, H1, I1, r1, q1⟩ := hqq
  obtain ⟨a, b, xs, ys, ex, hqx, hqy, q⟩ := q1
  subst ex
  cases r1 with
  | cons r rr =>
    cases rr with
    | cons r' rr =>
      cases rr
      cases r
      cases r'
      obtain ⟨its, rv, p1, _⟩ := I1.list hqx
      obtain ⟨its2, rv2, p2, _⟩ := I1.list hqy
      have la : a < s1.heap.objs.size := p1.lt
      have lb : b < s1.heap.objs.size := p2.lt
      refine call_zip_2 p1.isList p2.isList fun h' hz hTI hTO h1 h2 hsz hk => wpAny_pyIter_zip hz ?_
      have I2 : Inv X pins σ H1 { s1 with heap := h' } := I1.kept (t' := s1.toks) hk
      refine ⟨s1.heap.objs.size + 4, [s1.heap.objs.size + 4, s1.heap.objs.size + 2, s1.heap.objs.size + 3, s1.heap.objs.size, s1.heap.objs.size + 1], _, _, H1, rfl, I2, turn_zip (PySem.W.ktu_apart s1.heap.objs.size a b la lb), ⟨hz, hTI, ⟨_, _, hTO⟩, h1, h2⟩, fun c hcm => ?_, q⟩
      have e' : c = s1.heap.objs.size + 4 ∨ c = s1.heap.objs.size + 2 ∨ c = s1.heap.objs.size + 3 ∨ c = s1.heap.objs.size ∨ c = s1.heap.objs.size + 1 := by simpa using hcm
      have hle : s1.heap.objs.size ≤ c := by
        rcases e' with z | z | z | z | z
        · rw [z]; exact Nat.le_add_right _ _
        · rw [z]; exact Nat.le_add_right _ _
        · rw [z]; exact Nat.le_add_right _ _
        · rw [z]; exact Nat.le_refl _
        · rw [z]; exact Nat.le_add_right _ _
      exact I1.fpOk hle (I1.hok.fresh hle)
end L2
section 
namespace Bits
open PySem PyProof.Rows
end Bits
end 
section 
namespace TL
open PySem PySem.Builtin PySem.Builtin.Str PySem.StrLaws
abbrev tl (x : Str) : List Nat := x.cps.toList
end TL
end 
namespace L2
open PySem PySem.Spec PyProof.Rows
section
variable {X : Cx} {pins : List (Addr × Obj)} {σ : St} {H : Hp} {s : Shared} {Q : VK}
end
section
variable {X : Cx}
end
section
variable {X : Cx} {o e : Expr} {to te : TE}
end
end L2
namespace L2
open PySem PySem.Spec PyProof.Rows
section
variable {X : Cx}
end
end L2
namespace Att
open PySem PySem.W PySem.Calls PyProof.Rows
theorem ints_of_wellAll {P : Params} {h : Heap} : ∀ (ns : List Int) (vs : List Value), WellAll P h vs (ns.map WData.int) → IntsAre vs ns := by
  intro ns
  induction ns with
  | nil =>
    intro vs w
    rw [List.map_nil] at w
    cases w
    exact .nil
  | cons n ns ih =>
    intro vs w
    rw [List.map_cons] at w
    cases w with
    | cons a b =>
      cases a
      exact .cons _ _ (ih _ b)
section
variable {prog : Program} {w : World} {A : Around} {E : Value → Shared → Prop} {s : Shared} {K : Frag}
end
end Att
namespace L2
open PySem PySem.Spec PyProof.Rows
theorem vals_ints : ∀ {vs : List Value} {ns : List Int}, IntsAre vs ns → Vals (ns.map V.int) vs
  | _, _, .nil => .nil
  | _, _, .cons n t h => .cons ⟨t, rfl⟩ (vals_ints h)
end L2
namespace L2
open PySem PySem.Spec PyProof.Rows
end L2
namespace L2
open PySem PySem.Spec PyProof.Rows
def inClass (s : Stmt) (j : Nat) : Stmt := match s with
  | .ClassDef _ _ _ body _ _ _ _ _ _ _ => body.getD j (.Pass ⟨0, 0, 0, 0⟩)
  | _ => .Pass ⟨0, 0, 0, 0⟩
def defArgs (s : Stmt) : Arguments := match s with
  | .FunctionDef _ a _ _ _ _ _ _ _ _ => a
  | _ => { posonlyargs := [], args := [], vararg := none, kwonlyargs := [], kw_defaults := [], kwarg := none, defaults := [] }
def defBody (s : Stmt) : List Stmt := match s with
  | .FunctionDef _ _ b _ _ _ _ _ _ _ => b
  | _ => []
def defScope (s : Stmt) : Scope := match s with
  | .FunctionDef _ _ _ _ _ _ sc _ _ _ => sc
  | _ => { kind := .function, names := [], isGenerator := false, isCoroutine := false }
abbrev CX0 : CXT := fun _ _ _ _ _ _ => False
abbrev E0 : XK := fun _ _ _ => False
theorem pass0 {X : Cx} : Passes CX0 X E0 := fun _ _ _ _ _ _ _ h => h.elim
structure Fun (K : PySem.W.Frag) (x qual : Str) (st : Stmt) (f : Addr) (fd : FuncData) : Prop where
  ex : ∃ (oc : Value) (od : Option Addr) (kV doc pm : Value) (an : Option Addr) (cdv ct : Value) (osl : Array (Option Value)),
    fd = PySem.W.fnOf x qual (defArgs st) (defBody st) (defScope st) .none kV doc pm an cdv ct ∧ K.lookup f = some ⟨oc, od, .func fd, osl⟩ ∧ PySem.W.codeIn K cdv qual = true
  kp : PySem.W.keepIn K (.ref f) = true
section
variable {P : Program} {w : World} {K : PySem.W.Frag} {mg : Str → Option Value} {base : Heap}
theorem Fun.ok {x qual : Str} {st : Stmt} {f : Addr} {fd : FuncData} {N ps : List Str} {k : Nat} {sp : Sp} (F : Fun K x qual st f fd) (S : FnScope N ps (defScope st)) (len : ∀ vs H Q E, sp vs H Q E → vs.length = ps.length)
    (hbody : ∀ (cdv : Value) (A : Around) (outer : List Env) (s : Shared) (H : Hp) (vs : List V) (Q : VK) (E : XK), Room k (A.deeper (envOfC qual (defScope st) s.heap.objs.size f cdv)) → sp vs H Q E →
      ∃ t, PSs (cxOf CX0 P w K mg base N qual (defScope st) f cdv A outer s H E).nox (defBody st) t ∧ t { nx := fun _ H' => Q .non H', rt := Q } (start N vs) H) : FnOk P w K mg base CX0 (k + 1) f fd ps sp := by
  obtain ⟨oc, od, kV, doc, pm, an, cdv, ct, osl, rfl, lk, hcd⟩ := F.ex
  refine fn_of lk hcd S len fun A outer s H vs Q E hr hsp => ?_
  obtain ⟨t, h, q⟩ := hbody cdv A outer s H vs Q E hr hsp
  exact ⟨t, h.nox, q⟩
theorem Fun.binds {x qual : Str} {st : Stmt} {f : Addr} {fd : FuncData} {ps : List Str} (F : Fun K x qual st f fd)
    (h : ∀ (kV doc pm : Value) (an : Option Addr) (cdv ct : Value) (us : List Value), us.length = ps.length → bindArgs (PySem.W.fnOf x qual (defArgs st) (defBody st) (defScope st) .none kV doc pm an cdv ct) ⟨us, []⟩ = pure (ps.zip us)) : Binds K fd ps [] := by
  obtain ⟨oc, od, kV, doc, pm, an, cdv, ct, osl, rfl, lk, hcd⟩ := F.ex
  exact .all (h kV doc pm an cdv ct)
theorem fun_mk {x qual : Str} {st : Stmt} {f : Addr} {oc : Value} {od an : Option Addr} {osl : Array (Option Value)} {kV doc pm cdv ct : Value} (l : K.lookup f = some ⟨oc, od, .func (PySem.W.fnOf x qual (defArgs st) (defBody st) (defScope st) .none kV doc pm an cdv ct), osl⟩)
    (c : PySem.W.codeIn K cdv qual = true) (k : PySem.W.keepIn K (.ref f) = true) : Fun K x qual st f (PySem.W.fnOf x qual (defArgs st) (defBody st) (defScope st) .none kV doc pm an cdv ct) := ⟨⟨oc, od, kV, doc, pm, an, cdv, ct, osl, rfl, l, c⟩, k⟩
end
section
variable {X : Cx}
theorem pv (i : Nat) {x : Str} {pos : Pos} (hN : X.N[i]? = some x := by rfl) (hv : Vis X.env.scope x := by first | exact Or.inl rfl | exact Or.inr (Or.inl rfl) | exact Or.inr (Or.inr rfl)) (hd : (x == ("__debug__" : Str)) = false := by decide)
    (hcd : (x == ("__classdict__" : Str)) = false := by decide) : PE X (.Name x pos) (tVar i) := pe_var hN hv hd hcd
end
theorem iteF {A B : Prop} (h : B) : if false = true then A else B := by
  rw [if_neg Bool.false_ne_true]
  exact h
theorem iteT {A B : Prop} (h : A) : if true = true then A else B := by
  rw [if_pos rfl]
  exact h
def Same (H H' : Hp) : Prop := ∀ b o, H b = some o → H' b = some o
theorem Same.refl (H : Hp) : Same H H := fun _ _ h => h
theorem Same.trans {H H1 H2 : Hp} (a : Same H H1) (b : Same H1 H2) : Same H H2 := fun c o h => b c o (a c o h)
theorem Same.free {H H' : Hp} (e : Same H H') {l : Addr} (h : H' l = Option.none) : H l = Option.none := by
  cases q : H l with
  | none => rfl
  | some o =>
    rw [e l o q] at h
    cases h
theorem Same.seq {K : PySem.W.Frag} {H H' : Hp} {a : Addr} {xs : List V} (e : Same H H') (h : SqL K H a xs) : SqL K H' a xs := by
  rcases h with (h | ⟨o, h⟩) | h
  · exact .inl (.inl (e _ _ h))
  · exact .inl (.inr ⟨o, e _ _ h⟩)
  · exact .inr h
section
variable {κ : Type} [DecidableEq κ]
end
theorem at_of {xs : List V} {z : Int} {j : Nat} {v : V} (e : z = (j : Int)) (h : xs[j]? = some v) : atI xs z = some v := by
  rw [e]
  exact atI_nat h
theorem nd_ix {α : Type} {l : List α} (hN : l.Nodup) {i j : Nat} {x : α} (a : l[i]? = some x) (b : l[j]? = some x) : i = j := by
  obtain ⟨h1, e1⟩ := List.getElem?_eq_some_iff.mp a
  obtain ⟨h2, e2⟩ := List.getElem?_eq_some_iff.mp b
  exact (List.getElem_inj hN).mp (e1.trans e2.symm)
end L2
namespace My
theorem xor_half (a b : Nat) : (a ^^^ b) / 2 = (a / 2) ^^^ (b / 2) := Nat.xor_div_two_pow (n := 1)
theorem and_half (a b : Nat) : (a &&& b) / 2 = (a / 2) &&& (b / 2) := Nat.and_div_two_pow (n := 1)
theorem xor_low (a b : Nat) : (a ^^^ b) % 2 = (a % 2) ^^^ (b % 2) := Nat.xor_mod_two_pow (n := 1)
theorem and_low (a b : Nat) : (a &&& b) % 2 = (a % 2) &&& (b % 2) := Nat.and_mod_two_pow (n := 1)
theorem or_half (a b : Nat) : (a ||| b) / 2 = (a / 2) ||| (b / 2) := Nat.or_div_two_pow (n := 1)
theorem or_low (a b : Nat) : (a ||| b) % 2 = (a % 2) ||| (b % 2) := Nat.or_mod_two_pow (n := 1)
theorem xa {a b x n : Nat} (h : a / 2 + b / 2 = x / 2 + 2 * (n / 2)) (l : a % 2 + b % 2 = x % 2 + 2 * (n % 2)) : a + b = x + 2 * n := by omega
theorem oa {a b x n : Nat} (h : a / 2 + b / 2 = x / 2 + n / 2) (l : a % 2 + b % 2 = x % 2 + n % 2) : a + b = x + n := by omega
theorem xor_and : ∀ (a b : Nat), a + b = (a ^^^ b) + 2 * (a &&& b) := by
  intro a
  induction a using Nat.strongRecOn with
  | _ a ih =>
    intro b
    by_cases h0 : a = 0
    · subst h0; simp
    · have h := ih (a / 2) (by omega) (b / 2)
      rw [← xor_half, ← and_half] at h
      have l1 := xor_low a b
      have l2 := and_low a b
      rcases Nat.mod_two_eq_zero_or_one a with ha | ha <;> rcases Nat.mod_two_eq_zero_or_one b with hb | hb <;> rw [ha, hb] at l1 l2 <;> simp only [Nat.reduceXor, Nat.reduceAnd, Nat.reduceOr, Nat.xor_self, Nat.and_self, Nat.or_self, Nat.xor_zero, Nat.zero_xor, Nat.and_zero, Nat.zero_and, Nat.or_zero, Nat.zero_or] at l1 l2 <;> exact xa h (by rw [ha, hb, l1, l2])
theorem or_and : ∀ (a b : Nat), a + b = (a ||| b) + (a &&& b) := by
  intro a
  induction a using Nat.strongRecOn with
  | _ a ih =>
    intro b
    by_cases h0 : a = 0
    · subst h0; simp
    · have h := ih (a / 2) (by omega) (b / 2)
      rw [← or_half, ← and_half] at h
      have l1 := or_low a b
      have l2 := and_low a b
      rcases Nat.mod_two_eq_zero_or_one a with ha | ha <;> rcases Nat.mod_two_eq_zero_or_one b with hb | hb <;> rw [ha, hb] at l1 l2 <;> simp only [Nat.reduceXor, Nat.reduceAnd, Nat.reduceOr, Nat.xor_self, Nat.and_self, Nat.or_self, Nat.xor_zero, Nat.zero_xor, Nat.and_zero, Nat.zero_and, Nat.or_zero, Nat.zero_or] at l1 l2 <;> exact oa h (by rw [ha, hb, l1, l2])
end My
namespace My
def P : Nat := 0x82F63B78
def stp (c : Nat) : Nat := if c % 2 = 1 then Nat.xor (c / 2) 0x82F63B78 else c / 2
def sel (c : Nat) : Nat := if c % 2 = 1 then 0x82F63B78 else 0
theorem stp_eq (c : Nat) : stp c = (c / 2) ^^^ sel c := by
  unfold stp sel
  split
  · rfl
  · simp
theorem sel_xor (a b : Nat) : sel (a ^^^ b) = sel a ^^^ sel b := by
  have h : (a ^^^ b) % 2 = (a % 2) ^^^ (b % 2) := Nat.xor_mod_two_pow (n := 1)
  unfold sel
  rw [h]
  rcases Nat.mod_two_eq_zero_or_one a with ha | ha <;> rcases Nat.mod_two_eq_zero_or_one b with hb | hb <;> rw [ha, hb] <;> decide
theorem stp_xor (a b : Nat) : stp (a ^^^ b) = stp a ^^^ stp b := by
  rw [stp_eq, stp_eq, stp_eq, sel_xor]
  have h : (a ^^^ b) / 2 = (a / 2) ^^^ (b / 2) := Nat.xor_div_two_pow (n := 1)
  rw [h]
  rw [Nat.xor_assoc, Nat.xor_assoc]
  congr 1
  rw [← Nat.xor_assoc, ← Nat.xor_assoc, Nat.xor_comm (sel a)]
theorem stp_even (q : Nat) : stp (2 * q) = q := by
  unfold stp
  rw [if_neg (by omega)]
  omega
def stp4 (c : Nat) : Nat := stp (stp (stp (stp c)))
theorem stp4_xor (a b : Nat) : stp4 (a ^^^ b) = stp4 a ^^^ stp4 b := by
  unfold stp4
  rw [stp_xor, stp_xor, stp_xor, stp_xor]
theorem stp4_16 (q : Nat) : stp4 (16 * q) = q := by
  unfold stp4
  have h : 16 * q = 2 * (2 * (2 * (2 * q))) := by omega
  rw [h, stp_even, stp_even, stp_even, stp_even]
def tab8 : List Nat := [0, 4067132163, 3778769143, 324072436, 3348797215, 904991772, 648144872, 3570033899, 2329499855, 2024987596, 1809983544, 2575936315, 1296289744, 3207089363, 2893594407, 1578318884, 274646895, 3795141740, 4049975192, 51262619, 3619967088, 632279923, 922689671, 3298075524, 2592579488, 1760304291, 2075979607, 2312596564, 1562183871, 2943781820, 3156637768, 1313733451, 549293790, 3537243613, 3246849577, 871202090, 3878099393, 357341890, 102525238, 4101499445, 2858735121, 1477399826, 1264559846, 3107202533, 1845379342, 2677391885, 2361733625, 2125378298, 820201905, 3263744690, 3520608582, 598981189, 4151959214, 85089709, 373468761, 3827903834, 3124367742, 1213305469, 1526817161, 2842354314, 2107672161, 2412447074, 2627466902, 1861252501, 1098587580, 3004210879, 2688576843, 1378610760, 2262928035, 1955203488, 1742404180, 2511436119, 3416409459, 969524848, 714683780, 3639785095, 205050476, 4266873199, 3976438427, 526918040, 1361435347, 2739821008, 2954799652, 1114974503, 2529119692, 1691668175, 2005155131, 2247081528, 3690758684, 697762079, 986182379, 3366744552, 476452099, 3993867776, 4250756596, 255256311, 1640403810, 2477592673, 2164122517, 1922457750, 2791048317, 1412925310, 1197962378, 3037525897, 3944729517, 427051182, 170179418, 4165941337, 746937522, 3740196785, 3451792453, 1070968646, 1905808397, 2213795598, 2426610938, 1657317369, 3053634322, 1147748369, 1463399397, 2773627110, 4215344322, 153784257, 444234805, 3893493558, 1021025245, 3467647198, 3722505002, 797665321, 2197175160, 1889384571, 1674398607, 2443626636, 1164749927, 3070701412, 2757221520, 1446797203, 137323447, 4198817972, 3910406976, 461344835, 3484808360, 1037989803, 781091935, 3705997148, 2460548119, 1623424788, 1939049696, 2180517859, 1429367560, 2807687179, 3020495871, 1180866812, 410100952, 3927582683, 4182430767, 186734380, 3756733383, 763408580, 1053836080, 3434856499, 2722870694, 1344288421, 1131464017, 2971354706, 1708204729, 2545590714, 2229949006, 1988219213, 680717673, 3673779818, 3383336350, 1002577565, 4010310262, 493091189, 238226049, 4233660802, 2987750089, 1082061258, 1395524158, 2705686845, 1972364758, 2279892693, 2494862625, 1725896226, 952904198, 3399985413, 3656866545, 731699698, 4283874585, 222117402, 510512622, 3959836397, 3280807620, 837199303, 582374963, 3504198960, 68661723, 4135334616, 3844915500, 390545967, 1230274059, 3141532936, 2825850620, 1510247935, 2395924756, 2091215383, 1878366691, 2644384480, 3553878443, 565732008, 854102364, 3229815391, 340358836, 3861050807, 4117890627, 119113024, 1493875044, 2875275879, 3090270611, 1247431312, 2660249211, 1828433272, 2141937292, 2378227087, 3811616794, 291187481, 34330861, 4032846830, 615137029, 3603020806, 3314634738, 939183345, 1776939221, 2609017814, 2295496738, 2058945313, 2926798794, 1545135305, 1330124605, 3173225534, 4084100981, 17165430, 307568514, 3762199681, 888469610, 3332340585, 3587147933, 665062302, 2042050490, 2346497209, 2559330125, 1793573966, 3190661285, 1279665062, 1595330642, 2910671697]
def stp8 (c : Nat) : Nat := stp4 (stp4 c)
theorem stp8_xor (a b : Nat) : stp8 (a ^^^ b) = stp8 a ^^^ stp8 b := by
  unfold stp8
  rw [stp4_xor, stp4_xor]
theorem stp8_256 (q : Nat) : stp8 (256 * q) = q := by
  unfold stp8
  have h : 256 * q = 16 * (16 * q) := by omega
  rw [h, stp4_16, stp4_16]
theorem split256 (x : Nat) : x = (256 * (x / 256)) ^^^ (x % 256) := by
  have h := Nat.two_pow_add_eq_or_of_lt (i := 8) (b := x % 256) (by omega) (x / 256)
  apply Nat.eq_of_testBit_eq
  intro i
  have e : x = 2 ^ 8 * (x / 256) + x % 256 := by omega
  rw [Nat.testBit_xor]
  conv => lhs; rw [e, h, Nat.testBit_or]
  show ((256 * (x / 256)).testBit i || (x % 256).testBit i) = _
  have : (256 * (x / 256)).testBit i = (decide (8 ≤ i) && (x / 256).testBit (i - 8)) := by
    rw [show 256 * (x / 256) = 2 ^ 8 * (x / 256) from rfl, Nat.testBit_two_pow_mul]
  rw [this]
  by_cases hi : 8 ≤ i
  · have : (x % 256).testBit i = false := Nat.testBit_lt_two_pow (Nat.lt_of_lt_of_le (show x % 256 < 2 ^ 8 by omega) (Nat.pow_le_pow_right (by decide) hi))
    simp [this]
  · simp [hi]
theorem tab8_ok : ∀ r, r < 256 → stp8 r = tab8.getD r 0 := by decide +kernel
theorem tab8_length : tab8.length = 256 := by decide +kernel
theorem turn8 {c b : Nat} (hb : b < 256) : Sv13.crcByte c b = (c / 256) ^^^ tab8.getD ((c ^^^ b) % 256) 0 := by
  have e : Sv13.crcByte c b = stp8 (c ^^^ b) := rfl
  rw [e]
  conv => lhs; rw [split256 (c ^^^ b)]
  rw [stp8_xor, stp8_256, tab8_ok _ (Nat.mod_lt _ (by decide))]
  congr 1
  have h : (c ^^^ b) / 256 = (c / 256) ^^^ (b / 256) := Nat.xor_div_two_pow (n := 8)
  rw [h, Nat.div_eq_of_lt hb, Nat.xor_zero]
theorem crcByte_lt {c b : Nat} (hc : c < 2 ^ 32) (hb : b < 256) : Sv13.crcByte c b < 2 ^ 32 := by
  rw [turn8 hb]
  refine Nat.xor_lt_two_pow (n := 32) (by omega) ?_
  have h : ∀ r, r < 256 → tab8.getD r 0 < 2 ^ 32 := by decide +kernel
  exact h _ (Nat.mod_lt _ (by decide))
theorem crc_lt {l : List Nat} {st : Nat} (hs : st < 2 ^ 32) (hl : ∀ x ∈ l, x < 256) : Sv13.crc l st < 2 ^ 32 := by
  have h : ∀ (l : List Nat) (c : Nat), c < 2 ^ 32 → (∀ x ∈ l, x < 256) → l.foldl Sv13.crcByte c < 2 ^ 32 := by
    intro l
    induction l with
    | nil => intro c hc _; exact hc
    | cons x r ih =>
      intro c hc hx
      exact ih _ (crcByte_lt hc (hx x List.mem_cons_self)) fun y hy => hx y (List.mem_cons_of_mem _ hy)
  unfold Sv13.crc
  exact Nat.xor_lt_two_pow (n := 32) (h l _ (Nat.xor_lt_two_pow (n := 32) hs (by decide)) hl) (by decide)
theorem crc_on (a b : List Nat) (st : Nat) : Sv13.crc (a ++ b) st = Sv13.crc b (Sv13.crc a st) := by
  unfold Sv13.crc
  rw [List.foldl_append]
  congr 2
  have : ∀ x y : Nat, Nat.xor (Nat.xor x y) y = x := fun x y => by
    show (x ^^^ y) ^^^ y = x
    rw [Nat.xor_assoc, Nat.xor_self, Nat.xor_zero]
  rw [this]
end My
set_option linter.all false
namespace My
open Sv13
structure BW where
  body : Bytes
  rs : List Nat
  n : Nat
  last : Bytes
def BW.new : BW := ⟨[], [0], 0, []⟩
def BW.sh (iv : Nat) (b : BW) (k : Bytes) : Nat := if b.n % iv ≠ 0 then common b.last k else 0
def BW.put (iv : Nat) (b : BW) (k v : Bytes) : BW :=
  ⟨b.body ++ varint (b.sh iv k) ++ varint (k.length - b.sh iv k) ++ varint v.length ++ k.drop (b.sh iv k) ++ v,
   if b.n % iv ≠ 0 then b.rs else if 0 < b.n then b.rs ++ [b.body.length] else b.rs, b.n + 1, k⟩
def BW.size (b : BW) : Nat := b.body.length + 4 * b.rs.length + 4
def BW.content (b : BW) : Bytes := b.body ++ b.rs.flatMap (little 4) ++ little 4 b.rs.length
def BW.bld (iv : Nat) (b : BW) : Building := ⟨b.body, b.rs, if b.n = 0 then 0 else (b.n - 1) % iv + 1, b.last⟩
theorem step_mod {n iv : Nat} (hi : 0 < iv) (hn : 0 < n) : n % iv = if (n - 1) % iv + 1 < iv then (n - 1) % iv + 1 else 0 := by
  have h1 := Nat.div_add_mod (n - 1) iv
  have h2 := Nat.mod_lt (n - 1) hi
  generalize (n - 1) % iv = r at *
  have e : n = (r + 1) + iv * ((n - 1) / iv) := by omega
  split
  · rename_i h
    rw [e, Nat.add_mul_mod_self_left, Nat.mod_eq_of_lt h]
  · rename_i h
    have : r + 1 = iv := by omega
    rw [e, Nat.add_mul_mod_self_left, this, Nat.mod_self]
theorem bld_put {iv : Nat} {b : BW} (hi : 0 < iv) (h0 : b.n = 0 → b.last = []) (k v : Bytes) : (b.put iv k v).bld iv = (b.bld iv).add iv k v := by
  by_cases hn : b.n = 0
  · have e1 : b.sh iv k = 0 := by simp [BW.sh, hn]
    have e2 : common b.last k = 0 := by rw [h0 hn]; rfl
    simp only [BW.put, BW.bld, Building.add, e1, hn]
    simp [hi, e2]
  · have hp : 0 < b.n := by omega
    have hm := step_mod hi hp
    simp only [BW.put, BW.bld, Building.add, BW.sh, if_neg hn]
    by_cases hg : (b.n - 1) % iv + 1 < iv
    · rw [if_pos hg] at hm
      simp [hm, hg]
    · rw [if_neg hg] at hm
      simp [hm, hg, hp]
theorem bld_whole (iv : Nat) (b : BW) : (b.bld iv).whole = b.content := rfl
def BW.ok (b : BW) : Prop := b.n = 0 → b.last = []
theorem BW.ok_new : BW.new.ok := fun _ => rfl
theorem BW.ok_put (iv : Nat) (b : BW) (k v : Bytes) : (b.put iv k v).ok := fun h => absurd h (Nat.succ_ne_zero _)
theorem sevens_pos (f n : Nat) : 0 < (sevens (f + 1) n).length := by
  unfold sevens
  split <;> simp
theorem varint_pos (n : Nat) : 0 < (varint n).length := sevens_pos 9 n
theorem put_body_ne (iv : Nat) (b : BW) (k v : Bytes) : (b.put iv k v).body ≠ [] := by
  intro h
  have h2 := congrArg List.length h
  simp only [BW.put, List.length_append, List.length_nil] at h2
  have := varint_pos v.length
  omega
abbrev Blk := List Bytes × Bytes
structure DB where
  blocks : List Blk
  w : BW
  keys : List Bytes
def DB.new : DB := ⟨[], BW.new, []⟩
def DB.step (iv size : Nat) (s : DB) (e : Entry) : DB :=
  if size ≤ (s.w.put iv e.1 e.2).size then ⟨s.blocks ++ [(s.keys ++ [e.1], (s.w.put iv e.1 e.2).content)], BW.new, []⟩ else ⟨s.blocks, s.w.put iv e.1 e.2, s.keys ++ [e.1]⟩
def DB.fin (s : DB) : List Blk := if s.keys = [] then s.blocks else s.blocks ++ [(s.keys, s.w.content)]
def dataBlocks (iv size : Nat) (l : List Entry) : List Blk := (l.foldl (DB.step iv size) DB.new).fin
def outOf (bs : List Blk) : Bytes := bs.flatMap fun b => raw b.2
theorem outOf_snoc (bs : List Blk) (b : Blk) : outOf (bs ++ [b]) = outOf bs ++ raw b.2 := by simp [outOf]
theorem raw_length (c : Bytes) : (raw c).length = c.length + 5 := by simp [raw, little]
def lastOf (b : Blk) : Bytes := b.1.getLastD []
def firstOf (b : Blk) : Bytes := b.1.headD []
def pairs (p : Nat) : List Blk → Bytes → List (Bytes × Bytes)
  | [], _ => []
  | [b], next => [(between (lastOf b) next, (Handle.mk p b.2.length).bytes)]
  | b :: c :: r, next => (between (lastOf b) (firstOf c), (Handle.mk p b.2.length).bytes) :: pairs (p + b.2.length + 5) (c :: r) next
theorem pairs_snoc : ∀ (bs : List Blk) (p : Nat) (b : Blk) (next : Bytes),
    pairs p (bs ++ [b]) next = pairs p bs (firstOf b) ++ [(between (lastOf b) next, (Handle.mk (p + (outOf bs).length) b.2.length).bytes)]
  | [], p, b, next => by simp [pairs, outOf]
  | [a], p, b, next => by simp [pairs, outOf, raw_length, Nat.add_assoc]
  | a :: c :: r, p, b, next => by
    have ih := pairs_snoc (c :: r) (p + a.2.length + 5) b next
    show (between (lastOf a) (firstOf c), (Handle.mk p a.2.length).bytes) :: pairs (p + a.2.length + 5) ((c :: r) ++ [b]) next = _
    rw [ih]
    have e : (outOf (a :: c :: r)).length = a.2.length + 5 + (outOf (c :: r)).length := by
      show (raw a.2 ++ outOf (c :: r)).length = _
      rw [List.length_append, raw_length]
    rw [e]
    simp only [pairs, List.cons_append, Nat.add_assoc]
def addAll (ps : List (Bytes × Bytes)) : Building := ps.foldl (fun ix p => ix.add 1 p.1 p.2) {}
theorem addAll_snoc (ps : List (Bytes × Bytes)) (p : Bytes × Bytes) : addAll (ps ++ [p]) = (addAll ps).add 1 p.1 p.2 := by simp [addAll]
def begun (p : Nat) : List Blk → List (Nat × List Bytes)
  | [] => []
  | b :: r => (p, b.1) :: begun (p + b.2.length + 5) r
theorem begun_snoc : ∀ (bs : List Blk) (p : Nat) (b : Blk), begun p (bs ++ [b]) = begun p bs ++ [(p + (outOf bs).length, b.1)]
  | [], p, b => by simp [begun, outOf]
  | a :: r, p, b => by
    show (p, a.1) :: begun (p + a.2.length + 5) (r ++ [b]) = (p, a.1) :: begun (p + a.2.length + 5) r ++ _
    rw [begun_snoc r]
    have e : (outOf (a :: r)).length = a.2.length + 5 + (outOf r).length := by
      show (raw a.2 ++ outOf r).length = _
      rw [List.length_append, raw_length]
    rw [e, List.cons_append, Nat.add_assoc, Nat.add_assoc, Nat.add_assoc]
theorem begun_lt : ∀ (bs : List Blk) (p : Nat), ∀ x ∈ begun p bs, x.1 < p + (outOf bs).length
  | [], p, x, h => by simp [begun] at h
  | a :: r, p, x, h => by
    have e : (outOf (a :: r)).length = a.2.length + 5 + (outOf r).length := by
      show (raw a.2 ++ outOf r).length = _
      rw [List.length_append, raw_length]
    rcases List.mem_cons.mp (show x ∈ (p, a.1) :: begun (p + a.2.length + 5) r from h) with rfl | h
    · rw [e]; show p < _; omega
    · have := begun_lt r _ x h
      rw [e]; omega
def pieceKeys (bk : List (Nat × List Bytes)) (i : Nat) : List Bytes := bk.flatMap fun x => if x.1 / 2048 = i then x.2 else []
def pc (bits : Nat) (ks : List Bytes) : Bytes := if ks = [] then [] else filter bits ks
def res (bits : Nat) (bk : List (Nat × List Bytes)) (n : Nat) : Bytes := (List.range n).flatMap fun i => pc bits (pieceKeys bk i)
def offs (bits : Nat) (bk : List (Nat × List Bytes)) (n : Nat) : List Nat := (List.range n).map fun i => (res bits bk i).length
theorem res_succ (bits : Nat) (bk : List (Nat × List Bytes)) (n : Nat) : res bits bk (n + 1) = res bits bk n ++ pc bits (pieceKeys bk n) := by
  simp [res, List.range_succ]
theorem offs_succ (bits : Nat) (bk : List (Nat × List Bytes)) (n : Nat) : offs bits bk (n + 1) = offs bits bk n ++ [(res bits bk n).length] := by
  simp [offs, List.range_succ]
theorem pieceKeys_snoc (bk : List (Nat × List Bytes)) (p : Nat) (ks : List Bytes) (i : Nat) : pieceKeys (bk ++ [(p, ks)]) i = pieceKeys bk i ++ if p / 2048 = i then ks else [] := by
  simp [pieceKeys]
theorem pieceKeys_none {bk : List (Nat × List Bytes)} {i : Nat} (h : ∀ x ∈ bk, x.1 / 2048 ≠ i) : pieceKeys bk i = [] := by
  unfold pieceKeys
  rw [List.flatMap_eq_nil_iff]
  intro x hx
  rw [if_neg (h x hx)]
theorem res_snoc {bits : Nat} {bk : List (Nat × List Bytes)} {p : Nat} {ks : List Bytes} (n : Nat) (h : n ≤ p / 2048) : res bits (bk ++ [(p, ks)]) n = res bits bk n := by
  generalize hq : p / 2048 = q at h
  induction n with
  | zero => simp only [res, List.range_zero, List.flatMap_nil]
  | succ n ih =>
    have hne : ¬ p / 2048 = n := by omega
    rw [res_succ, res_succ, ih (by omega), pieceKeys_snoc, if_neg hne, List.append_nil]
theorem offs_snoc {bits : Nat} {bk : List (Nat × List Bytes)} {p : Nat} {ks : List Bytes} (n : Nat) (h : n ≤ p / 2048) : offs bits (bk ++ [(p, ks)]) n = offs bits bk n := by
  generalize hq : p / 2048 = q at h
  induction n with
  | zero => simp only [offs, List.range_zero, List.map_nil]
  | succ n ih => rw [offs_succ, offs_succ, ih (by omega), res_snoc n (by omega)]
def filtAt (bits : Nat) (bk : List (Nat × List Bytes)) (n : Nat) : Filters := ⟨res bits bk n, offs bits bk n, pieceKeys bk n⟩
theorem close_filtAt {bits : Nat} {bk : List (Nat × List Bytes)} {n : Nat} (h : ∀ x ∈ bk, x.1 / 2048 ≤ n) : (filtAt bits bk n).close bits = filtAt bits bk (n + 1) := by
  unfold filtAt Filters.close
  rw [res_succ, offs_succ, pieceKeys_none (i := n + 1) fun x hx => by have := h x hx; omega]
  simp only [pc]
  split <;> simp
theorem offs_length (bits : Nat) (bk : List (Nat × List Bytes)) (n : Nat) : (offs bits bk n).length = n := by simp [offs]
theorem closes_filtAt {bits : Nat} {bk : List (Nat × List Bytes)} {n : Nat} (h : ∀ x ∈ bk, x.1 / 2048 ≤ n) : ∀ k : Nat, (List.range k).foldl (fun f _ => f.close bits) (filtAt bits bk n) = filtAt bits bk (n + k)
  | 0 => rfl
  | k + 1 => by
    rw [List.range_succ, List.foldl_append, closes_filtAt h k]
    show (filtAt bits bk (n + k)).close bits = _
    rw [close_filtAt fun x hx => Nat.le_trans (h x hx) (Nat.le_add_right _ _)]
    rfl
theorem upTo_filtAt {bits : Nat} {bk : List (Nat × List Bytes)} {n m : Nat} (h : ∀ x ∈ bk, x.1 / 2048 ≤ n) (hm : n ≤ m / 2048) : (filtAt bits bk n).upTo bits m = filtAt bits bk (m / 2048) := by
  unfold Filters.upTo
  have e : (filtAt bits bk n).offsets.length = n := offs_length bits bk n
  rw [e, closes_filtAt h]
  congr 1
  omega
structure Rel (o : Options) (s : DB) (t : Making) : Prop where
  out : t.out = outOf s.blocks
  data : t.data = s.w.bld o.interval
  wok : s.w.ok
  emp : s.keys = [] → s.w = BW.new
  ful : s.keys ≠ [] → s.w.body ≠ []
  last : s.keys ≠ [] → t.last = s.keys.getLastD []
  open_ : s.keys ≠ [] → t.pending = none ∧ t.index = addAll (pairs 0 s.blocks (s.keys.headD []))
  shut : s.keys = [] → ∀ bs b, s.blocks = bs ++ [b] → t.pending = some ⟨(outOf bs).length, b.2.length⟩ ∧ t.index = addAll (pairs 0 bs (firstOf b)) ∧ t.last = lastOf b
  none_ : s.keys = [] → s.blocks = [] → t.pending = none ∧ t.index = {}
  filt : o.bits ≠ 0 → t.filters = ⟨res o.bits (begun 0 s.blocks) (t.out.length / 2048), offs o.bits (begun 0 s.blocks) (t.out.length / 2048), pieceKeys (begun 0 s.blocks) (t.out.length / 2048) ++ s.keys⟩
theorem rel_new (o : Options) : Rel o DB.new {} where
  out := rfl
  data := rfl
  wok := BW.ok_new
  emp := fun _ => rfl
  ful := fun h => absurd rfl h
  last := fun h => absurd rfl h
  open_ := fun h => absurd rfl h
  shut := fun _ bs b h => by simp [DB.new] at h
  none_ := fun _ _ => ⟨rfl, rfl⟩
  filt := fun _ => rfl
end My
set_option linter.all false
namespace My
open Sv13
def Making.add1 (o : Options) (t : Making) (e : Entry) : Making :=
  { t.indexed (between t.last e.1) with data := (t.indexed (between t.last e.1)).data.add o.interval e.1 e.2, last := e.1, filters := { (t.indexed (between t.last e.1)).filters with keys := if o.bits = 0 then [] else (t.indexed (between t.last e.1)).filters.keys ++ [e.1] } }
theorem add_eq (o : Options) (t : Making) (e : Entry) : Making.add o t e = if o.block ≤ (Making.add1 o t e).data.size then (Making.add1 o t e).flush o else Making.add1 o t e := rfl
theorem snoc_cases {α : Type} (l : List α) : l = [] ∨ ∃ r x, l = r ++ [x] := by
  rcases List.eq_nil_or_concat l with h | ⟨r, x, h⟩
  · exact .inl h
  · exact .inr ⟨r, x, by simpa using h⟩
theorem headD_snoc {α : Type} {l : List α} {x d : α} (h : l ≠ []) : (l ++ [x]).headD d = l.headD d := by
  cases l with
  | nil => exact absurd rfl h
  | cons a r => rfl
theorem indexed_fields (t : Making) (k : Bytes) : (t.indexed k).out = t.out ∧ (t.indexed k).data = t.data ∧ (t.indexed k).filters = t.filters ∧ (t.indexed k).last = t.last ∧ (t.indexed k).pending = none := by
  unfold Making.indexed
  cases h : t.pending with
  | none => simp [h]
  | some x => simp
def DB.open (iv : Nat) (s : DB) (e : Entry) : DB := ⟨s.blocks, s.w.put iv e.1 e.2, s.keys ++ [e.1]⟩
theorem rel_open {o : Options} {s : DB} {t : Making} (hi : 0 < o.interval) (r : Rel o s t) (e : Entry) : Rel o (s.open o.interval e) (Making.add1 o t e) := by
  obtain ⟨i1, i2, i3, i4, i5⟩ := indexed_fields t (between t.last e.1)
  have hne : s.keys ++ [e.1] ≠ [] := by simp
  refine ⟨?_, ?_, BW.ok_put _ _ _ _, fun h => absurd h hne, fun _ => put_body_ne _ _ _ _, fun _ => ?_, fun _ => ⟨i5, ?_⟩, fun h => absurd h hne, fun h => absurd h hne, fun hb => ?_⟩
  · show (t.indexed _).out = _
    rw [i1, r.out]; rfl
  · show (t.indexed _).data.add o.interval e.1 e.2 = _
    rw [i2, r.data, ← bld_put hi r.wok]; rfl
  · show e.1 = (s.keys ++ [e.1]).getLastD []
    simp
  · show (t.indexed (between t.last e.1)).index = addAll (pairs 0 s.blocks ((s.keys ++ [e.1]).headD []))
    by_cases hk : s.keys = []
    · rw [hk]
      show _ = addAll (pairs 0 s.blocks e.1)
      rcases snoc_cases s.blocks with hb | ⟨bs, b, hb⟩
      · obtain ⟨p1, p2⟩ := r.none_ hk hb
        unfold Making.indexed
        rw [p1, hb]
        simp only [p2, pairs]
        rfl
      · obtain ⟨p1, p2, p3⟩ := r.shut hk bs b hb
        unfold Making.indexed
        rw [p1, hb, pairs_snoc, addAll_snoc]
        simp only [p2, p3, Nat.zero_add]
    · obtain ⟨p1, p2⟩ := r.open_ hk
      unfold Making.indexed
      rw [p1, headD_snoc hk]
      exact p2
  · have hf := r.filt hb
    show ({ (t.indexed (between t.last e.1)).filters with keys := if o.bits = 0 then [] else (t.indexed (between t.last e.1)).filters.keys ++ [e.1] } : Filters) = _
    rw [i3, if_neg hb, hf]
    show _ = (⟨res o.bits (begun 0 s.blocks) ((t.indexed (between t.last e.1)).out.length / 2048), offs o.bits (begun 0 s.blocks) ((t.indexed (between t.last e.1)).out.length / 2048), pieceKeys (begun 0 s.blocks) ((t.indexed (between t.last e.1)).out.length / 2048) ++ (s.keys ++ [e.1])⟩ : Filters)
    rw [i1]
    simp only [List.append_assoc]
def DB.shut (s : DB) : DB := ⟨s.blocks ++ [(s.keys, s.w.content)], BW.new, []⟩
theorem rel_flush {o : Options} {s : DB} {t : Making} (r : Rel o s t) (hk : s.keys ≠ []) : Rel o s.shut (t.flush o) := by
  have hb : t.data.buf ≠ [] := by rw [r.data]; exact r.ful hk
  have hfl : t.flush o = { t with out := (put t.out t.data.whole).1, pending := some (put t.out t.data.whole).2, data := {}, filters := t.filters.upTo o.bits (put t.out t.data.whole).1.length } := by
    unfold Making.flush
    rw [if_neg hb]
  have hw : t.data.whole = s.w.content := by rw [r.data]; rfl
  have ho : (put t.out t.data.whole).1 = outOf (s.blocks ++ [(s.keys, s.w.content)]) := by
    rw [outOf_snoc, hw, r.out]; rfl
  rw [hfl]
  refine ⟨ho, rfl, BW.ok_new, fun _ => rfl, fun h => absurd rfl h, fun h => absurd rfl h, fun h => absurd rfl h, fun _ bs b hbs => ?_, fun _ h => ?_, fun hbits => ?_⟩
  · have hbs : s.blocks ++ [(s.keys, s.w.content)] = bs ++ [b] := hbs
    obtain ⟨e1, e2⟩ := List.append_inj' hbs rfl
    have e2 : (s.keys, s.w.content) = b := by simpa using e2
    subst e2
    subst e1
    obtain ⟨p1, p2⟩ := r.open_ hk
    refine ⟨?_, p2, r.last hk⟩
    show some (Handle.mk t.out.length t.data.whole.length) = _
    rw [hw, r.out]
  · have h : s.blocks ++ [(s.keys, s.w.content)] = [] := h
    simp at h
  · have hf := r.filt hbits
    show t.filters.upTo o.bits (put t.out t.data.whole).1.length = (⟨res o.bits (begun 0 (s.blocks ++ [(s.keys, s.w.content)])) ((put t.out t.data.whole).1.length / 2048), offs o.bits (begun 0 (s.blocks ++ [(s.keys, s.w.content)])) ((put t.out t.data.whole).1.length / 2048), pieceKeys (begun 0 (s.blocks ++ [(s.keys, s.w.content)])) ((put t.out t.data.whole).1.length / 2048) ++ []⟩ : Filters)
    rw [List.append_nil]
    have hb2 : begun 0 (s.blocks ++ [(s.keys, s.w.content)]) = begun 0 s.blocks ++ [(t.out.length, s.keys)] := by
      rw [begun_snoc, r.out, Nat.zero_add]
    have hlt := begun_lt s.blocks 0
    rw [Nat.zero_add, ← r.out] at hlt
    have hf2 : t.filters = filtAt o.bits (begun 0 (s.blocks ++ [(s.keys, s.w.content)])) (t.out.length / 2048) := by
      rw [hf, hb2]
      unfold filtAt
      rw [res_snoc _ (Nat.le_refl _), offs_snoc _ (Nat.le_refl _), pieceKeys_snoc, if_pos rfl]
    have hlen : t.out.length ≤ (put t.out t.data.whole).1.length := by
      show _ ≤ (t.out ++ raw t.data.whole).length
      rw [List.length_append]; omega
    rw [hf2, upTo_filtAt (fun x hx => ?_) (Nat.div_le_div_right hlen)]
    · rfl
    · rw [hb2] at hx
      rcases List.mem_append.mp hx with hx | hx
      · exact Nat.div_le_div_right (Nat.le_of_lt (hlt x hx))
      · have : x = (t.out.length, s.keys) := by simpa using hx
        rw [this]
        exact Nat.le_refl _
theorem rel_step {o : Options} {s : DB} {t : Making} (hi : 0 < o.interval) (r : Rel o s t) (e : Entry) : Rel o (s.step o.interval o.block e) (Making.add o t e) := by
  have h1 := rel_open hi r e
  rw [add_eq]
  have hs : (Making.add1 o t e).data.size = (s.w.put o.interval e.1 e.2).size := by rw [h1.data]; rfl
  unfold DB.step
  rw [hs]
  by_cases hc : o.block ≤ (s.w.put o.interval e.1 e.2).size
  · rw [if_pos hc, if_pos hc]
    exact rel_flush h1 (by show s.keys ++ [e.1] ≠ []; simp)
  · rw [if_neg hc, if_neg hc]
    exact h1
theorem rel_all {o : Options} (hi : 0 < o.interval) : ∀ (l : List Entry) (s : DB) (t : Making), Rel o s t → Rel o (l.foldl (DB.step o.interval o.block) s) (l.foldl (Making.add o) t)
  | [], s, t, r => r
  | e :: l, s, t, r => rel_all hi l _ _ (rel_step hi r e)
def piecesN (bs : List Blk) : Nat := (outOf bs).length / 2048 + if (begun 0 bs).any (fun x => x.1 / 2048 == (outOf bs).length / 2048) then 1 else 0
def filterOf (bits : Nat) (bk : List (Nat × List Bytes)) (n : Nat) : Bytes := res bits bk n ++ (offs bits bk n ++ [(res bits bk n).length]).flatMap (little 4) ++ [11]
def idxPairs (bs : List Blk) : List (Bytes × Bytes) := match bs.getLast? with
  | some b => pairs 0 bs.dropLast (firstOf b) ++ [(behind (lastOf b), (Handle.mk (outOf bs.dropLast).length b.2.length).bytes)]
  | none => []
def idxContent (ps : List (Bytes × Bytes)) : Bytes := (ps.foldl (fun w p => w.put 1 p.1 p.2) BW.new).content
def metaContent (iv : Nat) : Option Handle → Bytes
  | some h => (BW.new.put iv NAME h.bytes).content
  | none => BW.new.content
def tableM (iv size bits : Nat) (l : List Entry) : Bytes :=
  let bs := dataBlocks iv size l
  let f := if bits = 0 then (outOf bs, none) else let x := put (outOf bs) (filterOf bits (begun 0 bs) (piecesN bs)); (x.1, some x.2)
  let m := put f.1 (metaContent iv f.2)
  let x := put m.1 (idxContent (idxPairs bs))
  x.1 ++ footer m.2 x.2
theorem addAll_bw : ∀ (ps : List (Bytes × Bytes)) (w : BW), w.ok → (ps.foldl (fun w p => w.put 1 p.1 p.2) w).bld 1 = ps.foldl (fun ix p => ix.add 1 p.1 p.2) (w.bld 1)
  | [], w, _ => rfl
  | p :: r, w, h => by
    rw [List.foldl_cons, List.foldl_cons, addAll_bw r _ (BW.ok_put _ _ _ _), bld_put (by decide) h]
theorem idx_whole (ps : List (Bytes × Bytes)) : (addAll ps).whole = idxContent ps := by
  unfold addAll idxContent
  rw [← bld_whole 1, addAll_bw ps BW.new BW.ok_new]
  rfl
theorem meta_none (iv : Nat) : ({} : Building).whole = metaContent iv none := rfl
theorem meta_some {iv : Nat} (hi : 0 < iv) (h : Handle) : (({} : Building).add iv NAME h.bytes).whole = metaContent iv (some h) := by
  show (({} : Building).add iv NAME h.bytes).whole = (BW.new.put iv NAME h.bytes).content
  rw [← bld_whole iv, bld_put hi BW.ok_new]
  rfl
theorem rel_fin {o : Options} {s : DB} {t : Making} (r : Rel o s t) : ∃ s' : DB, s'.blocks = s.fin ∧ s'.keys = [] ∧ Rel o s' (t.flush o) := by
  by_cases hk : s.keys = []
  · refine ⟨s, by simp [DB.fin, hk], hk, ?_⟩
    have hb : t.data.buf = [] := by rw [r.data, r.emp hk]; rfl
    unfold Making.flush
    rw [if_pos hb]
    exact r
  · exact ⟨s.shut, by simp [DB.fin, hk, DB.shut], rfl, rel_flush r hk⟩
theorem blk_keys_step {iv size : Nat} {s : DB} {e : Entry} (h : ∀ b ∈ s.blocks, b.1 ≠ []) : ∀ b ∈ (s.step iv size e).blocks, b.1 ≠ [] := by
  unfold DB.step
  intro b hb
  split at hb
  · rcases List.mem_append.mp hb with hb | hb
    · exact h b hb
    · have : b = (s.keys ++ [e.1], (s.w.put iv e.1 e.2).content) := by simpa using hb
      rw [this]
      simp
  · exact h b hb
theorem blk_keys : ∀ {iv size : Nat} (l : List Entry) (s : DB), (∀ b ∈ s.blocks, b.1 ≠ []) → ∀ b ∈ (l.foldl (DB.step iv size) s).blocks, b.1 ≠ []
  | _, _, [], s, h => h
  | _, _, e :: l, s, h => blk_keys l _ (blk_keys_step h)
theorem fin_keys {s : DB} (h : ∀ b ∈ s.blocks, b.1 ≠ []) : ∀ b ∈ s.fin, b.1 ≠ [] := by
  unfold DB.fin
  intro b hb
  split at hb
  · exact h b hb
  · rename_i hk
    rcases List.mem_append.mp hb with hb | hb
    · exact h b hb
    · have : b = (s.keys, s.w.content) := by simpa using hb
      rw [this]
      exact hk
theorem begun_mem : ∀ (bs : List Blk) (p : Nat) (x : Nat × List Bytes), x ∈ begun p bs → ∃ b ∈ bs, b.1 = x.2
  | [], p, x, h => by simp [begun] at h
  | a :: r, p, x, h => by
    rcases List.mem_cons.mp (show x ∈ (p, a.1) :: begun (p + a.2.length + 5) r from h) with rfl | h
    · exact ⟨a, List.mem_cons_self, rfl⟩
    · obtain ⟨b, hb, e⟩ := begun_mem r _ x h
      exact ⟨b, List.mem_cons_of_mem _ hb, e⟩
theorem whole_filterOf {bits : Nat} {bs : List Blk} (hk : ∀ b ∈ bs, b.1 ≠ []) : Filters.whole (filtAt bits (begun 0 bs) ((outOf bs).length / 2048)) bits = filterOf bits (begun 0 bs) (piecesN bs) := by
  generalize hn : (outOf bs).length / 2048 = n
  have hle : ∀ x ∈ begun 0 bs, x.1 / 2048 ≤ n := fun x hx => by
    have := begun_lt bs 0 x hx
    rw [← hn]
    exact Nat.div_le_div_right (by omega)
  have hfin : ∀ m, (filtAt bits (begun 0 bs) m).result ++ (filtAt bits (begun 0 bs) m).offsets.flatMap (little 4) ++ little 4 (filtAt bits (begun 0 bs) m).result.length ++ [11] = filterOf bits (begun 0 bs) m := fun m => by
    show res bits (begun 0 bs) m ++ (offs bits (begun 0 bs) m).flatMap (little 4) ++ little 4 (res bits (begun 0 bs) m).length ++ [11] = res bits (begun 0 bs) m ++ (offs bits (begun 0 bs) m ++ [(res bits (begun 0 bs) m).length]).flatMap (little 4) ++ [11]
    rw [List.flatMap_append]
    simp only [List.flatMap_cons, List.flatMap_nil, List.append_nil, List.append_assoc]
  have hany : (pieceKeys (begun 0 bs) n = []) ↔ (begun 0 bs).any (fun x => x.1 / 2048 == n) = false := by
    rw [List.any_eq_false]
    unfold pieceKeys
    rw [List.flatMap_eq_nil_iff]
    constructor
    · intro h x hx he
      have h1 := h x hx
      have he : x.1 / 2048 = n := by simpa using he
      rw [if_pos he] at h1
      obtain ⟨b, hb, e⟩ := begun_mem bs 0 x hx
      exact hk b hb (e.trans h1)
    · intro h x hx
      have h1 := h x hx
      rw [if_neg (by simpa using h1)]
  unfold Filters.whole piecesN
  rw [hn]
  by_cases he : pieceKeys (begun 0 bs) n = []
  · rw [hany.mp he]
    show (if (filtAt bits (begun 0 bs) n).keys = [] then (filtAt bits (begun 0 bs) n) else (filtAt bits (begun 0 bs) n).close bits).result ++ (if (filtAt bits (begun 0 bs) n).keys = [] then (filtAt bits (begun 0 bs) n) else (filtAt bits (begun 0 bs) n).close bits).offsets.flatMap (little 4) ++ little 4 (if (filtAt bits (begun 0 bs) n).keys = [] then (filtAt bits (begun 0 bs) n) else (filtAt bits (begun 0 bs) n).close bits).result.length ++ [11] = _
    have he' : (filtAt bits (begun 0 bs) n).keys = [] := he
    rw [if_pos he', hfin]
    simp
  · have hany' : (begun 0 bs).any (fun x => x.1 / 2048 == n) = true := by
      cases q : (begun 0 bs).any (fun x => x.1 / 2048 == n) with
      | true => rfl
      | false => exact absurd (hany.mpr q) he
    rw [hany']
    show (if (filtAt bits (begun 0 bs) n).keys = [] then (filtAt bits (begun 0 bs) n) else (filtAt bits (begun 0 bs) n).close bits).result ++ (if (filtAt bits (begun 0 bs) n).keys = [] then (filtAt bits (begun 0 bs) n) else (filtAt bits (begun 0 bs) n).close bits).offsets.flatMap (little 4) ++ little 4 (if (filtAt bits (begun 0 bs) n).keys = [] then (filtAt bits (begun 0 bs) n) else (filtAt bits (begun 0 bs) n).close bits).result.length ++ [11] = _
    have he' : ¬ (filtAt bits (begun 0 bs) n).keys = [] := he
    rw [if_neg he', close_filtAt hle, hfin]
    simp
theorem make_eq {o : Options} (hi : 0 < o.interval) (l : List Entry) : Sv13.make o l = tableM o.interval o.block o.bits l := by
  obtain ⟨s', hb, hk, r⟩ := rel_fin (rel_all hi l DB.new {} (rel_new o))
  have hks : ∀ b ∈ s'.blocks, b.1 ≠ [] := by
    rw [hb]
    exact fin_keys (blk_keys l DB.new fun b h => by simp [DB.new] at h)
  have hbl : s'.blocks = dataBlocks o.interval o.block l := hb
  have hidx : ((((l.foldl (Making.add o) {}).flush o).indexed (behind ((l.foldl (Making.add o) {}).flush o).last)).index).whole = idxContent (idxPairs s'.blocks) := by
    generalize (l.foldl (Making.add o) {}).flush o = t at r
    rcases snoc_cases s'.blocks with h0 | ⟨bs, b, h0⟩
    · obtain ⟨p1, p2⟩ := r.none_ hk h0
      unfold Making.indexed
      rw [p1, h0]
      simp only [p2]
      rfl
    · obtain ⟨p1, p2, p3⟩ := r.shut hk bs b h0
      unfold Making.indexed
      rw [p1, h0]
      simp only [p2, p3]
      have e : idxPairs (bs ++ [b]) = pairs 0 bs (firstOf b) ++ [(behind (lastOf b), (Handle.mk (outOf bs).length b.2.length).bytes)] := by
        simp [idxPairs]
      rw [e, ← idx_whole, addAll_snoc]
  have hout := r.out
  have hflt : o.bits ≠ 0 → ((l.foldl (Making.add o) {}).flush o).filters.whole o.bits = filterOf o.bits (begun 0 s'.blocks) (piecesN s'.blocks) := fun hz => by
    rw [← whole_filterOf hks, r.filt hz, hk, List.append_nil, hout]
    rfl
  unfold Sv13.make tableM
  rw [← hbl]
  simp only [hidx, hout]
  by_cases hz : o.bits = 0
  · simp only [if_pos hz, meta_none o.interval]
  · simp only [if_neg hz, hflt hz, meta_some hi]
end My
set_option linter.all false
namespace My
open Sv13
theorem little_succ (k n : Nat) : little (k + 1) n = little k n ++ [n / 256 ^ k % 256] := by
  simp [little, List.range_succ]
theorem little_length (k n : Nat) : (little k n).length = k := by simp [little]
theorem little_byte {k n : Nat} : ∀ x ∈ little k n, x < 256 := by
  intro x h
  simp only [little, List.mem_map] at h
  obtain ⟨i, _, rfl⟩ := h
  exact Nat.mod_lt _ (by decide)
theorem div_pow_succ (n k : Nat) : n / 256 ^ (k + 1) = n / 256 ^ k / 256 := by
  rw [Nat.pow_succ, Nat.div_div_eq_div_mul]
def Sev (n : Nat) (done : Bytes) (rest : Nat) : Prop := ∃ f, sevens 10 n = done ++ sevens (f + 1) rest ∧ rest < 128 ^ (f + 1)
theorem sev_start {n : Nat} (h : n < 128 ^ 10) : Sev n [] n := ⟨9, rfl, h⟩
theorem sev_step {n : Nat} {done : Bytes} {rest : Nat} (h : Sev n done rest) (hr : 127 < rest) : Sev n (done ++ [128 + rest % 128]) (rest / 128) := by
  obtain ⟨f, e, hl⟩ := h
  cases f with
  | zero => simp at hl; omega
  | succ f =>
    refine ⟨f, ?_, ?_⟩
    · rw [e]
      have : sevens (f + 1 + 1) rest = (rest % 128 + 128) :: sevens (f + 1) (rest / 128) := by
        conv => lhs; unfold sevens
        rw [if_neg (by omega)]
      rw [this, Nat.add_comm (rest % 128)]
      simp
    · rw [Nat.pow_succ] at hl
      exact Nat.div_lt_of_lt_mul (by rw [Nat.mul_comm]; exact hl)
theorem sev_end {n : Nat} {done : Bytes} {rest : Nat} (h : Sev n done rest) (hr : rest ≤ 127) : varint n = done ++ [rest] := by
  obtain ⟨f, e, hl⟩ := h
  unfold varint
  rw [e]
  have : sevens (f + 1) rest = [rest] := by
    unfold sevens
    rw [if_pos (by omega)]
  rw [this]
theorem sevens_length : ∀ (f n : Nat), (sevens f n).length ≤ f
  | 0, n => by simp [sevens]
  | f + 1, n => by
    unfold sevens
    split
    · simp
    · simp only [List.length_cons]
      have := sevens_length f (n / 128)
      omega
theorem varint_length (n : Nat) : (varint n).length ≤ 10 := sevens_length 10 n
theorem sevens_byte : ∀ (f n : Nat), ∀ x ∈ sevens f n, x < 256
  | 0, n, x, h => by simp [sevens] at h
  | f + 1, n, x, h => by
    unfold sevens at h
    split at h
    · have : x = n := by simpa using h
      omega
    · rcases List.mem_cons.mp h with h | h
      · omega
      · exact sevens_byte f _ x h
theorem varint_byte (n : Nat) : ∀ x ∈ varint n, x < 256 := sevens_byte 10 n
theorem ofLittle_append (a b : Bytes) : ofLittle (a ++ b) = ofLittle a + 256 ^ a.length * ofLittle b := by
  induction a with
  | nil => simp [ofLittle]
  | cons x r ih =>
    have e : ofLittle (x :: r ++ b) = x % 256 + 256 * ofLittle (r ++ b) := rfl
    have e2 : ofLittle (x :: r) = x % 256 + 256 * ofLittle r := rfl
    rw [e, ih, e2, List.length_cons, Nat.pow_succ]
    generalize ofLittle r = p
    generalize ofLittle b = q
    generalize 256 ^ r.length = z
    rw [Nat.mul_add, Nat.mul_comm z 256, Nat.mul_assoc]
    omega
theorem ofLittle_one {x : Nat} (h : x < 256) : ofLittle [x] = x := by
  show x % 256 + 256 * 0 = x
  omega
theorem slice_succ {b : Bytes} {i n x : Nat} (h : b[i + n]? = some x) : slice b i (n + 1) = slice b i n ++ [x] := by
  unfold slice
  rw [List.take_succ, List.getElem?_drop, h]
  rfl
theorem slice_length {b : Bytes} {i n : Nat} (h : i + n ≤ b.length) : (slice b i n).length = n := by
  unfold slice
  rw [List.length_take, List.length_drop]
  omega
theorem ofLittle_slice {b : Bytes} {i n x : Nat} (h : b[i + n]? = some x) (hx : x < 256) : ofLittle (slice b i (n + 1)) = ofLittle (slice b i n) + x * 256 ^ n := by
  have hl : i + n < b.length := (List.getElem?_eq_some_iff.mp h).1
  rw [slice_succ h, ofLittle_append, ofLittle_one hx, slice_length (by omega), Nat.mul_comm]
theorem ofLittle_lt : ∀ (b : Bytes), ofLittle b < 256 ^ b.length
  | [] => by simp [ofLittle]
  | x :: r => by
    have e2 : ofLittle (x :: r) = x % 256 + 256 * ofLittle r := rfl
    have := ofLittle_lt r
    rw [e2, List.length_cons, Nat.pow_succ]
    have := Nat.mod_lt x (show 0 < 256 by decide)
    omega
theorem ofLittle4 {a b c d : Nat} (ha : a < 256) (hb : b < 256) (hc : c < 256) (hd : d < 256) : ofLittle [a, b, c, d] = a + 2 ^ 8 * b + 2 ^ 16 * c + 2 ^ 24 * d := by
  show a % 256 + 256 * (b % 256 + 256 * (c % 256 + 256 * (d % 256 + 256 * 0))) = _
  omega
theorem or_split {a b k : Nat} (ha : a < 2 ^ k) : a ||| (b * 2 ^ k) = a + b * 2 ^ k := by
  have h := Nat.two_pow_add_eq_or_of_lt ha b
  rw [Nat.or_comm, Nat.mul_comm b, ← h, Nat.add_comm]
theorem turn_or {c k : Nat} {m : Nat} (hc : c < 2 ^ 32) (hk : k ≤ 32) (e : m = 2 ^ (32 - k)) : (c / 2 ^ k) ||| (c * m % 2 ^ 32) = c / 2 ^ k + c * m % 2 ^ 32 := by
  subst e
  have h32 : 2 ^ 32 = 2 ^ (32 - k) * 2 ^ k := by rw [← Nat.pow_add]; congr 1; omega
  have e1 : c * 2 ^ (32 - k) % 2 ^ 32 = (c % 2 ^ k) * 2 ^ (32 - k) := by
    rw [h32, Nat.mul_comm (2 ^ (32 - k)) (2 ^ k), Nat.mul_mod_mul_right]
  rw [e1]
  refine or_split ?_
  rw [Nat.div_lt_iff_lt_mul (Nat.two_pow_pos k), ← h32]
  exact hc
theorem word_lt (n : Nat) : word n < 2 ^ 32 := Nat.mod_lt _ (by decide)
theorem xor_lt {a b : Nat} (ha : a < 2 ^ 32) (hb : b < 2 ^ 32) : Nat.xor a b < 2 ^ 32 := Nat.xor_lt_two_pow ha hb
theorem mixed_lt (h w : Nat) : mixed h w < 2 ^ 32 := xor_lt (word_lt _) (Nat.lt_of_le_of_lt (Nat.div_le_self _ _) (word_lt _))
theorem hash_step {h : Nat} {k : Bytes} (hb : ∀ x ∈ k, x < 256) (hl : 4 ≤ k.length) : hashFrom h k = hashFrom (mixed h (ofLittle (k.take 4))) (k.drop 4) := by
  match k, hl with
  | a :: b :: c :: d :: r, _ =>
    have ha := hb a (by simp)
    have hb' := hb b (by simp)
    have hc := hb c (by simp)
    have hd := hb d (by simp)
    show hashFrom (mixed h (a + 2 ^ 8 * b + 2 ^ 16 * c + 2 ^ 24 * d)) r = hashFrom (mixed h (ofLittle [a, b, c, d])) r
    rw [ofLittle4 ha hb' hc hd]
theorem hash_over {h : Nat} {k : Bytes} (h0 : 0 < k.length) (h4 : k.length < 4) : hashFrom h k = Nat.xor (word ((h + ofLittle k) * 0xC6A4A793)) (word ((h + ofLittle k) * 0xC6A4A793) / 2 ^ 24) := by
  match k, h0, h4 with
  | [a], _, _ => rfl
  | [a, b], _, _ => rfl
  | [a, b, c], _, _ => rfl
def HashAt (k : Bytes) (j h : Nat) : Prop := Sv13.hash k = hashFrom h (k.drop (4 * j)) ∧ h < 2 ^ 32
theorem hashAt_start (k : Bytes) : HashAt k 0 (Nat.xor 0xBC9F1D34 (word (k.length * 0xC6A4A793))) := ⟨rfl, xor_lt (by decide) (word_lt _)⟩
theorem hashAt_step {k : Bytes} {j h : Nat} (hb : ∀ x ∈ k, x < 256) (hl : 4 * j + 4 ≤ k.length) (q : HashAt k j h) : HashAt k (j + 1) (mixed h (ofLittle (slice k (4 * j) 4))) := by
  refine ⟨?_, mixed_lt _ _⟩
  rw [q.1, hash_step (fun x hx => hb x (List.mem_of_mem_drop hx)) (by rw [List.length_drop]; omega), List.drop_drop]
  rfl
theorem hashAt_end0 {k : Bytes} {j h : Nat} (hl : k.length ≤ 4 * j) (q : HashAt k j h) : Sv13.hash k = h := by
  rw [q.1, List.drop_eq_nil_of_le hl]
  rfl
theorem hashAt_end {k : Bytes} {j h : Nat} (h0 : 4 * j < k.length) (h4 : k.length < 4 * j + 4) (q : HashAt k j h) :
    Sv13.hash k = Nat.xor (word ((h + ofLittle (slice k (4 * j) (k.length - 4 * j))) * 0xC6A4A793)) (word ((h + ofLittle (slice k (4 * j) (k.length - 4 * j))) * 0xC6A4A793) / 2 ^ 24) := by
  have e : slice k (4 * j) (k.length - 4 * j) = k.drop (4 * j) := by
    unfold slice
    rw [List.take_of_length_le (by rw [List.length_drop]; omega)]
  rw [q.1, hash_over (by rw [List.length_drop]; omega) (by rw [List.length_drop]; omega), e]
theorem hash_lt {k : Bytes} (hb : ∀ x ∈ k, x < 256) : Sv13.hash k < 2 ^ 32 := by
  have go : ∀ n j h, k.length - 4 * j ≤ n → HashAt k j h → Sv13.hash k < 2 ^ 32 := by
    intro n
    induction n with
    | zero => intro j h hl q; rw [hashAt_end0 (by omega) q]; exact q.2
    | succ n ih =>
      intro j h hl q
      by_cases h4 : 4 * j + 4 ≤ k.length
      · exact ih (j + 1) _ (by omega) (hashAt_step hb h4 q)
      · by_cases h0 : 4 * j < k.length
        · rw [hashAt_end h0 (by omega) q]
          exact xor_lt (word_lt _) (Nat.lt_of_le_of_lt (Nat.div_le_self _ _) (word_lt _))
        · rw [hashAt_end0 (by omega) q]; exact q.2
  exact go _ 0 _ (Nat.le_refl _) (hashAt_start k)
def stride (h : Nat) : Nat := word (h / 2 ^ 17 + h * 2 ^ 15)
theorem stride_eq {h : Nat} (hl : h < 2 ^ 32) : (h / 2 ^ 17) ||| (h * 2 ^ 15 % 2 ^ 32) = stride h := by
  rw [turn_or hl (by decide) (by rfl)]
  unfold stride word
  have h1 : h * 2 ^ 15 % 2 ^ 32 = (h % 2 ^ 17) * 2 ^ 15 := by
    rw [show (2 : Nat) ^ 32 = 2 ^ 17 * 2 ^ 15 from rfl, Nat.mul_mod_mul_right]
  have h2 : h / 2 ^ 17 < 2 ^ 15 := by omega
  have h3 : h % 2 ^ 17 < 2 ^ 17 := Nat.mod_lt _ (by decide)
  omega
def markAt (h j n : Nat) : Nat := word (h + j * stride h) % n
theorem marks_eq (k n : Nat) (key : Bytes) : marks k n key = (List.range k).map fun j => markAt (Sv13.hash key) j n := rfl
theorem word_step (h j d : Nat) : (word (h + j * d) + d) % 2 ^ 32 = word (h + (j + 1) * d) := by
  unfold word
  rw [Nat.add_mod, Nat.mod_mod, ← Nat.add_mod, Nat.add_mul, Nat.one_mul, Nat.add_assoc]
theorem marks_lt {k n : Nat} {key : Bytes} (hn : 0 < n) : ∀ m ∈ marks k n key, m < n := by
  intro m h
  rw [marks_eq] at h
  obtain ⟨j, _, rfl⟩ := List.mem_map.mp h
  exact Nat.mod_lt _ hn
def setBit (piece : Bytes) (m : Nat) : Bytes := piece.set (m / 8) (piece.getD (m / 8) 0 ||| 2 ^ (m % 8))
theorem setBit_length (piece : Bytes) (m : Nat) : (setBit piece m).length = piece.length := by simp [setBit]
theorem setBits_length : ∀ (ms : List Nat) (piece : Bytes), (ms.foldl setBit piece).length = piece.length
  | [], p => rfl
  | m :: r, p => by rw [List.foldl_cons, setBits_length r, setBit_length]
theorem setBit_test {piece : Bytes} {m : Nat} (hm : m / 8 < piece.length) (i j : Nat) (hj : j < 8) : ((setBit piece m).getD i 0).testBit j = (decide (m = 8 * i + j) || (piece.getD i 0).testBit j) := by
  unfold setBit
  by_cases hi : m / 8 = i
  · subst hi
    have e : (piece.set (m / 8) (piece.getD (m / 8) 0 ||| 2 ^ (m % 8))).getD (m / 8) 0 = piece.getD (m / 8) 0 ||| 2 ^ (m % 8) := by
      simp [List.getD, hm]
    rw [e, Nat.testBit_or, Nat.testBit_two_pow, Bool.or_comm]
    congr 1
    have : (m % 8 = j) ↔ (m = 8 * (m / 8) + j) := by omega
    simp [this]
  · have e : (piece.set (m / 8) (piece.getD (m / 8) 0 ||| 2 ^ (m % 8))).getD i 0 = piece.getD i 0 := by
      simp [List.getD, hi]
    rw [e]
    have : ¬ m = 8 * i + j := by omega
    simp [this]
theorem setBit_byte {piece : Bytes} {m : Nat} (h : ∀ x ∈ piece, x < 256) : ∀ x ∈ setBit piece m, x < 256 := by
  intro x hx
  unfold setBit at hx
  rcases List.mem_or_eq_of_mem_set hx with hx | hx
  · exact h x hx
  · rw [hx]
    have h1 : piece.getD (m / 8) 0 < 2 ^ 8 := by
      unfold List.getD
      cases q : piece[m / 8]? with
      | none => simp
      | some y => exact h y (List.mem_of_getElem? q)
    have h2 : 2 ^ (m % 8) < 2 ^ 8 := Nat.pow_lt_pow_right (by decide) (Nat.mod_lt _ (by decide))
    exact Nat.or_lt_two_pow h1 h2
theorem setBits_byte : ∀ (ms : List Nat) (piece : Bytes), (∀ x ∈ piece, x < 256) → ∀ x ∈ ms.foldl setBit piece, x < 256
  | [], p, h => h
  | m :: r, p, h => setBits_byte r _ (setBit_byte h)
theorem setBits_test : ∀ (ms : List Nat) (piece : Bytes), (∀ m ∈ ms, m / 8 < piece.length) → ∀ i j, j < 8 → ((ms.foldl setBit piece).getD i 0).testBit j = (ms.contains (8 * i + j) || (piece.getD i 0).testBit j)
  | [], p, _, i, j, _ => by simp
  | m :: r, p, h, i, j, hj => by
    rw [List.foldl_cons, setBits_test r (setBit p m) (fun x hx => by rw [setBit_length]; exact h x (List.mem_cons_of_mem _ hx)) i j hj, setBit_test (h m List.mem_cons_self) i j hj]
    rw [List.contains_cons]
    have : (8 * i + j == m) = decide (m = 8 * i + j) := by
      by_cases e : m = 8 * i + j
      · simp [e]
      · have e' : ¬ 8 * i + j = m := fun q => e q.symm
        simp [e, e']
    rw [this]
    cases r.contains (8 * i + j) <;> cases decide (m = 8 * i + j) <;> rfl
theorem byte_sum (f : Nat → Bool) : (((List.range 8).map fun j => if f j = true then 2 ^ j else 0).sum < 256) ∧ ∀ j, j < 8 → ((List.range 8).map fun j => if f j = true then 2 ^ j else 0).sum.testBit j = f j := by
  have e : (List.range 8).map (fun j => if f j = true then 2 ^ j else 0) = [if f 0 = true then 2 ^ 0 else 0, if f 1 = true then 2 ^ 1 else 0, if f 2 = true then 2 ^ 2 else 0, if f 3 = true then 2 ^ 3 else 0, if f 4 = true then 2 ^ 4 else 0, if f 5 = true then 2 ^ 5 else 0, if f 6 = true then 2 ^ 6 else 0, if f 7 = true then 2 ^ 7 else 0] := rfl
  rw [e]
  have all : ∀ a b c d p q r s : Bool, ([if a = true then 2 ^ 0 else 0, if b = true then 2 ^ 1 else 0, if c = true then 2 ^ 2 else 0, if d = true then 2 ^ 3 else 0, if p = true then 2 ^ 4 else 0, if q = true then 2 ^ 5 else 0, if r = true then 2 ^ 6 else 0, if s = true then 2 ^ 7 else 0] : List Nat).sum < 256 ∧
      ([if a = true then 2 ^ 0 else 0, if b = true then 2 ^ 1 else 0, if c = true then 2 ^ 2 else 0, if d = true then 2 ^ 3 else 0, if p = true then 2 ^ 4 else 0, if q = true then 2 ^ 5 else 0, if r = true then 2 ^ 6 else 0, if s = true then 2 ^ 7 else 0] : List Nat).sum = a.toNat + 2 * (b.toNat + 2 * (c.toNat + 2 * (d.toNat + 2 * (p.toNat + 2 * (q.toNat + 2 * (r.toNat + 2 * s.toNat)))))) := by decide
  obtain ⟨h1, h2⟩ := all (f 0) (f 1) (f 2) (f 3) (f 4) (f 5) (f 6) (f 7)
  refine ⟨h1, fun j hj => ?_⟩
  rw [h2]
  have tb : ∀ (a : Bool) (n : Nat), (a.toNat + 2 * n).testBit 0 = a := fun a n => by
    rw [Nat.testBit_zero]; cases a <;> simp <;> omega
  have ts : ∀ (a : Bool) (n i : Nat), (a.toNat + 2 * n).testBit (i + 1) = n.testBit i := fun a n i => by
    rw [Nat.testBit_succ]; congr 1; cases a <;> simp <;> omega
  have t0 : ∀ a : Bool, a.toNat.testBit 0 = a := fun a => by cases a <;> rfl
  match j, hj with
  | 0, _ => rw [tb]
  | 1, _ => rw [ts, tb]
  | 2, _ => rw [ts, ts, tb]
  | 3, _ => rw [ts, ts, ts, tb]
  | 4, _ => rw [ts, ts, ts, ts, tb]
  | 5, _ => rw [ts, ts, ts, ts, ts, tb]
  | 6, _ => rw [ts, ts, ts, ts, ts, ts, tb]
  | 7, _ => rw [ts, ts, ts, ts, ts, ts, ts, t0]
def pieceSize (bits : Nat) (keys : List Bytes) : Nat := (max 64 (keys.length * bits) + 7) / 8
def allMarks (bits : Nat) (n : Nat) (keys : List Bytes) : List Nat := keys.flatMap (marks (probes bits) n)
def pieceBits (bits : Nat) (keys : List Bytes) : Bytes := (allMarks bits (8 * pieceSize bits keys) keys).foldl setBit (List.replicate (pieceSize bits keys) 0)
theorem pieceSize_pos (bits : Nat) (keys : List Bytes) : 0 < pieceSize bits keys := by
  unfold pieceSize
  have : 64 ≤ max 64 (keys.length * bits) := Nat.le_max_left _ _
  omega
theorem byte_ext {x y : Nat} (hx : x < 256) (hy : y < 256) (h : ∀ j, j < 8 → x.testBit j = y.testBit j) : x = y := by
  apply Nat.eq_of_testBit_eq
  intro j
  by_cases hj : j < 8
  · exact h j hj
  · have h8 : (256 : Nat) ≤ 2 ^ j := by
      have := Nat.pow_le_pow_right (show 0 < 2 by decide) (show 8 ≤ j by omega)
      simpa using this
    rw [Nat.testBit_lt_two_pow (Nat.lt_of_lt_of_le hx h8), Nat.testBit_lt_two_pow (Nat.lt_of_lt_of_le hy h8)]
theorem filter_eq (bits : Nat) (keys : List Bytes) : Sv13.filter bits keys = pieceBits bits keys ++ [probes bits] := by
  have hn : bitsOf bits keys = 8 * pieceSize bits keys := Nat.mul_comm _ _
  have hn8 : bitsOf bits keys / 8 = pieceSize bits keys := by rw [hn]; omega
  show ((List.range (bitsOf bits keys / 8)).map fun i => ((List.range 8).map fun j => if (keys.flatMap (marks (probes bits) (bitsOf bits keys))).contains (8 * i + j) = true then 2 ^ j else 0).sum) ++ [probes bits] = _
  congr 1
  rw [hn8, hn]
  have hms : ∀ m ∈ allMarks bits (8 * pieceSize bits keys) keys, m / 8 < (List.replicate (pieceSize bits keys) 0).length := by
    intro m hm
    unfold allMarks at hm
    obtain ⟨k, _, hk⟩ := List.mem_flatMap.mp hm
    have hpos := pieceSize_pos bits keys
    have := marks_lt (by omega) m hk
    rw [List.length_replicate]
    omega
  apply List.ext_getElem?
  intro i
  have hlen : (pieceBits bits keys).length = pieceSize bits keys := by
    unfold pieceBits
    rw [setBits_length, List.length_replicate]
  by_cases hi : i < pieceSize bits keys
  · have hg : (pieceBits bits keys)[i]? = some ((pieceBits bits keys).getD i 0) := by
      simp [List.getD, hlen, hi]
    rw [hg, List.getElem?_map, List.getElem?_range hi]
    show some _ = some _
    congr 1
    obtain ⟨b1, b2⟩ := byte_sum fun j => (allMarks bits (8 * pieceSize bits keys) keys).contains (8 * i + j)
    refine byte_ext b1 ?_ fun j hj => ?_
    · have hb := setBits_byte (allMarks bits (8 * pieceSize bits keys) keys) (List.replicate (pieceSize bits keys) 0) (fun x hx => by rw [(List.mem_replicate.mp hx).2]; decide)
      refine hb _ ?_
      exact List.mem_of_getElem? hg
    · have h2 := setBits_test (allMarks bits (8 * pieceSize bits keys) keys) (List.replicate (pieceSize bits keys) 0) hms i j hj
      unfold pieceBits
      rw [h2]
      refine (b2 j hj).trans ?_
      have : ((List.replicate (pieceSize bits keys) 0).getD i 0).testBit j = false := by
        simp [List.getD, List.getElem?_replicate, hi]
      rw [this, Bool.or_false]
  · rw [List.getElem?_eq_none (by rw [List.length_map, List.length_range]; omega), List.getElem?_eq_none (by rw [hlen]; omega)]
end My
set_option linter.all false
namespace My
open Sv13
def kindN (first last : Bool) : Nat := if first = true then (if last = true then 1 else 2) else if last = true then 4 else 3
end My
set_option linter.all false
namespace My
open Sv13
end My
set_option linter.all false
namespace My
open Sv13
end My
set_option linter.all false
namespace My
open Sv13
theorem before_trans : ∀ {a b c : Bytes}, before a b = true → before b c = true → before a c = true
  | [], [], _, h, _ => by cases h
  | [], _ :: _, [], _, h => by cases h
  | [], _ :: _, _ :: _, _, _ => rfl
  | _ :: _, [], _, h, _ => by cases h
  | _ :: _, _ :: _, [], _, h => by cases h
  | x :: r, y :: s, z :: t, h1, h2 => by
    have h1 : (decide (x < y) || (x == y && before r s)) = true := h1
    have h2 : (decide (y < z) || (y == z && before s t)) = true := h2
    show (decide (x < z) || (x == z && before r t)) = true
    simp only [Bool.or_eq_true, Bool.and_eq_true, decide_eq_true_eq, beq_iff_eq] at h1 h2 ⊢
    rcases h1 with h1 | ⟨h1, h1'⟩
    · rcases h2 with h2 | ⟨h2, _⟩
      · exact .inl (by omega)
      · exact .inl (by omega)
    · rcases h2 with h2 | ⟨h2, h2'⟩
      · exact .inl (by omega)
      · exact .inr ⟨by omega, before_trans h1' h2'⟩
theorem before_self : ∀ a : Bytes, before a a = false
  | [] => rfl
  | x :: r => by
    show (decide (x < x) || (x == x && before r r)) = false
    rw [before_self r]
    simp
theorem before_asymm {a b : Bytes} (h : before a b = true) : before b a = false := by
  cases q : before b a with
  | false => rfl
  | true =>
    have := before_trans h q
    rw [before_self] at this
    cases this
theorem pair_zip {α : Type} {R : α → α → Bool} (tr : ∀ a b c, R a b = true → R b c = true → R a c = true) : ∀ l : List α, ((l.zip (l.drop 1)).all fun x => R x.1 x.2) = true ↔ l.Pairwise fun x y => R x y = true
  | [] => by simp
  | [a] => by simp
  | a :: b :: r => by
    have ih := pair_zip tr (b :: r)
    have e : ((a :: b :: r).zip ((a :: b :: r).drop 1)) = (a, b) :: ((b :: r).zip ((b :: r).drop 1)) := rfl
    rw [e, List.all_cons, Bool.and_eq_true, ih]
    constructor
    · rintro ⟨h1, h2⟩
      refine List.pairwise_cons.mpr ⟨fun x hx => ?_, h2⟩
      rcases List.mem_cons.mp hx with rfl | hx
      · exact h1
      · exact tr _ _ _ h1 ((List.pairwise_cons.mp h2).1 x hx)
    · intro h
      obtain ⟨h1, h2⟩ := List.pairwise_cons.mp h
      exact ⟨h1 b List.mem_cons_self, h2⟩
theorem rising_iff (l : List Bytes) : rising l = true ↔ l.Pairwise fun x y => before x y = true := pair_zip (R := before) (fun _ _ _ h1 h2 => before_trans h1 h2) l
end My
set_option linter.all false
namespace My
open Sv13
end My
set_option linter.all false
namespace My
open Sv13
def prevOk (prev : Option Bytes) (k : Bytes) : Bool := match prev with
  | some pk => before pk k
  | none => true
def lastKey (d : Bytes) (l : List Entry) : Bytes := match l.getLast? with
  | some e => e.1
  | none => d
abbrev Blk3 := Bytes × Handle × List Entry
def rd (t : Bytes) (e : Entry) : Option Blk3 := (handleOf e.2).bind fun h => ((blockAt t h).bind entriesOf).map fun l => (e.1, h, l)
def okOne (prev : Option Bytes) (ik : Bytes) : List Entry → Bool
  | [] => false
  | e :: l => rising ((e :: l).map fun e => e.1) && (prevOk prev e.1 && !before ik (lastKey e.1 l))
def okB : Option Bytes → List Blk3 → Bool
  | _, [] => true
  | prev, b :: r => okOne prev b.1 b.2.2 && okB (some b.1) r
end My
set_option linter.all false
namespace My
open Sv13
end My
set_option linter.all false
namespace My
open Sv13
end My
set_option linter.all false
namespace My
open Sv13
end My
set_option linter.all false
namespace My
open Sv13
theorem zip_drop_snoc {α : Type} : ∀ (l : List α) (x y : α), (l ++ [x] ++ [y]).zip ((l ++ [x] ++ [y]).drop 1) = (l ++ [x]).zip ((l ++ [x]).drop 1) ++ [(x, y)]
  | [], x, y => rfl
  | [a], x, y => rfl
  | a :: b :: r, x, y => by
    have ih := zip_drop_snoc (b :: r) x y
    show (a, b) :: (b :: (r ++ [x] ++ [y])).zip (r ++ [x] ++ [y]) = (a, b) :: (b :: (r ++ [x])).zip (r ++ [x]) ++ [(x, y)]
    rw [List.cons_append]
    congr 1
theorem rising_snoc (l : List Bytes) (x y : Bytes) : rising (l ++ [x] ++ [y]) = (rising (l ++ [x]) && before x y) := by
  unfold rising
  rw [zip_drop_snoc, List.all_append]
  simp
theorem rising_append_left : ∀ (a b : List Bytes), rising (a ++ b) = true → rising a = true
  | [], b, _ => rfl
  | [x], b, _ => rfl
  | x :: y :: r, b, h => by
    have h' : (before x y && rising (y :: (r ++ b))) = true := h
    have h1 := (Bool.and_eq_true_iff.mp h').1
    have h2 := rising_append_left (y :: r) b (Bool.and_eq_true_iff.mp h').2
    show (before x y && rising (y :: r)) = true
    rw [h1, h2]
    rfl
structure RowsAt (rows : Bytes) (es : List Entry) (at_ : Nat) : Prop where
  le : at_ ≤ rows.length
  eq : ∃ f, rows.length - at_ < f ∧ rowsOf (rows.length + 1) rows = (rowsOf f (rows.drop at_)).map fun l => es ++ l
  wt : (es.map fun e => 6 + e.1.length + e.2.length).sum = at_
  by_ : (∀ x ∈ rows, x < 256) → ∀ e ∈ es, (∀ x ∈ e.1, x < 256) ∧ ∀ x ∈ e.2, x < 256
theorem rowsAt_start (rows : Bytes) : RowsAt rows [] 0 :=
  ⟨Nat.zero_le _, ⟨rows.length + 1, by omega, by cases h : rowsOf (rows.length + 1) rows <;> simp [h]⟩, rfl, fun _ e h => by simp at h⟩
def klen (rows : Bytes) (at_ : Nat) : Nat := ofLittle (slice rows at_ 2)
def vlen (rows : Bytes) (at_ : Nat) : Nat := ofLittle (slice rows (at_ + 2) 4)
theorem slice_drop (b : Bytes) (i j n : Nat) : slice (b.drop i) j n = slice b (i + j) n := by
  unfold slice
  rw [List.drop_drop]
theorem rowsAt_end {rows : Bytes} {es : List Entry} {at_ : Nat} (r : RowsAt rows es at_) (h : rows.length ≤ at_) : rowsOf (rows.length + 1) rows = some es := by
  obtain ⟨f, hf, e⟩ := r.eq
  rw [e, List.drop_eq_nil_of_le h]
  cases f with
  | zero => omega
  | succ f => simp [rowsOf]
theorem rowsOf_ne {f : Nat} {b : Bytes} (hb : b ≠ []) : rowsOf (f + 1) b = if b.length < 6 + ofLittle (slice b 0 2) + ofLittle (slice b 2 4) then none else (rowsOf f (b.drop (6 + ofLittle (slice b 0 2) + ofLittle (slice b 2 4)))).map fun l => (slice b 6 (ofLittle (slice b 0 2)), slice b (6 + ofLittle (slice b 0 2)) (ofLittle (slice b 2 4))) :: l := by
  conv => lhs; unfold rowsOf
  rw [if_neg hb]
theorem drop_ne {rows : Bytes} {at_ : Nat} (h : at_ < rows.length) : rows.drop at_ ≠ [] := by
  intro q
  have := congrArg List.length q
  rw [List.length_drop, List.length_nil] at this
  omega
theorem rowsAt_bad {rows : Bytes} {es : List Entry} {at_ : Nat} (r : RowsAt rows es at_) (h : at_ < rows.length) (hb : rows.length < at_ + 6 + klen rows at_ + vlen rows at_) : rowsOf (rows.length + 1) rows = none := by
  obtain ⟨f, hf, e⟩ := r.eq
  cases f with
  | zero => omega
  | succ f =>
    rw [e, rowsOf_ne (drop_ne h), slice_drop, slice_drop, List.length_drop, Nat.add_zero]
    unfold klen vlen at hb
    rw [if_pos (by omega)]
    rfl
theorem rowsAt_short {rows : Bytes} {es : List Entry} {at_ : Nat} (r : RowsAt rows es at_) (h : at_ < rows.length) (hb : rows.length < at_ + 6) : rowsOf (rows.length + 1) rows = none :=
  rowsAt_bad r h (by omega)
theorem slice_byte {b : Bytes} {i n : Nat} (h : ∀ x ∈ b, x < 256) : ∀ x ∈ slice b i n, x < 256 := fun x hx => h x (List.mem_of_mem_drop (List.mem_of_mem_take hx))
theorem rowsAt_step {rows : Bytes} {es : List Entry} {at_ : Nat} (r : RowsAt rows es at_) (h : at_ < rows.length) (hb : at_ + 6 + klen rows at_ + vlen rows at_ ≤ rows.length) :
    RowsAt rows (es ++ [(slice rows (at_ + 6) (klen rows at_), slice rows (at_ + 6 + klen rows at_) (vlen rows at_))]) (at_ + 6 + klen rows at_ + vlen rows at_) := by
  obtain ⟨f, hf, e⟩ := r.eq
  cases f with
  | zero => omega
  | succ f =>
    refine ⟨hb, ⟨f, by omega, ?_⟩, ?_, fun hr x hx => ?_⟩
    · rw [e, rowsOf_ne (drop_ne h), slice_drop, slice_drop, List.length_drop, Nat.add_zero]
      unfold klen vlen at hb ⊢
      rw [if_neg (by omega), List.drop_drop, slice_drop, slice_drop]
      rw [show at_ + (6 + ofLittle (slice rows at_ 2) + ofLittle (slice rows (at_ + 2) 4)) = at_ + 6 + ofLittle (slice rows at_ 2) + ofLittle (slice rows (at_ + 2) 4) by omega]
      rw [show at_ + (6 + ofLittle (slice rows at_ 2)) = at_ + 6 + ofLittle (slice rows at_ 2) by omega]
      cases rowsOf f (rows.drop (at_ + 6 + ofLittle (slice rows at_ 2) + ofLittle (slice rows (at_ + 2) 4))) <;> simp
    · rw [List.map_append, List.sum_append, r.wt]
      simp only [List.map_cons, List.map_nil, List.sum_cons, List.sum_nil]
      rw [slice_length (by omega), slice_length (by omega)]
      omega
    · rcases List.mem_append.mp hx with hx | hx
      · exact r.by_ hr x hx
      · have : x = (slice rows (at_ + 6) (klen rows at_), slice rows (at_ + 6 + klen rows at_) (vlen rows at_)) := by simpa using hx
        rw [this]
        exact ⟨slice_byte hr, slice_byte hr⟩
def entriesM (rows : Bytes) : Option (List Entry) := (rowsOf (rows.length + 1) rows).bind fun l => if rising (l.map fun e => e.1) = false then none else some l
theorem entriesM_none {rows : Bytes} (h : rowsOf (rows.length + 1) rows = none) : entriesM rows = none := by simp [entriesM, h]
theorem entriesM_fall {rows : Bytes} {es : List Entry} {at_ : Nat} (r : RowsAt rows es at_) (h : rising (es.map fun e => e.1) = false) : entriesM rows = none := by
  obtain ⟨f, hf, e⟩ := r.eq
  unfold entriesM
  rw [e]
  cases q : rowsOf f (rows.drop at_) with
  | none => rfl
  | some l =>
    show (if rising ((es ++ l).map fun e => e.1) = false then none else some (es ++ l)) = none
    rw [if_pos]
    rw [List.map_append]
    cases z : rising (es.map (fun e => e.1) ++ l.map fun e => e.1) with
    | false => rfl
    | true => rw [rising_append_left _ _ z] at h; cases h
theorem entriesM_some {rows : Bytes} {es : List Entry} {at_ : Nat} (r : RowsAt rows es at_) (hl : rows.length ≤ at_) (h : rising (es.map fun e => e.1) = true) : entriesM rows = some es := by
  unfold entriesM
  rw [rowsAt_end r hl]
  show (if rising (es.map fun e => e.1) = false then none else some es) = some es
  rw [h]
  rfl
def wt (l : List Entry) : Nat := (l.map fun e => 6 + e.1.length + e.2.length).sum
theorem put_body (iv : Nat) (b : BW) (k v : Bytes) : (b.put iv k v).body.length ≤ b.body.length + 30 + k.length + v.length := by
  simp only [BW.put, List.length_append, List.length_drop]
  have h1 := varint_length (b.sh iv k)
  have h2 := varint_length (k.length - b.sh iv k)
  have h3 := varint_length v.length
  omega
theorem put_rs (iv : Nat) (b : BW) (k v : Bytes) : (b.put iv k v).rs.length ≤ b.rs.length + 1 := by
  simp only [BW.put]
  split
  · omega
  · split <;> simp
theorem common_le : ∀ a b : Bytes, common a b ≤ a.length ∧ common a b ≤ b.length
  | [], b => by simp [common]
  | x :: r, [] => by simp [common]
  | x :: r, y :: s => by
    have ⟨h1, h2⟩ := common_le r s
    unfold common
    split
    · simp only [List.length_cons]; omega
    · simp
theorem sh_le (iv : Nat) (b : BW) (k : Bytes) : b.sh iv k ≤ k.length := by
  unfold BW.sh
  split
  · exact (common_le _ _).2
  · exact Nat.zero_le _
end My
set_option linter.all false
namespace My
open Sv13
theorem content_length (b : BW) : b.content.length = b.size := by
  unfold BW.content BW.size
  rw [List.length_append, List.length_append, little_length]
  have : (b.rs.flatMap (little 4)).length = 4 * b.rs.length := by
    induction b.rs with
    | nil => rfl
    | cons x r ih => rw [List.flatMap_cons, List.length_append, ih, little_length, List.length_cons]; omega
  omega
def DB.len (s : DB) : Nat := (outOf s.blocks).length + s.w.body.length + 4 * s.w.rs.length + if s.keys = [] then 0 else 13
theorem DB.len_step {iv size : Nat} {s : DB} {e : Entry} : (s.step iv size e).len ≤ s.len + 9 * (6 + e.1.length + e.2.length) := by
  have h1 := put_body iv s.w e.1 e.2
  have h2 := put_rs iv s.w e.1 e.2
  have h3 : (if s.keys = [] then 0 else 13) ≤ 13 := by split <;> omega
  unfold DB.step
  split
  · show (outOf (s.blocks ++ [(s.keys ++ [e.1], (s.w.put iv e.1 e.2).content)])).length + ([] : Bytes).length + 4 * ([0] : List Nat).length + 0 ≤ (outOf s.blocks).length + s.w.body.length + 4 * s.w.rs.length + (if s.keys = [] then 0 else 13) + _
    rw [outOf_snoc, List.length_append, raw_length]
    have h4 := content_length (s.w.put iv e.1 e.2)
    unfold BW.size at h4
    simp only [List.length_nil, List.length_cons]
    omega
  · show (outOf s.blocks).length + (s.w.put iv e.1 e.2).body.length + 4 * (s.w.put iv e.1 e.2).rs.length + (if s.keys ++ [e.1] = [] then 0 else 13) ≤ (outOf s.blocks).length + s.w.body.length + 4 * s.w.rs.length + (if s.keys = [] then 0 else 13) + _
    rw [if_neg (by simp)]
    omega
theorem DB.len_new : DB.new.len = 4 := rfl
theorem wt_cons (e : Entry) (l : List Entry) : wt (e :: l) = 6 + e.1.length + e.2.length + wt l := by simp [wt]
theorem DB.len_all {iv size : Nat} : ∀ (l : List Entry) (s : DB), (l.foldl (DB.step iv size) s).len ≤ s.len + 9 * wt l
  | [], s => by simp [wt]
  | e :: l, s => by
    have h1 := DB.len_all (iv := iv) (size := size) l (s.step iv size e)
    have h2 := DB.len_step (iv := iv) (size := size) (s := s) (e := e)
    rw [List.foldl_cons, wt_cons]
    omega
def DB.cnt (s : DB) : Nat := (s.blocks.map fun b => b.1.length).sum + s.keys.length
theorem DB.cnt_step {iv size : Nat} {s : DB} {e : Entry} : (s.step iv size e).cnt = s.cnt + 1 := by
  unfold DB.step
  split <;> simp [DB.cnt] <;> omega
theorem DB.cnt_all {iv size : Nat} : ∀ (l : List Entry) (s : DB), (l.foldl (DB.step iv size) s).cnt = s.cnt + l.length
  | [], s => rfl
  | e :: l, s => by
    rw [List.foldl_cons, DB.cnt_all l, DB.cnt_step, List.length_cons]
    omega
theorem wt_len : ∀ l : List Entry, 6 * l.length ≤ wt l
  | [] => by simp [wt]
  | e :: l => by
    have := wt_len l
    rw [wt_cons, List.length_cons]
    omega
theorem blocks_len {iv size : Nat} (l : List Entry) : (outOf (dataBlocks iv size l)).length ≤ 9 * wt l + 4 := by
  have h := DB.len_all (iv := iv) (size := size) l DB.new
  rw [DB.len_new] at h
  unfold dataBlocks DB.fin
  generalize l.foldl (DB.step iv size) DB.new = s at *
  unfold DB.len at h
  split
  · omega
  · rename_i hk
    rw [if_neg hk] at h
    rw [outOf_snoc, List.length_append, raw_length]
    have h4 := content_length s.w
    unfold BW.size at h4
    show _ + (s.w.content.length + 5) ≤ _
    omega
def keysN (bk : List (Nat × List Bytes)) : Nat := (bk.map fun x => x.2.length).sum
def upKeys (bk : List (Nat × List Bytes)) (n : Nat) : Nat := ((List.range n).map fun i => (pieceKeys bk i).length).sum
theorem upKeys_succ (bk : List (Nat × List Bytes)) (n : Nat) : upKeys bk (n + 1) = upKeys bk n + (pieceKeys bk n).length := by
  simp [upKeys, List.range_succ]
theorem upKeys_cons (x : Nat × List Bytes) (bk : List (Nat × List Bytes)) : ∀ n, upKeys (x :: bk) n = upKeys bk n + if x.1 / 2048 < n then x.2.length else 0
  | 0 => by simp [upKeys]
  | n + 1 => by
    rw [upKeys_succ, upKeys_succ, upKeys_cons x bk n]
    have e : (pieceKeys (x :: bk) n).length = (if x.1 / 2048 = n then x.2.length else 0) + (pieceKeys bk n).length := by
      unfold pieceKeys
      rw [List.flatMap_cons, List.length_append]
      split <;> rfl
    rw [e]
    generalize x.1 / 2048 = q
    by_cases h1 : q < n
    · rw [if_pos h1, if_neg (by omega), if_pos (by omega)]; omega
    · by_cases h2 : q = n
      · rw [if_neg h1, if_pos h2, if_pos (by omega)]; omega
      · rw [if_neg h1, if_neg h2, if_neg (by omega)]; omega
theorem upKeys_le : ∀ (bk : List (Nat × List Bytes)) (n : Nat), upKeys bk n ≤ keysN bk
  | [], n => by
    have : upKeys [] n = 0 := by
      induction n with
      | zero => rfl
      | succ n ih => rw [upKeys_succ, ih]; rfl
    omega
  | x :: bk, n => by
    have := upKeys_le bk n
    rw [upKeys_cons]
    have e : keysN (x :: bk) = x.2.length + keysN bk := by simp [keysN]
    rw [e]
    split <;> omega
theorem pieceBits_length (bits : Nat) (keys : List Bytes) : (pieceBits bits keys).length = pieceSize bits keys := by
  unfold pieceBits
  rw [setBits_length, List.length_replicate]
theorem pieceSize_le {bits : Nat} (hb : bits ≤ 20) (keys : List Bytes) : pieceSize bits keys ≤ 8 + 3 * keys.length := by
  unfold pieceSize
  have h : keys.length * bits ≤ keys.length * 20 := Nat.mul_le_mul_left _ hb
  generalize keys.length * bits = z at *
  have : max 64 z ≤ 64 + z := by omega
  omega
theorem pc_length {bits : Nat} (hb : bits ≤ 20) (keys : List Bytes) : (pc bits keys).length ≤ 9 + 3 * keys.length := by
  unfold pc
  split
  · simp
  · rw [filter_eq, List.length_append, pieceBits_length]
    have := pieceSize_le hb keys
    simp only [List.length_cons, List.length_nil]
    omega
theorem res_length {bits : Nat} (hb : bits ≤ 20) (bk : List (Nat × List Bytes)) : ∀ n, (res bits bk n).length ≤ 9 * n + 3 * upKeys bk n
  | 0 => by simp [res]
  | n + 1 => by
    rw [res_succ, List.length_append, upKeys_succ]
    have h1 := res_length hb bk n
    have h2 := pc_length hb (pieceKeys bk n)
    omega
theorem res_bound {bits : Nat} (hb : bits ≤ 20) (bk : List (Nat × List Bytes)) (n : Nat) : (res bits bk n).length ≤ 9 * n + 3 * keysN bk := by
  have h1 := res_length hb bk n
  have h2 := upKeys_le bk n
  omega
theorem begun_keys : ∀ (bs : List Blk) (p : Nat), keysN (begun p bs) = (bs.map fun b => b.1.length).sum
  | [], p => rfl
  | a :: r, p => by
    have := begun_keys r (p + a.2.length + 5)
    show keysN ((p, a.1) :: begun (p + a.2.length + 5) r) = _
    have e : keysN ((p, a.1) :: begun (p + a.2.length + 5) r) = a.1.length + keysN (begun (p + a.2.length + 5) r) := by simp [keysN]
    rw [e, this]
    simp
theorem blocks_cnt {iv size : Nat} (l : List Entry) : ((dataBlocks iv size l).map fun b => b.1.length).sum = l.length := by
  have h := DB.cnt_all (iv := iv) (size := size) l DB.new
  have h0 : DB.new.cnt = 0 := rfl
  rw [h0, Nat.zero_add] at h
  unfold dataBlocks DB.fin
  generalize l.foldl (DB.step iv size) DB.new = s at *
  unfold DB.cnt at h
  split
  · rename_i hk
    rw [hk, List.length_nil] at h
    exact h
  · rw [List.map_append, List.sum_append]
    simpa using h
end My
set_option linter.all false
namespace My
open Sv13
def lastK (ks : List Bytes) : Bytes := ks.getLastD []
def firstK (ks : List Bytes) : Bytes := ks.headD []
def ik : List (List Bytes) → List Bytes
  | [] => []
  | [a] => [behind (lastK a)]
  | a :: b :: r => between (lastK a) (firstK b) :: ik (b :: r)
def hands (p : Nat) : List Blk → List Bytes
  | [] => []
  | b :: r => (Handle.mk p b.2.length).bytes :: hands (p + b.2.length + 5) r
theorem idx_zip : ∀ (l : List Blk) (p : Nat) (b : Blk), pairs p l (firstOf b) ++ [(behind (lastOf b), (Handle.mk (p + (outOf l).length) b.2.length).bytes)] = (ik ((l ++ [b]).map fun x => x.1)).zip (hands p (l ++ [b]))
  | [], p, b => by simp [pairs, outOf, ik, hands, lastK, lastOf]
  | [a], p, b => by
    simp [pairs, outOf, ik, hands, lastK, lastOf, firstK, firstOf, raw_length, Nat.add_assoc]
  | a :: c :: r, p, b => by
    have ih := idx_zip (c :: r) (p + a.2.length + 5) b
    have e : (outOf (a :: c :: r)).length = a.2.length + 5 + (outOf (c :: r)).length := by
      show (raw a.2 ++ outOf (c :: r)).length = _
      rw [List.length_append, raw_length]
    have e2 : p + (outOf (a :: c :: r)).length = p + a.2.length + 5 + (outOf (c :: r)).length := by rw [e]; omega
    rw [e2]
    show (between (lastOf a) (firstOf c), (Handle.mk p a.2.length).bytes) :: (pairs (p + a.2.length + 5) (c :: r) (firstOf b) ++ [(behind (lastOf b), (Handle.mk (p + a.2.length + 5 + (outOf (c :: r)).length) b.2.length).bytes)]) = _
    rw [ih]
    rfl
theorem idxPairs_zip (bs : List Blk) : idxPairs bs = (ik (bs.map fun x => x.1)).zip (hands 0 bs) := by
  rcases snoc_cases bs with h | ⟨r, b, h⟩
  · rw [h]; rfl
  · rw [h, ← idx_zip]
    simp [idxPairs]
theorem handle_length (h : Handle) : h.bytes.length ≤ 20 := by
  unfold Handle.bytes
  rw [List.length_append]
  have h1 := varint_length h.at_
  have h2 := varint_length h.size
  omega
theorem between_le (a b : Bytes) : (between a b).length ≤ a.length := by
  show (if a.length ≤ common a b ∨ b.length ≤ common a b then a else if a.getD (common a b) 0 + 1 < b.getD (common a b) 0 ∧ a.getD (common a b) 0 < 255 then a.take (common a b) ++ [a.getD (common a b) 0 + 1] else a).length ≤ _
  split
  · exact Nat.le_refl _
  · split
    · rw [List.length_append, List.length_take]
      simp only [List.length_cons, List.length_nil]
      omega
    · exact Nat.le_refl _
theorem behind_le (a : Bytes) : (behind a).length ≤ a.length := by
  unfold behind
  split
  · rename_i i h
    rw [List.length_append, List.length_take]
    have : i < a.length := by
      have h' := List.findIdx?_eq_some_iff_getElem.mp h
      exact h'.1
    simp only [List.length_cons, List.length_nil]
    omega
  · exact Nat.le_refl _
def kLen (l : List Bytes) : Nat := (l.map fun k => k.length).sum
def idxW (ps : List (Bytes × Bytes)) : BW := ps.foldl (fun w p => w.put 1 p.1 p.2) BW.new
theorem idxW_snoc (ps : List (Bytes × Bytes)) (p : Bytes × Bytes) : idxW (ps ++ [p]) = (idxW ps).put 1 p.1 p.2 := by simp [idxW]
theorem idxW_len : ∀ (ps : List (Bytes × Bytes)), (∀ p ∈ ps, p.2.length ≤ 20) → (idxW ps).body.length + 4 * (idxW ps).rs.length ≤ 4 + 54 * ps.length + kLen (ps.map fun p => p.1) := by
  intro ps
  have go : ∀ (ps : List (Bytes × Bytes)) (w : BW), (∀ p ∈ ps, p.2.length ≤ 20) → (ps.foldl (fun w p => w.put 1 p.1 p.2) w).body.length + 4 * (ps.foldl (fun w p => w.put 1 p.1 p.2) w).rs.length ≤ w.body.length + 4 * w.rs.length + 54 * ps.length + kLen (ps.map fun p => p.1) := by
    intro ps
    induction ps with
    | nil => intro w _; simp [kLen]
    | cons p r ih =>
      intro w h
      have h1 := ih (w.put 1 p.1 p.2) (fun q hq => h q (List.mem_cons_of_mem _ hq))
      have h2 := put_body 1 w p.1 p.2
      have h3 := put_rs 1 w p.1 p.2
      have h4 := h p List.mem_cons_self
      have e : kLen ((p :: r).map fun p => p.1) = p.1.length + kLen (r.map fun p => p.1) := by simp [kLen]
      rw [List.foldl_cons, e, List.length_cons]
      omega
  intro h
  have := go ps BW.new h
  have e : BW.new.body.length + 4 * BW.new.rs.length = 4 := rfl
  rw [e] at this
  exact this
theorem lastK_le (ks : List Bytes) : (lastK ks).length ≤ kLen ks := by
  unfold lastK
  rcases snoc_cases ks with h | ⟨r, x, h⟩
  · rw [h]; simp
  · rw [h]
    simp [kLen]
def DB.kl (s : DB) : Nat := (s.blocks.map fun b => kLen b.1).sum + kLen s.keys
theorem kLen_snoc (l : List Bytes) (k : Bytes) : kLen (l ++ [k]) = kLen l + k.length := by simp [kLen]
theorem DB.kl_step {iv size : Nat} {s : DB} {e : Entry} : (s.step iv size e).kl = s.kl + e.1.length := by
  unfold DB.step
  split
  · show ((s.blocks ++ [(s.keys ++ [e.1], (s.w.put iv e.1 e.2).content)]).map fun b => kLen b.1).sum + kLen [] = (s.blocks.map fun b => kLen b.1).sum + kLen s.keys + e.1.length
    rw [List.map_append, List.sum_append]
    simp only [List.map_cons, List.map_nil, List.sum_cons, List.sum_nil]
    rw [kLen_snoc]
    show _ + 0 = _
    omega
  · show (s.blocks.map fun b => kLen b.1).sum + kLen (s.keys ++ [e.1]) = (s.blocks.map fun b => kLen b.1).sum + kLen s.keys + e.1.length
    rw [kLen_snoc]
    omega
theorem DB.kl_all {iv size : Nat} : ∀ (l : List Entry) (s : DB), (l.foldl (DB.step iv size) s).kl ≤ s.kl + wt l
  | [], s => by simp [wt]
  | e :: l, s => by
    have h1 := DB.kl_all (iv := iv) (size := size) l (s.step iv size e)
    have h2 := DB.kl_step (iv := iv) (size := size) (s := s) (e := e)
    rw [List.foldl_cons, wt_cons]
    omega
theorem DB.all_step {Pk : Bytes → Prop} {iv size : Nat} {s : DB} {e : Entry} (h1 : ∀ b ∈ s.blocks, ∀ k ∈ b.1, Pk k) (h2 : ∀ k ∈ s.keys, Pk k) (h3 : Pk e.1) : (∀ b ∈ (s.step iv size e).blocks, ∀ k ∈ b.1, Pk k) ∧ ∀ k ∈ (s.step iv size e).keys, Pk k := by
  have h4 : ∀ k ∈ s.keys ++ [e.1], Pk k := fun k hk => by
    rcases List.mem_append.mp hk with hk | hk
    · exact h2 k hk
    · have : k = e.1 := by simpa using hk
      rw [this]; exact h3
  unfold DB.step
  split
  · refine ⟨fun b hb k hk => ?_, fun k hk => by simp at hk⟩
    rcases List.mem_append.mp hb with hb | hb
    · exact h1 b hb k hk
    · have : b = (s.keys ++ [e.1], (s.w.put iv e.1 e.2).content) := by simpa using hb
      rw [this] at hk
      exact h4 k hk
  · exact ⟨h1, h4⟩
theorem DB.all_all {Pk : Bytes → Prop} {iv size : Nat} : ∀ (l : List Entry) (s : DB), (∀ b ∈ s.blocks, ∀ k ∈ b.1, Pk k) → (∀ k ∈ s.keys, Pk k) → (∀ e ∈ l, Pk e.1) → (∀ b ∈ (l.foldl (DB.step iv size) s).blocks, ∀ k ∈ b.1, Pk k) ∧ ∀ k ∈ (l.foldl (DB.step iv size) s).keys, Pk k
  | [], s, h1, h2, _ => ⟨h1, h2⟩
  | e :: l, s, h1, h2, h3 => by
    obtain ⟨a, b⟩ := DB.all_step (iv := iv) (size := size) h1 h2 (h3 e List.mem_cons_self)
    exact DB.all_all l _ a b fun x hx => h3 x (List.mem_cons_of_mem _ hx)
theorem blocks_all {Pk : Bytes → Prop} {iv size : Nat} {l : List Entry} (h : ∀ e ∈ l, Pk e.1) : ∀ b ∈ dataBlocks iv size l, ∀ k ∈ b.1, Pk k := by
  obtain ⟨a, b⟩ := DB.all_all (iv := iv) (size := size) l DB.new (fun b hb => by simp [DB.new] at hb) (fun k hk => by simp [DB.new] at hk) h
  unfold dataBlocks DB.fin
  intro c hc
  split at hc
  · exact a c hc
  · rcases List.mem_append.mp hc with hc | hc
    · exact a c hc
    · have : c = ((l.foldl (DB.step iv size) DB.new).keys, (l.foldl (DB.step iv size) DB.new).w.content) := by simpa using hc
      rw [this]
      exact b
theorem blocks_ne {iv size : Nat} (l : List Entry) : ∀ b ∈ dataBlocks iv size l, b.1 ≠ [] := fin_keys (blk_keys l DB.new fun b h => by simp [DB.new] at h)
end My
set_option linter.all false
namespace My
open Sv13
def byts (l : Bytes) : Prop := ∀ x ∈ l, x < 256
theorem byts_append {a b : Bytes} (ha : byts a) (hb : byts b) : byts (a ++ b) := fun x hx => by
  rcases List.mem_append.mp hx with h | h
  · exact ha x h
  · exact hb x h
theorem byts_nil : byts [] := fun x h => by cases h
theorem byts_drop {a : Bytes} (n : Nat) (h : byts a) : byts (a.drop n) := fun x hx => h x (List.mem_of_mem_drop hx)
theorem byts_take {a : Bytes} (n : Nat) (h : byts a) : byts (a.take n) := fun x hx => h x (List.mem_of_mem_take hx)
theorem byts_little (k n : Nat) : byts (little k n) := little_byte
theorem byts_varint (n : Nat) : byts (varint n) := varint_byte n
theorem byts_flat {l : List Nat} : byts (l.flatMap (little 4)) := fun x hx => by
  obtain ⟨y, _, h⟩ := List.mem_flatMap.mp hx
  exact byts_little _ _ x h
theorem byts_one {x : Nat} (h : x < 256) : byts [x] := fun y hy => by
  have : y = x := by simpa using hy
  omega
theorem byts_put {iv : Nat} {b : BW} {k v : Bytes} (hb : byts b.body) (hk : byts k) (hv : byts v) : byts (b.put iv k v).body :=
  byts_append (byts_append (byts_append (byts_append (byts_append hb (byts_varint _)) (byts_varint _)) (byts_varint _)) (byts_drop _ hk)) hv
theorem byts_content {b : BW} (h : byts b.body) : byts b.content := byts_append (byts_append h byts_flat) (byts_little _ _)
structure DB.Byts (s : DB) : Prop where
  bl : ∀ b ∈ s.blocks, byts b.2
  w : byts s.w.body
theorem DB.byts_step {iv size : Nat} {s : DB} {e : Entry} (h : s.Byts) (hk : byts e.1) (hv : byts e.2) : (s.step iv size e).Byts := by
  have hp := byts_put (iv := iv) h.w hk hv
  unfold DB.step
  split
  · refine ⟨fun b hb => ?_, byts_nil⟩
    rcases List.mem_append.mp hb with hb | hb
    · exact h.bl b hb
    · have : b = (s.keys ++ [e.1], (s.w.put iv e.1 e.2).content) := by simpa using hb
      rw [this]
      exact byts_content hp
  · exact ⟨h.bl, hp⟩
theorem DB.byts_all {iv size : Nat} : ∀ (l : List Entry) (s : DB), s.Byts → (∀ e ∈ l, byts e.1 ∧ byts e.2) → (l.foldl (DB.step iv size) s).Byts
  | [], s, h, _ => h
  | e :: l, s, h, hl => DB.byts_all l _ (DB.byts_step h (hl e List.mem_cons_self).1 (hl e List.mem_cons_self).2) fun x hx => hl x (List.mem_cons_of_mem _ hx)
theorem blocks_byts {iv size : Nat} {l : List Entry} (hl : ∀ e ∈ l, byts e.1 ∧ byts e.2) : ∀ b ∈ dataBlocks iv size l, byts b.2 := by
  have h := DB.byts_all (iv := iv) (size := size) l DB.new ⟨fun b hb => by simp [DB.new] at hb, byts_nil⟩ hl
  unfold dataBlocks DB.fin
  intro c hc
  split at hc
  · exact h.bl c hc
  · rcases List.mem_append.mp hc with hc | hc
    · exact h.bl c hc
    · have : c = ((l.foldl (DB.step iv size) DB.new).keys, (l.foldl (DB.step iv size) DB.new).w.content) := by simpa using hc
      rw [this]
      exact byts_content h.w
theorem byts_handle (h : Handle) : byts h.bytes := byts_append (byts_varint _) (byts_varint _)
theorem probes_le (b : Nat) : probes b ≤ 30 := by
  have : probes b = max 1 (min 30 (69 * b / 100)) := rfl
  omega
theorem byts_filter (bits : Nat) (ks : List Bytes) : byts (Sv13.filter bits ks) := by
  rw [filter_eq]
  refine byts_append (setBits_byte _ _ fun x hx => ?_) (byts_one (by have := probes_le bits; omega))
  rw [(List.mem_replicate.mp hx).2]
  decide
theorem byts_pc (bits : Nat) (ks : List Bytes) : byts (pc bits ks) := by
  unfold pc
  split
  · exact byts_nil
  · exact byts_filter _ _
theorem byts_res (bits : Nat) (bk : List (Nat × List Bytes)) : ∀ n, byts (res bits bk n)
  | 0 => by simp only [res, List.range_zero, List.flatMap_nil]; exact byts_nil
  | n + 1 => by rw [res_succ]; exact byts_append (byts_res bits bk n) (byts_pc _ _)
theorem byts_filterOf (bits : Nat) (bk : List (Nat × List Bytes)) (n : Nat) : byts (filterOf bits bk n) := byts_append (byts_append (byts_res _ _ _) byts_flat) (byts_one (by decide))
theorem byts_between {a b : Bytes} (ha : byts a) (hb : byts b) : byts (between a b) := by
  show byts (if a.length ≤ common a b ∨ b.length ≤ common a b then a else if a.getD (common a b) 0 + 1 < b.getD (common a b) 0 ∧ a.getD (common a b) 0 < 255 then a.take (common a b) ++ [a.getD (common a b) 0 + 1] else a)
  split
  · exact ha
  · split
    · rename_i h
      exact byts_append (byts_take _ ha) (byts_one (by omega))
    · exact ha
theorem byts_behind {a : Bytes} (ha : byts a) : byts (behind a) := by
  unfold behind
  split
  · rename_i i h
    have h' := List.findIdx?_eq_some_iff_getElem.mp h
    obtain ⟨hi, hne, _⟩ := h'
    have e : a.getD i 0 = a[i] := by simp [List.getD, hi]
    have h1 := ha a[i] (List.getElem_mem _)
    have h2 : a[i] ≠ 255 := by simpa using hne
    rw [e]
    exact byts_append (byts_take _ ha) (byts_one (by omega))
  · exact ha
theorem byts_lastK {ks : List Bytes} (h : ∀ k ∈ ks, byts k) : byts (lastK ks) := by
  unfold lastK
  rw [List.getLastD_eq_getLast?]
  cases q : ks.getLast? with
  | none => exact byts_nil
  | some x => exact h x (List.mem_of_getLast? q)
theorem byts_firstK {ks : List Bytes} (h : ∀ k ∈ ks, byts k) : byts (firstK ks) := by
  cases ks with
  | nil => exact byts_nil
  | cons a r => exact h a List.mem_cons_self
theorem byts_ik : ∀ (l : List (List Bytes)), (∀ ks ∈ l, ∀ k ∈ ks, byts k) → ∀ k ∈ ik l, byts k
  | [], _, k, h => by simp [ik] at h
  | [a], hl, k, h => by
    have : k = behind (lastK a) := by simpa [ik] using h
    rw [this]
    exact byts_behind (byts_lastK (hl a List.mem_cons_self))
  | a :: b :: r, hl, k, h => by
    rcases List.mem_cons.mp (show k ∈ between (lastK a) (firstK b) :: ik (b :: r) from h) with rfl | h
    · exact byts_between (byts_lastK (hl a List.mem_cons_self)) (byts_firstK (hl b (List.mem_cons_of_mem _ List.mem_cons_self)))
    · exact byts_ik (b :: r) (fun ks hks => hl ks (List.mem_cons_of_mem _ hks)) k h
theorem byts_hands : ∀ (l : List Blk) (p : Nat), ∀ x ∈ hands p l, byts x
  | [], p, x, h => by simp [hands] at h
  | a :: r, p, x, h => by
    rcases List.mem_cons.mp (show x ∈ (Handle.mk p a.2.length).bytes :: hands (p + a.2.length + 5) r from h) with rfl | h
    · exact byts_handle _
    · exact byts_hands r _ x h
theorem byts_idx {ps : List (Bytes × Bytes)} (h : ∀ p ∈ ps, byts p.1 ∧ byts p.2) : byts (idxContent ps) := by
  unfold idxContent
  refine byts_content ?_
  have go : ∀ (ps : List (Bytes × Bytes)) (w : BW), byts w.body → (∀ p ∈ ps, byts p.1 ∧ byts p.2) → byts (ps.foldl (fun w p => w.put 1 p.1 p.2) w).body := by
    intro ps
    induction ps with
    | nil => intro w hw _; exact hw
    | cons p r ih => intro w hw hp; exact ih _ (byts_put hw (hp p List.mem_cons_self).1 (hp p List.mem_cons_self).2) fun q hq => hp q (List.mem_cons_of_mem _ hq)
  exact go ps BW.new byts_nil h
theorem byts_name : byts NAME := by
  have e : NAME.all (fun x => decide (x < 256)) = true := by decide
  intro x hx
  exact of_decide_eq_true (List.all_eq_true.mp e x hx)
theorem byts_meta (iv : Nat) (h : Option Handle) : byts (metaContent iv h) := by
  cases h with
  | none => exact byts_content byts_nil
  | some h => exact byts_content (byts_put byts_nil byts_name (byts_handle h))
def bgs (bs : List Blk) : List Nat := (begun 0 bs).map fun x => x.1
theorem bgs_snoc (bs : List Blk) (b : Blk) : bgs (bs ++ [b]) = bgs bs ++ [(outOf bs).length] := by
  unfold bgs
  rw [begun_snoc, List.map_append, Nat.zero_add]
  rfl
theorem bgs_length (bs : List Blk) : (bgs bs).length = bs.length := by
  unfold bgs
  rw [List.length_map]
  have : ∀ (bs : List Blk) (p : Nat), (begun p bs).length = bs.length := by
    intro bs
    induction bs with
    | nil => intro p; rfl
    | cons a r ih => intro p; show (begun _ r).length + 1 = r.length + 1; rw [ih]
  exact this bs 0
theorem bgs_lt (bs : List Blk) : ∀ x ∈ bgs bs, x < (outOf bs).length := fun x hx => by
  obtain ⟨y, hy, rfl⟩ := List.mem_map.mp hx
  have := begun_lt bs 0 y hy
  omega
theorem bgs_le_last (bs : List Blk) : ∀ x ∈ bgs bs, x ≤ (bgs bs).getLastD 0 := by
  rcases snoc_cases bs with h | ⟨r, b, h⟩
  · rw [h]; intro x hx; simp [bgs, begun] at hx
  · rw [h, bgs_snoc]
    intro x hx
    have e : (bgs r ++ [(outOf r).length]).getLastD 0 = (outOf r).length := by simp
    rw [e]
    rcases List.mem_append.mp hx with hx | hx
    · exact Nat.le_of_lt (bgs_lt r x hx)
    · have : x = (outOf r).length := by simpa using hx
      omega
theorem piecesN_eq (bs : List Blk) : piecesN bs = (outOf bs).length / 2048 + (if bgs bs ≠ [] ∧ (bgs bs).getLastD 0 / 2048 = (outOf bs).length / 2048 then 1 else 0) := by
  unfold piecesN
  congr 1
  generalize hn : (outOf bs).length / 2048 = n
  by_cases h : bgs bs ≠ [] ∧ (bgs bs).getLastD 0 / 2048 = n
  · rw [if_pos h]
    have : (begun 0 bs).any (fun x => x.1 / 2048 == n) = true := by
      rw [List.any_eq_true]
      obtain ⟨h1, h2⟩ := h
      have hm : (bgs bs).getLastD 0 ∈ bgs bs := by
        rw [List.getLastD_eq_getLast?]
        cases q : (bgs bs).getLast? with
        | none => exact absurd (List.getLast?_eq_none_iff.mp q) h1
        | some x => exact List.mem_of_getLast? q
      obtain ⟨y, hy, e⟩ := List.mem_map.mp hm
      refine ⟨y, hy, ?_⟩
      have e : y.1 = (bgs bs).getLastD 0 := e
      rw [e, h2]
      simp
    rw [this]
    rfl
  · rw [if_neg h]
    have : (begun 0 bs).any (fun x => x.1 / 2048 == n) = false := by
      rw [List.any_eq_false]
      intro y hy he
      refine h ⟨fun z => ?_, ?_⟩
      · have : y.1 ∈ bgs bs := List.mem_map.mpr ⟨y, hy, rfl⟩
        rw [z] at this
        cases this
      · have hy1 : y.1 ∈ bgs bs := List.mem_map.mpr ⟨y, hy, rfl⟩
        have h1 := bgs_le_last bs y.1 hy1
        have hbn : bgs bs ≠ [] := fun z => by rw [z] at hy1; cases hy1
        have h2 : (bgs bs).getLastD 0 < (outOf bs).length := by
          refine bgs_lt bs _ ?_
          rw [List.getLastD_eq_getLast?]
          cases q : (bgs bs).getLast? with
          | none => exact absurd (List.getLast?_eq_none_iff.mp q) hbn
          | some x => exact List.mem_of_getLast? q
        have he : y.1 / 2048 = n := by simpa using he
        have h3 : (bgs bs).getLastD 0 / 2048 ≤ n := by rw [← hn]; exact Nat.div_le_div_right (Nat.le_of_lt h2)
        have h4 : y.1 / 2048 ≤ (bgs bs).getLastD 0 / 2048 := Nat.div_le_div_right h1
        omega
    rw [this]
    rfl
theorem bgs_piece (bs : List Blk) : ∀ x ∈ bgs bs, x / 2048 < piecesN bs := fun x hx => by
  have h1 := bgs_lt bs x hx
  have h2 : x / 2048 ≤ (outOf bs).length / 2048 := Nat.div_le_div_right (Nat.le_of_lt h1)
  rw [piecesN_eq]
  by_cases h3 : x / 2048 = (outOf bs).length / 2048
  · have h4 := bgs_le_last bs x hx
    have hbn : bgs bs ≠ [] := fun z => by rw [z] at hx; cases hx
    have h5 : (bgs bs).getLastD 0 < (outOf bs).length := by
      refine bgs_lt bs _ ?_
      rw [List.getLastD_eq_getLast?]
      cases q : (bgs bs).getLast? with
      | none => exact absurd (List.getLast?_eq_none_iff.mp q) hbn
      | some x => exact List.mem_of_getLast? q
    have h6 : (bgs bs).getLastD 0 / 2048 ≤ (outOf bs).length / 2048 := Nat.div_le_div_right (Nat.le_of_lt h5)
    have h7 : x / 2048 ≤ (bgs bs).getLastD 0 / 2048 := Nat.div_le_div_right h4
    rw [if_pos ⟨hbn, by omega⟩]
    omega
  · omega
end My
set_option linter.all false
namespace My
open Sv13
def pack : List Nat → Nat
  | [] => 0
  | h :: r => h + 2 ^ 66 * pack r
def onesN (n : Nat) : Nat := pack (List.replicate n 1)
theorem pack_snoc : ∀ (l : List Nat) (x : Nat), pack (l ++ [x]) = pack l + x * 2 ^ (66 * l.length)
  | [], x => by simp [pack]
  | h :: r, x => by
    show h + 2 ^ 66 * pack (r ++ [x]) = h + 2 ^ 66 * pack r + x * 2 ^ (66 * (r.length + 1))
    rw [pack_snoc r x, Nat.mul_add, Nat.add_assoc, Nat.mul_succ, Nat.pow_add]
    congr 2
    rw [Nat.mul_comm (2 ^ 66), Nat.mul_assoc]
theorem onesN_succ (n : Nat) : onesN (n + 1) = onesN n + 2 ^ (66 * n) := by
  unfold onesN
  rw [List.replicate_succ', pack_snoc, List.length_replicate, Nat.one_mul]
theorem pack_add (w : Nat) : ∀ hs : List Nat, pack hs + w * onesN hs.length = pack (hs.map (· + w))
  | [] => by simp [pack, onesN]
  | h :: r => by
    have ih := pack_add w r
    show h + 2 ^ 66 * pack r + w * (1 + 2 ^ 66 * onesN r.length) = h + w + 2 ^ 66 * pack (r.map (· + w))
    rw [← ih, Nat.mul_add, Nat.mul_add, Nat.mul_one, Nat.mul_left_comm w]
    omega
theorem pack_mul (f : Nat) : ∀ hs : List Nat, pack hs * f = pack (hs.map (· * f))
  | [] => by simp [pack]
  | h :: r => by
    show (h + 2 ^ 66 * pack r) * f = h * f + 2 ^ 66 * pack (r.map (· * f))
    rw [← pack_mul f r, Nat.add_mul, Nat.mul_assoc]
theorem onesN_mul (n f : Nat) : onesN n * f = pack (List.replicate n f) := by
  unfold onesN
  rw [pack_mul, List.map_replicate, Nat.one_mul]
theorem lane_bit {a x : Nat} (ha : a < 2 ^ 66) (j : Nat) : (a + 2 ^ 66 * x).testBit j = if j < 66 then a.testBit j else x.testBit (j - 66) := by
  rw [Nat.add_comm, Nat.testBit_two_pow_mul_add _ ha]
theorem and_lane {a b x y : Nat} (ha : a < 2 ^ 66) (hb : b < 2 ^ 66) : (a + 2 ^ 66 * x) &&& (b + 2 ^ 66 * y) = (a &&& b) + 2 ^ 66 * (x &&& y) := by
  refine Nat.eq_of_testBit_eq fun j => ?_
  rw [Nat.testBit_and, lane_bit ha, lane_bit hb, lane_bit (Nat.lt_of_le_of_lt Nat.and_le_left ha)]
  split
  · rw [Nat.testBit_and]
  · rw [Nat.testBit_and]
theorem xor_lane {a b x y : Nat} (ha : a < 2 ^ 66) (hb : b < 2 ^ 66) : (a + 2 ^ 66 * x) ^^^ (b + 2 ^ 66 * y) = (a ^^^ b) + 2 ^ 66 * (x ^^^ y) := by
  refine Nat.eq_of_testBit_eq fun j => ?_
  rw [Nat.testBit_xor, lane_bit ha, lane_bit hb, lane_bit (Nat.xor_lt_two_pow ha hb)]
  split
  · rw [Nat.testBit_xor]
  · rw [Nat.testBit_xor]
theorem and_word {l : List Nat} (h : ∀ x ∈ l, x < 2 ^ 66) : pack l &&& pack (List.replicate l.length 4294967295) = pack (l.map (· % 2 ^ 32)) := by
  induction l with
  | nil => rfl
  | cons a r ih =>
    show (a + 2 ^ 66 * pack r) &&& (4294967295 + 2 ^ 66 * pack (List.replicate r.length 4294967295)) = a % 2 ^ 32 + 2 ^ 66 * pack (r.map (· % 2 ^ 32))
    rw [and_lane (h a (by simp)) (by decide), ih fun x hx => h x (by simp [hx])]
    congr 1
    exact Nat.and_two_pow_sub_one_eq_mod a 32
theorem half_lane {a x y : Nat} (ha : a < 2 ^ 32) : ((a + 2 ^ 66 * x) / 2 ^ 16) &&& (65535 + 2 ^ 66 * y) = a / 2 ^ 16 + 2 ^ 66 * ((x / 2 ^ 16) &&& y) := by
  have e : (a + 2 ^ 66 * x) / 2 ^ 16 = a / 2 ^ 16 + 2 ^ 50 * x := by
    have : 2 ^ 66 * x = 2 ^ 16 * (2 ^ 50 * x) := by rw [← Nat.mul_assoc, ← Nat.pow_add]
    rw [this, Nat.add_mul_div_left _ _ (by decide)]
  have h16 : a / 2 ^ 16 < 2 ^ 16 := by omega
  rw [e]
  refine Nat.eq_of_testBit_eq fun j => ?_
  have hx : (a / 2 ^ 16 + 2 ^ 50 * x).testBit j = if j < 50 then (a / 2 ^ 16).testBit j else x.testBit (j - 50) := by
    rw [Nat.add_comm, Nat.testBit_two_pow_mul_add _ (Nat.lt_of_lt_of_le h16 (by decide))]
  have hm : (65535 : Nat).testBit j = decide (j < 16) := by
    show (2 ^ 16 - 1).testBit j = _
    rw [Nat.testBit_two_pow_sub_one]
  rw [Nat.testBit_and, hx, lane_bit (show 65535 < 2 ^ 66 by decide), lane_bit (Nat.lt_of_lt_of_le h16 (by decide)), hm]
  by_cases h1 : j < 66
  · rw [if_pos h1, if_pos h1]
    by_cases h2 : j < 16
    · rw [if_pos (by omega), decide_eq_true h2, Bool.and_true]
    · rw [decide_eq_false h2, Bool.and_false]
      exact (Nat.testBit_lt_two_pow (Nat.lt_of_lt_of_le h16 (Nat.pow_le_pow_right (by decide) (by omega)))).symm
  · rw [if_neg h1, if_neg h1, if_neg (by omega), Nat.testBit_and, Nat.testBit_div_two_pow]
    congr 2
    omega
theorem and_halfs {l : List Nat} (h : ∀ x ∈ l, x < 2 ^ 32) : (pack l / 2 ^ 16) &&& pack (List.replicate l.length 65535) = pack (l.map (· / 2 ^ 16)) := by
  induction l with
  | nil => rfl
  | cons a r ih =>
    show ((a + 2 ^ 66 * pack r) / 2 ^ 16) &&& (65535 + 2 ^ 66 * pack (List.replicate r.length 65535)) = a / 2 ^ 16 + 2 ^ 66 * pack (r.map (· / 2 ^ 16))
    rw [half_lane (h a (by simp)), ih fun x hx => h x (by simp [hx])]
theorem xor_pack {l : List Nat} (g : Nat → Nat) (h : ∀ x ∈ l, x < 2 ^ 66 ∧ g x < 2 ^ 66) : pack l ^^^ pack (l.map g) = pack (l.map fun x => x ^^^ g x) := by
  induction l with
  | nil => simp [pack]
  | cons a r ih =>
    show (a + 2 ^ 66 * pack r) ^^^ (g a + 2 ^ 66 * pack (r.map g)) = (a ^^^ g a) + 2 ^ 66 * pack (r.map fun x => x ^^^ g x)
    rw [xor_lane (h a (by simp)).1 (h a (by simp)).2, ih fun x hx => h x (by simp [hx])]
def laneMul (l : List Nat) (w : Nat) : Nat := ((pack l + w * onesN l.length) * 0xC6A4A793) &&& (onesN l.length * 4294967295)
theorem lm1 {l : List Nat} {w : Nat} : laneMul l w = pack ((l.map (· + w)).map (· * 0xC6A4A793)) &&& pack (List.replicate l.length 4294967295) := by
  unfold laneMul
  rw [pack_add, pack_mul, onesN_mul]
theorem lm2 {l : List Nat} {w : Nat}  (h : ∀ x ∈ l, x < 2 ^ 32) (hw : w < 2 ^ 32) (f : Nat) (hf : f < 2 ^ 32) : ∀ x ∈ ((l.map (· + w)).map (· * f)), x < 2 ^ 66 := by
  intro x hx
  rw [List.map_map, List.mem_map] at hx
  obtain ⟨a, ha, rfl⟩ := hx
  have := h a ha
  simp only [Function.comp_apply]
  have h1 : a + w < 2 ^ 33 := by omega
  have h2 : (a + w) * f < 2 ^ 33 * 2 ^ 32 := Nat.mul_lt_mul'' h1 hf
  exact Nat.lt_of_lt_of_le h2 (by decide)
theorem lm3 {l : List Nat} {w f : Nat} : ((l.map (· + w)).map (· * f)).map (· % 2 ^ 32) = l.map fun h => word ((h + w) * f) := by
  rw [List.map_map, List.map_map]
  rfl
theorem laneMul_eq {l : List Nat} {w : Nat}  (h : ∀ x ∈ l, x < 2 ^ 32) (hw : w < 2 ^ 32) : laneMul l w = pack (l.map fun h => word ((h + w) * 0xC6A4A793)) := by
  have e1 : ((l.map (· + w)).map (· * 0xC6A4A793)).length = l.length := by rw [List.length_map, List.length_map]
  rw [lm1, ← e1, and_word (lm2 h hw _ (by decide)), lm3]
def laneXor (n x : Nat) : Nat := x ^^^ ((x / 2 ^ 16) &&& (onesN n * 65535))
theorem laneXor_eq {l : List Nat} (h : ∀ x ∈ l, x < 2 ^ 32) : laneXor l.length (pack l) = pack (l.map fun x => x ^^^ (x / 2 ^ 16)) := by
  unfold laneXor
  rw [onesN_mul, and_halfs h, xor_pack]
  intro x hx
  have := h x hx
  constructor <;> omega
theorem lane_step {l : List Nat} {w : Nat} (h : ∀ x ∈ l, x < 2 ^ 32) (hw : w < 2 ^ 32) : laneXor l.length (laneMul l w) = pack (l.map fun h => mixed h w) := by
  have e : (l.map fun h => word ((h + w) * 0xC6A4A793)).length = l.length := by simp
  rw [laneMul_eq h hw, ← e, laneXor_eq, List.map_map]
  · rfl
  · intro x hx
    rw [List.mem_map] at hx
    obtain ⟨a, _, rfl⟩ := hx
    exact word_lt _
theorem pack_drop : ∀ (l : List Nat) (i : Nat), (∀ x ∈ l, x < 2 ^ 66) → pack l / 2 ^ (66 * i) = pack (l.drop i)
  | l, 0, _ => by simp
  | [], i + 1, _ => by simp [pack]
  | a :: r, i + 1, h => by
    rw [List.drop_succ_cons, ← pack_drop r i fun x hx => h x (by simp [hx])]
    show (a + 2 ^ 66 * pack r) / 2 ^ (66 * (i + 1)) = _
    rw [show 66 * (i + 1) = 66 + 66 * i by omega, Nat.pow_add, ← Nat.div_div_eq_div_mul, Nat.add_mul_div_left _ _ (by decide), Nat.div_eq_of_lt (h a (by simp)), Nat.zero_add]
theorem pack_at {l : List Nat} {i x : Nat} (h : ∀ x ∈ l, x < 2 ^ 32) (hx : l[i]? = some x) : (pack l / 2 ^ (66 * i)) % 2 ^ 32 = x := by
  rw [pack_drop l i fun x hx => Nat.lt_of_lt_of_le (h x hx) (by decide)]
  obtain ⟨hi, e⟩ := List.getElem?_eq_some_iff.mp hx
  rw [List.drop_eq_getElem_cons hi, e]
  show (x + 2 ^ 66 * _) % 2 ^ 32 = x
  have := h x (List.mem_of_getElem? hx)
  have e2 : ∀ z : Nat, 2 ^ 66 * z = 2 ^ 32 * (2 ^ 34 * z) := fun z => by rw [← Nat.mul_assoc, ← Nat.pow_add]
  rw [e2, Nat.add_mul_mod_self_left, Nat.mod_eq_of_lt this]
def wordsL (x : Bytes) : List Nat := (List.range (x.length / 4)).map fun i => ofLittle (slice x (4 * i) 4)
theorem slice_slice_drop (x : Bytes) (i : Nat) : slice (x.drop 4) (4 * i) 4 = slice x (4 * (i + 1)) 4 := by
  unfold slice
  rw [List.drop_drop]
  congr 2
  omega
theorem wordsL_step {x : Bytes} (h : 4 ≤ x.length) : wordsL x = ofLittle (x.take 4) :: wordsL (x.drop 4) := by
  unfold wordsL
  have e : x.length / 4 = (x.drop 4).length / 4 + 1 := by rw [List.length_drop]; omega
  rw [e, List.range_succ_eq_map, List.map_cons, List.map_map]
  congr 1
  refine List.map_congr_left fun i _ => ?_
  show ofLittle (slice x (4 * (i + 1)) 4) = _
  rw [slice_slice_drop]
theorem hash_words : ∀ (n : Nat) (x y : Bytes) (h : Nat), x.length = 4 * n → (∀ z ∈ x ++ y, z < 256) → hashFrom h (x ++ y) = hashFrom ((wordsL x).foldl mixed h) y
  | 0, x, y, h, hl, _ => by
    have : x = [] := List.length_eq_zero_iff.mp (by omega)
    subst this
    rfl
  | n + 1, x, y, h, hl, hb => by
    have h4 : 4 ≤ x.length := by omega
    rw [hash_step hb (by rw [List.length_append]; omega), wordsL_step h4, List.foldl_cons, List.take_append_of_le_length h4, List.drop_append_of_le_length h4]
    refine hash_words n (x.drop 4) y _ (by rw [List.length_drop]; omega) fun z hz => hb z ?_
    rw [List.mem_append] at hz ⊢
    rcases hz with hz | hz
    · exact .inl (List.mem_of_mem_drop hz)
    · exact .inr hz
theorem hash_split {k : Bytes} {n : Nat} (hb : ∀ z ∈ k, z < 256) (hn : 4 * n ≤ k.length) : Sv13.hash k = hashFrom ((wordsL (k.take (4 * n))).foldl mixed (Nat.xor 0xBC9F1D34 (word (k.length * 0xC6A4A793)))) (k.drop (4 * n)) := by
  have e := List.take_append_drop (4 * n) k
  rw [← hash_words n _ _ _ (by rw [List.length_take]; omega) (by rw [e]; exact hb), e]
  rfl
theorem common_take : ∀ (a c : Bytes) (n : Nat), n ≤ common a c → a.take n = c.take n ∧ n ≤ a.length ∧ n ≤ c.length
  | a, c, 0, _ => by simp
  | [], c, n + 1, h => by simp [common] at h
  | _ :: _, [], n + 1, h => by simp [common] at h
  | x :: a, y :: c, n + 1, h => by
    unfold common at h
    by_cases e : x = y
    · rw [if_pos e] at h
      have := common_take a c n (by omega)
      refine ⟨?_, ?_, ?_⟩
      · rw [List.take_succ_cons, List.take_succ_cons, e, this.1]
      · show n + 1 ≤ a.length + 1
        omega
      · show n + 1 ≤ c.length + 1
        omega
    · rw [if_neg e] at h
      omega
theorem mid_take : ∀ (a k c : Bytes) (n : Nat), a.take n = c.take n → n ≤ a.length → n ≤ c.length → before k a = false → before c k = false → k.take n = a.take n ∧ n ≤ k.length
  | a, k, c, 0, _, _, _, _, _ => by simp
  | [], k, c, n + 1, _, h, _, _, _ => by simp at h
  | _ :: _, k, [], n + 1, _, _, h, _, _ => by simp at h
  | x :: a, [], y :: c, n + 1, _, _, _, h, _ => by simp [before] at h
  | x :: a, z :: k, y :: c, n + 1, e, h1, h2, b1, b2 => by
    rw [List.take_succ_cons, List.take_succ_cons] at e
    injection e with e1 e2
    subst e1
    unfold before at b1 b2
    simp only [Bool.or_eq_false_iff, Bool.and_eq_false_iff, decide_eq_false_iff_not, beq_eq_false_iff_ne] at b1 b2
    have hz : z = x := by omega
    subst hz
    have b1' : before k a = false := by
      rcases b1.2 with h | h
      · exact absurd rfl h
      · exact h
    have b2' : before c k = false := by
      rcases b2.2 with h | h
      · exact absurd rfl h
      · exact h
    have := mid_take a k c n e2 (by simpa using h1) (by simpa using h2) b1' b2'
    refine ⟨by rw [List.take_succ_cons, List.take_succ_cons, this.1], ?_⟩
    show n + 1 ≤ k.length + 1
    omega
theorem rise_mid {ks : List Bytes} (h : ks.Pairwise fun x y => before x y = true) {a c k : Bytes} (ha : ks.head? = some a) (hc : ks.getLast? = some c) (hk : k ∈ ks) : before k a = false ∧ before c k = false := by
  constructor
  · cases ks with
    | nil => cases hk
    | cons x r =>
      cases ha
      rcases List.mem_cons.mp hk with rfl | q
      · exact before_self _
      · exact before_asymm ((List.pairwise_cons.mp h).1 k q)
  · rcases List.eq_nil_or_concat ks with e | ⟨r, x, e⟩
    · rw [e] at hk; cases hk
    · rw [List.concat_eq_append] at e
      subst e
      rw [List.getLast?_concat] at hc
      cases hc
      rcases List.mem_append.mp hk with q | q
      · exact before_asymm ((List.pairwise_append.mp h).2.2 k q _ (by simp))
      · have : k = c := by simpa using q
        subst this
        exact before_self _
end My
set_option linter.all false
namespace My
open Sv13
structure TM where
  parts : List Bytes
  w : BW
  last : Bytes
  ix : BW
  unl : Option Handle
def outL (ps : List Bytes) : Nat := (ps.map fun c => c.length + 5).sum
theorem outL_snoc (ps : List Bytes) (c : Bytes) : outL (ps ++ [c]) = outL ps + (c.length + 5) := by simp [outL]
theorem outL_out : ∀ bs : List Blk, outL (bs.map fun b => b.2) = (outOf bs).length
  | [] => rfl
  | b :: r => by
    show b.2.length + 5 + outL (r.map fun b => b.2) = (raw b.2 ++ outOf r).length
    rw [outL_out r, List.length_append, raw_length]
def outB (ps : List Bytes) : Bytes := ps.flatMap raw
theorem outB_out : ∀ bs : List Blk, outB (bs.map fun b => b.2) = outOf bs
  | [] => rfl
  | b :: r => by
    show raw b.2 ++ outB (r.map fun b => b.2) = raw b.2 ++ outOf r
    rw [outB_out r]
theorem outB_length : ∀ ps : List Bytes, (outB ps).length = outL ps
  | [] => rfl
  | c :: r => by
    show (raw c ++ outB r).length = c.length + 5 + outL r
    rw [List.length_append, raw_length, outB_length r]
theorem outB_snoc (ps : List Bytes) (c : Bytes) : outB (ps ++ [c]) = outB ps ++ raw c := by simp [outB]
def TM.new : TM := ⟨[], BW.new, [], BW.new, none⟩
def TM.list (m : TM) (k : Bytes) : TM := match m.unl with
  | none => m
  | some h => ⟨m.parts, m.w, m.last, m.ix.put 1 k h.bytes, none⟩
def TM.flush (m : TM) : TM := ⟨m.parts ++ [m.w.content], BW.new, m.last, m.ix, some ⟨outL m.parts, m.w.content.length⟩⟩
def TM.enter (iv : Nat) (m : TM) (e : Entry) : TM := ⟨m.parts, m.w.put iv e.1 e.2, e.1, (m.list (between m.last e.1)).ix, none⟩
def TM.put (iv size : Nat) (m : TM) (e : Entry) : TM := if size ≤ (m.enter iv e).w.size then (m.enter iv e).flush else m.enter iv e
structure TR (s : DB) (m : TM) : Prop where
  parts : m.parts = s.blocks.map fun b => b.2
  w : m.w = s.w
  emp : s.keys = [] → s.w = BW.new
  n : s.w.n = s.keys.length
  last : s.keys ≠ [] → m.last = s.keys.getLastD []
  open_ : s.keys ≠ [] → m.unl = none ∧ m.ix = idxW (pairs 0 s.blocks (s.keys.headD []))
  shut : s.keys = [] → ∀ bs b, s.blocks = bs ++ [b] → m.unl = some ⟨(outOf bs).length, b.2.length⟩ ∧ m.ix = idxW (pairs 0 bs (firstOf b)) ∧ m.last = lastOf b
  none_ : s.keys = [] → s.blocks = [] → m.unl = none ∧ m.ix = BW.new ∧ m.last = []
theorem tr_new : TR DB.new TM.new where
  parts := rfl
  w := rfl
  emp := fun _ => rfl
  n := rfl
  last := fun h => absurd rfl h
  open_ := fun h => absurd rfl h
  shut := fun _ bs b h => by simp [DB.new] at h
  none_ := fun _ _ => ⟨rfl, rfl, rfl⟩
theorem tr_enter {iv : Nat} {s : DB} {m : TM} (r : TR s m) (e : Entry) : TR (s.open iv e) (m.enter iv e) := by
  have hne : s.keys ++ [e.1] ≠ [] := by simp
  refine ⟨r.parts, ?_, fun h => absurd h hne, ?_, fun _ => ?_, fun _ => ⟨rfl, ?_⟩, fun h => absurd h hne, fun h => absurd h hne⟩
  · show m.w.put iv e.1 e.2 = s.w.put iv e.1 e.2
    rw [r.w]
  · show (s.w.put iv e.1 e.2).n = (s.keys ++ [e.1]).length
    rw [List.length_append, ← r.n]
    rfl
  · show e.1 = (s.keys ++ [e.1]).getLastD []
    simp
  · show (m.list (between m.last e.1)).ix = idxW (pairs 0 s.blocks ((s.keys ++ [e.1]).headD []))
    by_cases hk : s.keys = []
    · rw [hk]
      show _ = idxW (pairs 0 s.blocks e.1)
      rcases snoc_cases s.blocks with hb | ⟨bs, b, hb⟩
      · obtain ⟨p1, p2, _⟩ := r.none_ hk hb
        unfold TM.list
        rw [p1, hb]
        show m.ix = _
        rw [p2]
        rfl
      · obtain ⟨p1, p2, p3⟩ := r.shut hk bs b hb
        unfold TM.list
        rw [p1, hb, pairs_snoc, idxW_snoc]
        show m.ix.put 1 _ _ = _
        rw [p2, p3, Nat.zero_add]
    · obtain ⟨p1, p2⟩ := r.open_ hk
      unfold TM.list
      rw [p1, headD_snoc hk]
      exact p2
theorem tr_flush {s : DB} {m : TM} (r : TR s m) (hk : s.keys ≠ []) : TR s.shut m.flush := by
  refine ⟨?_, rfl, fun _ => rfl, rfl, fun h => absurd rfl h, fun h => absurd rfl h, fun _ bs b hb => ?_, fun _ hb => ?_⟩
  · show m.parts ++ [m.w.content] = (s.blocks ++ [(s.keys, s.w.content)]).map fun b => b.2
    rw [List.map_append, r.parts, r.w]
    rfl
  · have hb : s.blocks ++ [(s.keys, s.w.content)] = bs ++ [b] := hb
    obtain ⟨e1, e2⟩ := List.append_inj' hb rfl
    have e3 : (s.keys, s.w.content) = b := by simpa using e2
    subst e1 e3
    obtain ⟨p1, p2⟩ := r.open_ hk
    refine ⟨?_, p2, r.last hk⟩
    show some (Handle.mk (outL m.parts) m.w.content.length) = _
    rw [r.parts, outL_out, r.w]
  · have hb : s.blocks ++ [(s.keys, s.w.content)] = [] := hb
    simp at hb
theorem tr_step {iv size : Nat} {s : DB} {m : TM} (r : TR s m) (e : Entry) : TR (s.step iv size e) (m.put iv size e) := by
  have r1 := tr_enter (iv := iv) r e
  unfold DB.step TM.put
  have ew : (m.enter iv e).w = s.w.put iv e.1 e.2 := by
    show m.w.put iv e.1 e.2 = _
    rw [r.w]
  rw [ew]
  split
  · exact tr_flush r1 (by show s.keys ++ [e.1] ≠ []; simp)
  · exact r1
def TM.fin1 (m : TM) : TM := if 0 < m.w.n then m.flush else m
def TM.fin (m : TM) : TM := m.fin1.list (behind m.fin1.last)
theorem tr_fin1 {s : DB} {m : TM} (r : TR s m) : ∃ s' : DB, s'.blocks = s.fin ∧ s'.keys = [] ∧ TR s' m.fin1 := by
  unfold TM.fin1
  rw [r.w, r.n]
  by_cases hk : s.keys = []
  · refine ⟨s, by simp [DB.fin, hk], hk, ?_⟩
    rw [hk, if_neg (by simp)]
    exact r
  · have : 0 < s.keys.length := by
      cases hs : s.keys with
      | nil => exact absurd hs hk
      | cons => simp
    rw [if_pos this]
    exact ⟨s.shut, by simp [DB.fin, DB.shut, hk], rfl, tr_flush r hk⟩
theorem tr_fin {s : DB} {m : TM} (r : TR s m) : m.fin.parts = s.fin.map (fun b => b.2) ∧ m.fin.ix = idxW (idxPairs s.fin) ∧ m.fin.unl = none := by
  obtain ⟨s', hb, hk, r'⟩ := tr_fin1 r
  unfold TM.fin
  rw [← hb]
  rcases snoc_cases s'.blocks with h | ⟨bs, b, h⟩
  · obtain ⟨p1, p2, _⟩ := r'.none_ hk h
    unfold TM.list
    rw [p1]
    refine ⟨r'.parts, ?_, p1⟩
    show m.fin1.ix = _
    rw [p2, h]
    rfl
  · obtain ⟨p1, p2, p3⟩ := r'.shut hk bs b h
    unfold TM.list
    rw [p1]
    refine ⟨r'.parts, ?_, rfl⟩
    show m.fin1.ix.put 1 _ _ = _
    rw [p2, p3, h]
    have e : idxPairs (bs ++ [b]) = pairs 0 bs (firstOf b) ++ [(behind (lastOf b), (Handle.mk (outOf bs).length b.2.length).bytes)] := by simp [idxPairs]
    rw [e, idxW_snoc]
structure Bd (m : TM) : Prop where
  out : outL m.parts ≤ 2000000
  cnt : m.parts.length ≤ 200000
  wb : m.w.body.length + 4 * m.w.rs.length ≤ 2000000
  wl : m.w.last.length ≤ 1000000
  la : m.last.length ≤ 1000000
  ib : m.ix.body.length + 4 * m.ix.rs.length ≤ 2000000
  il : m.ix.last.length ≤ 1000000
  un : ∀ h, m.unl = some h → h.at_ ≤ 2000000 ∧ h.size ≤ 2000000
  by_ : byts m.last
theorem idxW_last : ∀ (ps : List (Bytes × Bytes)), (idxW ps).last.length ≤ kLen (ps.map fun p => p.1) := by
  intro ps
  rcases snoc_cases ps with h | ⟨r, x, h⟩
  · rw [h]
    exact Nat.zero_le _
  · rw [h, idxW_snoc, List.map_append]
    show x.1.length ≤ kLen (r.map (fun p => p.1) ++ [x.1])
    rw [kLen_snoc]
    omega
theorem pairs_kl : ∀ (bs : List Blk) (p : Nat) (next : Bytes), kLen ((pairs p bs next).map fun x => x.1) ≤ (bs.map fun b => kLen b.1).sum
  | [], p, next => by simp [pairs, kLen]
  | [b], p, next => by
    have h1 := between_le (lastOf b) next
    have h2 : (lastOf b).length ≤ kLen b.1 := lastK_le b.1
    simp [pairs, kLen] at *
    omega
  | b :: c :: r, p, next => by
    have ih := pairs_kl (c :: r) (p + b.2.length + 5) next
    have h1 := between_le (lastOf b) (firstOf c)
    have h2 : (lastOf b).length ≤ kLen b.1 := lastK_le b.1
    show (between (lastOf b) (firstOf c)).length + kLen ((pairs (p + b.2.length + 5) (c :: r) next).map fun x => x.1) ≤ kLen b.1 + ((c :: r).map fun b => kLen b.1).sum
    omega
theorem pairs_length : ∀ (bs : List Blk) (p : Nat) (next : Bytes), (pairs p bs next).length = bs.length
  | [], p, next => rfl
  | [b], p, next => rfl
  | b :: c :: r, p, next => by
    show (pairs _ (c :: r) next).length + 1 = _
    rw [pairs_length (c :: r)]
    rfl
theorem pairs_val : ∀ (bs : List Blk) (p : Nat) (next : Bytes), ∀ x ∈ pairs p bs next, x.2.length ≤ 20
  | [], p, next, x, h => by cases h
  | [b], p, next, x, h => by
    have : x = (between (lastOf b) next, (Handle.mk p b.2.length).bytes) := by simpa [pairs] using h
    rw [this]
    exact handle_length _
  | b :: c :: r, p, next, x, h => by
    rcases List.mem_cons.mp h with q | q
    · rw [q]
      exact handle_length _
    · exact pairs_val (c :: r) _ next x q
theorem cnt_le : ∀ {bs : List Blk}, (∀ b ∈ bs, b.1 ≠ []) → bs.length ≤ (bs.map fun b => b.1.length).sum
  | [], _ => Nat.le_refl _
  | b :: r, h => by
    have ih := cnt_le (bs := r) fun x hx => h x (by simp [hx])
    have : 0 < b.1.length := by
      cases hb : b.1 with
      | nil => exact absurd hb (h b (by simp))
      | cons => simp
    show r.length + 1 ≤ b.1.length + (r.map fun b => b.1.length).sum
    omega
theorem w_last_step {iv size : Nat} {s : DB} {e : Entry} (h : s.w.last.length ≤ 100000) (he : e.1.length ≤ 100000) : (s.step iv size e).w.last.length ≤ 100000 := by
  unfold DB.step
  split
  · exact Nat.zero_le _
  · exact he
theorem w_last_all {iv size : Nat} : ∀ (l : List Entry) (s : DB), s.w.last.length ≤ 100000 → (∀ e ∈ l, e.1.length ≤ 100000) → (l.foldl (DB.step iv size) s).w.last.length ≤ 100000
  | [], s, h, _ => h
  | e :: l, s, h, hl => w_last_all l _ (w_last_step h (hl e (by simp))) fun x hx => hl x (by simp [hx])
theorem wt_mem {l : List Entry} {e : Entry} (h : e ∈ l) : e.1.length + e.2.length ≤ wt l := by
  induction l with
  | nil => cases h
  | cons x r ih =>
    rw [wt_cons]
    rcases List.mem_cons.mp h with rfl | q
    · omega
    · have := ih q
      omega
theorem bd_db {iv size : Nat} {l : List Entry} (hw : wt l ≤ 100000) (hl : ∀ e ∈ l, byts e.1 ∧ byts e.2) {m : TM} (r : TR (l.foldl (DB.step iv size) DB.new) m) : Bd m := by
  have h1 := DB.len_all (iv := iv) (size := size) l DB.new
  rw [DB.len_new] at h1
  have h2 := DB.cnt_all (iv := iv) (size := size) l DB.new
  have h3 := DB.kl_all (iv := iv) (size := size) l DB.new
  have h4 := wt_len l
  have h5 := blk_keys (iv := iv) (size := size) l DB.new fun b h => by simp [DB.new] at h
  have hkey : ∀ e ∈ l, e.1.length ≤ 100000 := fun e he => by have := wt_mem he; omega
  have h6 := w_last_all (iv := iv) (size := size) l DB.new (Nat.zero_le _) hkey
  have h7 := DB.all_all (Pk := fun k => k.length ≤ 100000 ∧ byts k) (iv := iv) (size := size) l DB.new (fun b h => by simp [DB.new] at h) (fun k h => by simp [DB.new] at h) fun e he => ⟨hkey e he, (hl e he).1⟩
  have h0 : DB.new.cnt = 0 := rfl
  have h00 : DB.new.kl = 0 := rfl
  rw [h0, Nat.zero_add] at h2
  rw [h00, Nat.zero_add] at h3
  generalize l.foldl (DB.step iv size) DB.new = s at *
  have c1 := cnt_le h5
  unfold DB.cnt at h2
  unfold DB.kl at h3
  unfold DB.len at h1
  have hbl : s.blocks.length ≤ 16667 := by omega
  have hlast : m.last.length ≤ 100000 ∧ byts m.last := by
    by_cases hk : s.keys = []
    · rcases snoc_cases s.blocks with hb | ⟨bs, b, hb⟩
      · rw [(r.none_ hk hb).2.2]
        exact ⟨Nat.zero_le _, byts_nil⟩
      · rw [(r.shut hk bs b hb).2.2]
        have hbm : b ∈ s.blocks := by rw [hb]; simp
        rcases snoc_cases b.1 with q | ⟨z, k, q⟩
        · exact absurd q (h5 b hbm)
        · have : lastOf b = k := by unfold lastOf; rw [q]; simp
          rw [this]
          exact h7.1 b hbm k (by rw [q]; simp)
    · rw [r.last hk]
      rcases snoc_cases s.keys with q | ⟨z, k, q⟩
      · exact absurd q hk
      · rw [q]
        have : (z ++ [k]).getLastD [] = k := by simp
        rw [this]
        exact h7.2 k (by rw [q]; simp)
  have hix : ∃ ps : List (Bytes × Bytes), m.ix = idxW ps ∧ ps.length ≤ 16667 ∧ kLen (ps.map fun p => p.1) ≤ 100000 ∧ ∀ p ∈ ps, p.2.length ≤ 20 := by
    by_cases hk : s.keys = []
    · rcases snoc_cases s.blocks with hb | ⟨bs, b, hb⟩
      · exact ⟨[], (r.none_ hk hb).2.1, Nat.zero_le _, Nat.zero_le _, fun p h => by cases h⟩
      · refine ⟨_, (r.shut hk bs b hb).2.1, ?_, ?_, pairs_val _ _ _⟩
        · rw [pairs_length]
          rw [hb, List.length_append] at hbl
          omega
        · have := pairs_kl bs 0 (firstOf b)
          rw [hb, List.map_append, List.sum_append] at h3
          omega
    · refine ⟨_, (r.open_ hk).2, ?_, ?_, pairs_val _ _ _⟩
      · rw [pairs_length]
        exact hbl
      · have := pairs_kl s.blocks 0 (s.keys.headD [])
        omega
  obtain ⟨ps, e1, e2, e3, e4⟩ := hix
  have i1 := idxW_len ps e4
  have i2 := idxW_last ps
  refine ⟨?_, ?_, ?_, ?_, by omega, ?_, ?_, fun h hh => ?_, hlast.2⟩
  · rw [r.parts, outL_out]
    omega
  · rw [r.parts, List.length_map]
    omega
  · rw [r.w]
    omega
  · rw [r.w]
    omega
  · rw [e1]
    omega
  · rw [e1]
    omega
  · by_cases hk : s.keys = []
    · rcases snoc_cases s.blocks with hb | ⟨bs, b, hb⟩
      · rw [(r.none_ hk hb).1] at hh
        cases hh
      · rw [(r.shut hk bs b hb).1] at hh
        cases hh
        rw [hb, outOf_snoc, List.length_append, raw_length] at h1
        constructor <;> (show _ ≤ 2000000; simp only; omega)
    · rw [(r.open_ hk).1] at hh
      cases hh
end My
set_option Elab.async false
set_option linter.all false
set_option maxRecDepth 100000
namespace KL
open PySem PySem.W PyProof.Rows L2
inductive Arg where
  | int (i : Int)
  | nums (ns : List Int)
def Arg.data : Arg → WData
  | .int i => .int i
  | .nums ns => .list (ns.map WData.int)
def Arg.fits : Arg → Prop
  | .int _ => True
  | .nums ns => ns.length ≤ sizeLine
def ArgIs (K : Frag) (H : Hp) : Arg → V → Prop
  | .int i, v => v = .int i
  | .nums ns, v => ∃ a, v = .ref a ∧ SqL K H a (ns.map V.int)
def OnlyK (K : Frag) (H : Hp) : Prop := ∀ b, H b = none ∨ (K.lookup b = none ∧ ∃ o xs, H b = some (.frz o (.lst xs)))
theorem ints_of_wellAll {P : Params} {h : Heap} {ns : List Int} {vs : List Value} (w : WellAll P h vs (ns.map WData.int)) : IntsAre vs ns := Att.ints_of_wellAll ns vs w
theorem intsAre_inj : ∀ {vs : List Value} {ns ms : List Int}, IntsAre vs ns → IntsAre vs ms → ns = ms
  | _, _, _, .nil, h => by cases h; rfl
  | _, _, _, .cons n t h1, h => by
    cases h with
    | cons m u h2 => rw [intsAre_inj h1 h2]
def LiesAt (h : Heap) (b : Addr) (vs : List Value) (ns : List Int) : Prop := h.get? b = some { cls := .type "list", data := .seq vs.toArray } ∧ IntsAre vs ns ∧ ns.length ≤ sizeLine
open Classical in
noncomputable def argHp (K : Frag) (h : Heap) (as : List Addr) : Hp := fun b =>
  if q : K.lookup b = none ∧ b ∈ as ∧ ∃ p : List Value × List Int, LiesAt h b p.1 p.2 then
    some (.frz { cls := .type "list", data := .seq (choose q.2.2).1.toArray } (.lst ((choose q.2.2).2.map V.int)))
  else none
theorem argHp_some {K : Frag} {h : Heap} {as : List Addr} {b : Addr} {vs : List Value} {ns : List Int} (hk : K.lookup b = none) (hb : b ∈ as) (l : LiesAt h b vs ns) :
    argHp K h as b = some (.frz { cls := .type "list", data := .seq vs.toArray } (.lst (ns.map V.int))) := by
  have q : K.lookup b = none ∧ b ∈ as ∧ ∃ p : List Value × List Int, LiesAt h b p.1 p.2 := ⟨hk, hb, (vs, ns), l⟩
  unfold argHp
  rw [dif_pos q]
  obtain ⟨c1, c2, c3⟩ := Classical.choose_spec q.2.2
  have e1 : (Classical.choose q.2.2).1 = vs := by
    have e := c1.symm.trans l.1
    have e' : ((Classical.choose q.2.2).1.toArray : Array Value) = vs.toArray := by
      injection e with e
      injection e with _ _ e _
      injection e with e _
    simpa using e'
  have e2 : (Classical.choose q.2.2).2 = ns := by
    rw [e1] at c2
    exact intsAre_inj c2 l.2.1
  rw [e1, e2]
theorem argHp_of {K : Frag} {h : Heap} {as : List Addr} {b : Addr} {u : HO} (e : argHp K h as b = some u) :
    K.lookup b = none ∧ b ∈ as ∧ ∃ (vs : List Value) (ns : List Int), LiesAt h b vs ns ∧ u = .frz { cls := .type "list", data := .seq vs.toArray } (.lst (ns.map V.int)) := by
  by_cases q : K.lookup b = none ∧ b ∈ as ∧ ∃ p : List Value × List Int, LiesAt h b p.1 p.2
  · unfold argHp at e
    rw [dif_pos q] at e
    exact ⟨q.1, q.2.1, _, _, Classical.choose_spec q.2.2, (Option.some.inj e).symm⟩
  · unfold argHp at e
    rw [dif_neg q] at e
    cases e
def refs : List Value → List Addr
  | [] => []
  | .ref a :: r => a :: refs r
  | _ :: r => refs r
theorem args_are {P : Params} {K : Frag} {h : Heap} (KX : K.In h) (as : List Addr) : ∀ {us : List Value} {gs : List Arg}, WellAll P h us (gs.map Arg.data) → (∀ g ∈ gs, g.fits) → (∀ a ∈ refs us, a ∈ as) →
    ∃ vs : List V, Vals vs us ∧ Paired (fun g v => ArgIs K (argHp K h as) g v) gs vs
  | [], [], _, _, _ => ⟨[], .nil, .nil⟩
  | [], _ :: _, w, _, _ => by rw [List.map_cons] at w; cases w
  | _ :: _, [], w, _, _ => by rw [List.map_nil] at w; cases w
  | u :: us, g :: gs, w, hf, hr => by
    rw [List.map_cons] at w
    cases w with
    | cons w1 w2 =>
      cases g with
      | int i =>
        have w1 : Well P h u (.int i) := w1
        cases w1 with
        | int _ t =>
          obtain ⟨vs, r, p⟩ := args_are KX as w2 (fun g hg => hf g (List.mem_cons_of_mem _ hg)) hr
          exact ⟨.int i :: vs, .cons ⟨t, rfl⟩ r, .cons rfl p⟩
      | nums ns =>
        have w1 : Well P h u (.list (ns.map WData.int)) := w1
        cases w1 with
        | @list a vs0 xs ho hall =>
          have hi := ints_of_wellAll hall
          have hl : ns.length ≤ sizeLine := hf (.nums ns) List.mem_cons_self
          have hr' : a ∈ as := hr a (show a ∈ a :: refs us from List.mem_cons_self)
          obtain ⟨vs, r, p⟩ := args_are KX as w2 (fun g hg => hf g (List.mem_cons_of_mem _ hg)) fun b hb => hr b (show b ∈ a :: refs us from List.mem_cons_of_mem _ hb)
          refine ⟨.ref a :: vs, .cons rfl r, .cons ⟨a, rfl, ?_⟩ p⟩
          cases hk : K.lookup a with
          | none => exact .inl (.inr ⟨_, argHp_some hk hr' ⟨ho, hi, hl⟩⟩)
          | some o =>
            have e := KX a o hk
            rw [ho] at e
            cases e
            exact .inr ⟨_, vs0.toArray, _, hk, rfl, rfl, rfl, by rw [List.size_toArray, hi.length]; exact hl, by simpa using vals_ints hi⟩
theorem reads_ints {cl : Str → Option Addr} {h : Heap} : ∀ {its : List Value} {ns : List Int}, Vals (ns.map V.int) its → ReadsAllW [] cl h its (ns.map WData.int) []
  | [], [], _ => .nil
  | [], _ :: _, r => by rw [List.map_cons] at r; cases r
  | _ :: _, [], r => by rw [List.map_nil] at r; cases r
  | u :: us, n :: ns, r => by
    rw [List.map_cons] at r
    cases r with
    | cons r1 r2 =>
      obtain ⟨t, rfl⟩ := r1
      rw [List.map_cons]
      exact ReadsAllW.cons (as := []) (bs := []) (.int n t) (reads_ints r2)
structure DefAt (K : Frag) (mg : Str → Option Value) (x : Str) (st : Stmt) : Prop where
  ex : ∃ f fd, mg x = some (.ref f) ∧ Fun K x x st f fd
structure Fx (P : Program) (w : World) (K : Frag) (mg : Str → Option Value) (base : Heap) (x : Str) (k : Nat) (ps : List Str) (sp : Sp) : Prop where
  ex : ∃ f fd, mg x = some (.ref f) ∧ keepIn K (.ref f) = true ∧ Binds K fd ps [] ∧ FnOk P w K mg base CX0 k f fd ps sp
theorem pe_fx {X : Cx} {x : Str} {k : Nat} {ps : List Str} {sp : Sp} {p pos : Pos} {e : Expr} {es : List Expr} {t : TA} (F : Fx X.prog X.w X.K X.mg X.base x k ps sp) (hr : Room k X.A) (hg : Gl X x) (ha : PA X (e :: es) t)
    (hdb : (x == ("__debug__" : Str)) = false := by decide) (he : starEach (e :: es) X.env = (false, eval e X.env) :: starEach es X.env := by rfl) (hpl : (backTo pos (starEach es X.env)).any (·.1) = false := by rfl) :
    PE X (.Call (.Name x p) (e :: es) [] pos) (tCall sp [] E0 t) := by
  obtain ⟨f, fd, hm, hk, hb, G⟩ := F.ex
  exact pe_call G hr hg hm hk hb .nil pass0 ha hdb he hpl
section
variable {P : Program} {w : World} {K : Frag} {mg : Str → Option Value} {base : Heap}
theorem DefAt.fx {x : Str} {st : Stmt} {N ps : List Str} {k : Nat} {sp : Sp} (D : DefAt K mg x st) (S : FnScope N ps (defScope st))
    (hb : ∀ (kV doc pm : Value) (an : Option Addr) (cdv ct : Value) (us : List Value), us.length = ps.length → bindArgs (fnOf x x (defArgs st) (defBody st) (defScope st) .none kV doc pm an cdv ct) ⟨us, []⟩ = pure (ps.zip us))
    (len : ∀ vs H Q E, sp vs H Q E → vs.length = ps.length)
    (hbody : ∀ (f : Addr) (cdv : Value) (A : Around) (outer : List Env) (s : Shared) (H : Hp) (vs : List V) (Q : VK) (E : XK), Room k (A.deeper (envOfC x (defScope st) s.heap.objs.size f cdv)) → sp vs H Q E →
      ∃ t, PSs (cxOf CX0 P w K mg base N x (defScope st) f cdv A outer s H E).nox (defBody st) t ∧ t { nx := fun _ H' => Q .non H', rt := Q } (start N vs) H) : Fx P w K mg base x (k + 1) ps sp := by
  obtain ⟨f, fd, hm, F⟩ := D.ex
  exact ⟨f, fd, hm, F.kp, F.binds hb, F.ok S len fun cdv A outer s H vs Q E hr h => hbody f cdv A outer s H vs Q E hr h⟩
end
theorem spec_call {P : Program} {w : World} {K : Frag} {mg mb : Str → Option Value} {k : Nat} {x : Str} {fa : Addr} {ps : List Str} {sp : Sp} {s₁ : Shared} {us : List Value} {gs : List Arg} {cl : Str → Option Addr} {ans : List Int}
    (KX : K.In s₁.heap) (hns : s₁.heap.Ns mainGlobals mg) (hb : s₁.heap.Ns builtinsNs mb) (hbb : ∀ x : Str, x ≠ "__name__" → mb x = bootBuiltins x) (hlim : s₁.heap.NoLimit) (hg : s₁.gens = #[])
    (hw : WellAll w.params s₁.heap us (gs.map Arg.data)) (hf : ∀ g ∈ gs, g.fits) (hr : Room k callerA)
    (F : ∀ base : Heap, K.In base → base.Ns mainGlobals mg → Fx P w K mg base x k ps sp) (hmg : mg x = some (.ref fa)) (hul : us.length = ps.length)
    (hsp : ∀ (H : Hp) (vs : List V), OnlyK K H → Paired (fun g v => ArgIs K H g v) gs vs → sp vs H (fun v H' => ∃ a, v = .ref a ∧ SqL K H' a (ans.map V.int)) fun _ _ _ => False) :
    codeAny (model P w) callerA (.call (.ref fa) ⟨us, []⟩) (fun r s' => (∃ u as, r = .ok (.ret u) ∧ ReadsW [] cl s'.heap u (.list (ans.map WData.int)) as) ∧ OldK s₁.heap s'.heap ∧ s'.os = s₁.os ∧ AllBare s'.gens) s₁ := by
  obtain ⟨vs, rv, pv⟩ := args_are KX (refs us) hw hf fun a h => h
  generalize hH : argHp K s₁.heap (refs us) = H at pv
  have hO : OnlyK K H := fun b => by
    cases q : H b with
    | none => exact .inl rfl
    | some u =>
      rw [← hH] at q
      obtain ⟨q1, _, vs, ns, _, rfl⟩ := argHp_of q
      exact .inr ⟨q1, _, _, rfl⟩
  have hok : HOk P w H s₁.heap := fun b u e => by
    rw [← hH] at e
    obtain ⟨_, _, vs, ns, ⟨l1, l2, l3⟩, rfl⟩ := argHp_of e
    exact ⟨l1, by rw [List.length_map]; exact l3, vs, _, vals_ints l2, l1⟩
  have base_of : ∀ {b : Addr} {o : Obj}, s₁.heap.get? b = some o → H b = none → (hidT s₁.heap H).get? b = some o := fun e n => hidT_get e n
  have noA : ∀ {b : Addr} {o : Obj} {es : Array DictEntry} {ep : Nat}, s₁.heap.get? b = some o → o.data = .dict es ep → H b = none := fun {b o es ep} e d => by
    cases q : H b with
    | none => rfl
    | some u =>
      rw [← hH] at q
      obtain ⟨_, _, vs, ns, ⟨l1, _, _⟩, _⟩ := argHp_of q
      rw [l1] at e
      cases e
      cases d
  have nsK : ∀ {b : Addr} {m : Str → Option Value}, s₁.heap.Ns b m → (hidT s₁.heap H).Ns b m := fun {b m} ⟨o, es, ep, e, d, r⟩ => ⟨o, es, ep, base_of e (noA e d), d, r⟩
  have freeK : ∀ b o, K.lookup b = some o → H b = none := fun b o e => by
    rcases hO b with z | ⟨z, _⟩
    · exact z
    · rw [e] at z; cases z
  have hKb : K.In (hidT s₁.heap H) := fun b o e => base_of (KX b o e) (freeK b o e)
  have hM : Mod K mg (hidT s₁.heap H) := ⟨hKb, nsK hns, ⟨mb, nsK hb, hbb⟩, let ⟨mc, h1, h2⟩ := hlim; ⟨mc, nsK h1, h2⟩⟩
  have e0 : Env0 P w K mg (hidT s₁.heap H) callerA [] s₁ H := ⟨rfl, hM, fun b o e => of_hidT e, Nat.le_of_eq (hidT_size _ _), trivial, fun b hb => absurd (show b ∈ ([] : List Addr) from hb) (by simp), hok, .of_eq hg⟩
  obtain ⟨f', fd, hm', _, hbd, G⟩ := (F _ hKb (nsK hns)).ex
  rw [hmg] at hm'
  cases hm'
  have hbind : BindsTo s₁ fd ⟨us, []⟩ (ps.zip us) := by
    have z := hbd s₁ us KX (by rw [List.append_nil]; exact hul)
    rw [List.append_nil] at z
    exact z
  refine codeAny_mono (G.run callerA [] s₁ H ⟨us, []⟩ us vs _ _ hr e0 hbind rv (hsp H vs hO pv)) fun r s' h => ?_
  cases r with
  | error e => exact False.elim h
  | ok fl =>
    cases fl with
    | next => exact False.elim h
    | brk => exact False.elim h
    | cont => exact False.elim h
    | ret u =>
      obtain ⟨v, H', os, bare, un, hok', r', a, rfl, hS⟩ := h
      obtain rfl : u = Value.ref a := r'
      have keeps : ∀ b o, s₁.heap.get? b = some o → s'.heap.get? b = some o := fun b o e => by
        cases q : H b with
        | none => exact un.keep b o e q (by intro z; exact absurd (show b ∈ ([] : List Addr) from z) (by simp)) (by simp)
        | some u =>
          rcases hO b with z | ⟨_, ob, xs, z⟩
          · rw [q] at z; cases z
          · have z2 := un.frzs b ob _ z
            obtain ⟨e1, _⟩ := hok b _ z
            obtain ⟨e2, _⟩ := hok' b _ z2
            rw [e] at e1; cases e1
            exact e2
      refine ⟨⟨.ref a, [a], rfl, ?_⟩, OldK.of_keep keeps, os, bare⟩
      · rcases hS with hS | ⟨o, its, n, e1, e2, e3, e4, _, rv2⟩
        · obtain ⟨_, its, n, rv2, e⟩ := hS.ok hok'
          exact ReadsW.list (as := []) e rfl rfl (by simpa using reads_ints rv2)
        · exact ReadsW.list (as := []) (keeps a o (KX a o e1)) e2 e4 (reads_ints rv2)
theorem walk_ofS {r : OpenSpec} {k : Nat} {q : Program} {loose : List Str} {XP : (Str → Option Value) → Heap → Prop} {YP : World → Heap → Prop} {d : DefRec} {K : Params → Frag} {sp : Frag → Sp} {ps : List Str}
    (hdf : d.params.defaults = []) (hr : Room k callerA)
    (hY : ∀ (w : World) (h : Heap), YP w h → (K w.params).In h)
    (hargs : ∀ args, r.pre args = true → ∃ (gs : List Arg) (ans : List Int), args = gs.map Arg.data ∧ (∀ g ∈ gs, g.fits) ∧ gs.length = ps.length ∧ r.post args (.list (ans.map WData.int)) = true ∧
      ∀ (w : World) (H : Hp) (vs : List V), OnlyK (K w.params) H → Paired (fun g v => ArgIs (K w.params) H g v) gs vs → sp (K w.params) vs H (fun v H' => ∃ a, v = .ref a ∧ SqL (K w.params) H' a (ans.map V.int)) fun _ _ _ => False)
    (F : ∀ (w : World) (mg : Str → Option Value) (h : Heap), (K w.params).In h → h.Ns mainGlobals mg →
      ∀ base : Heap, (K w.params).In base → base.Ns mainGlobals mg → Fx r.prog w (K w.params) mg base d.name k ps (sp (K w.params))) :
    WalkOS q loose XP YP r d [] (fun f vs => PySem.call f vs) := by
  intro w s₀ s₁ mg mb G Y fa o pm cd doc dV kV ho hd hcd hD hmg hg args vals as hpre hlay hrd hwl hlo
  have KX := hY w _ Y
  obtain ⟨gs, ans, rfl, hfit, hlen, hpost, hsp⟩ := hargs args hpre
  have hul : vals.length = ps.length := by
    have : ∀ {P : Params} {h : Heap} {us : List Value} {ds : List WData}, WellAll P h us ds → us.length = ds.length := by
      intro P h us
      induction us with
      | nil => intro ds w; cases w; rfl
      | cons u us ih => intro ds w; cases w with | cons _ w => rw [List.length_cons, List.length_cons, ih w]
    rw [this hwl, List.length_map, hlen]
  refine enter_call (codeAny_mono (spec_call (cl := classAt s₀.heap) (ans := ans) KX G.T.g G.T.b G.T.builtins G.T.nolimit hg hwl hfit hr (F w mg _ KX G.T.g) hmg hul (hsp w)) fun res s' hq => ?_)
  obtain ⟨⟨u, bs, rfl, hrd'⟩, h2, h3, h4⟩ := hq
  exact ⟨.inl ⟨u, _, bs, rfl, fun _ => rfl, hrd', osPost hpost, fun hu => by cases hu⟩, h2, h3, h4⟩
theorem dec_cons {c : Codec} {cs : List Codec} {ds : List WData} {a : c.denote} {r : Codec.denoteAll cs} (h : Codec.decAll (c :: cs) ds = some (a, r)) : ∃ d ds', ds = d :: ds' ∧ c.dec d = some a ∧ Codec.decAll cs ds' = some r := by
  cases ds with
  | nil => cases h
  | cons d ds =>
    have e : Codec.decAll (c :: cs) (d :: ds) = Codec.both Prod.mk (c.dec d) (Codec.decAll cs ds) := rfl
    rw [e] at h
    cases h1 : c.dec d with
    | none => rw [h1] at h; cases h
    | some a' =>
      cases h2 : Codec.decAll cs ds with
      | none => rw [h1, h2] at h; cases h
      | some r' =>
        rw [h1, h2] at h
        cases h
        exact ⟨d, ds, rfl, h1, h2⟩
theorem dec_nil {ds : List WData} {r : Codec.denoteAll []} (h : Codec.decAll [] ds = some r) : ds = [] := by
  cases ds with
  | nil => rfl
  | cons d ds => cases h
theorem dec_int {lo hi : Int} {d : WData} {k : Int} (h : (Codec.int lo hi).dec d = some k) : d = .int k ∧ lo ≤ k ∧ k ≤ hi := by
  have h : Codec.decInt lo hi d = some k := h
  cases d with
  | int z =>
    have h : (if Codec.inInt lo hi z = true then some z else none) = some k := h
    by_cases hc : Codec.inInt lo hi z = true
    · rw [if_pos hc] at h
      cases h
      unfold Codec.inInt at hc
      simp only [Bool.and_eq_true, decide_eq_true_eq] at hc
      exact ⟨rfl, hc.1, hc.2⟩
    · rw [if_neg hc] at h
      cases h
  | _ => cases h
theorem dec_items {lo hi : Int} : ∀ {ds : List WData} {ns : List Int}, Codec.decItems (Codec.decInt lo hi) ds = some ns → ds = ns.map WData.int ∧ ∀ x ∈ ns, lo ≤ x ∧ x ≤ hi
  | [], ns, h => by cases h; exact ⟨rfl, fun _ h => nomatch h⟩
  | d :: ds, ns, h => by
    have h : Codec.both List.cons (Codec.decInt lo hi d) (Codec.decItems (Codec.decInt lo hi) ds) = some ns := h
    cases h1 : Codec.decInt lo hi d with
    | none => rw [h1] at h; cases h
    | some a =>
      cases h2 : Codec.decItems (Codec.decInt lo hi) ds with
      | none => rw [h1, h2] at h; cases h
      | some r =>
        rw [h1, h2] at h
        cases h
        obtain ⟨e1, b1, b2⟩ := dec_int (lo := lo) (hi := hi) h1
        obtain ⟨e2, b3⟩ := dec_items h2
        refine ⟨by rw [e1, e2]; rfl, fun x hx => ?_⟩
        rcases List.mem_cons.mp hx with rfl | hx
        · exact ⟨b1, b2⟩
        · exact b3 x hx
theorem dec_list {least most : Nat} {lo hi : Int} {d : WData} {ns : List Int} (h : (Codec.list least most (.int lo hi)).dec d = some ns) : d = .list (ns.map WData.int) ∧ ns.length ≤ most ∧ ∀ x ∈ ns, lo ≤ x ∧ x ≤ hi := by
  have h : Codec.decList least most (Codec.decInt lo hi) d = some ns := h
  cases d with
  | list ds =>
    have h : (if Codec.inLen least most ds = true then Codec.decItems (Codec.decInt lo hi) ds else none) = some ns := h
    by_cases hc : Codec.inLen least most ds = true
    · rw [if_pos hc] at h
      obtain ⟨e, b⟩ := dec_items h
      unfold Codec.inLen Codec.inNat at hc
      simp only [Bool.and_eq_true, decide_eq_true_eq] at hc
      refine ⟨by rw [e], ?_, b⟩
      rw [e, List.length_map] at hc
      exact hc.2
    · rw [if_neg hc] at h
      cases h
  | _ => cases h
theorem post_list {r : OpenSpec} {as : List WData} {a : Codec.denoteAll r.args} {k : List Int} (h1 : Codec.decAll r.args as = some a) (h2 : r.ret.enc (Codec.app r.args r.f a) = .list (k.map WData.int)) : r.post as (.list (k.map WData.int)) = true := by
  refine os_post h1 ?_
  rw [h2]
  exact same_self _
end KL
set_option Elab.async false
set_option linter.all false
set_option maxRecDepth 100000
namespace KL
open PySem PySem.W PyProof.Rows L2
def vb (l : List Nat) : List V := l.map fun n : Nat => V.int (n : Int)
theorem vb_length (l : List Nat) : (vb l).length = l.length := List.length_map _
theorem vb_append (a b : List Nat) : vb (a ++ b) = vb a ++ vb b := List.map_append
theorem vb_get {l : List Nat} {i : Nat} {v : V} (h : (vb l)[i]? = some v) : ∃ n, l[i]? = some n ∧ v = V.int (n : Int) := by
  unfold vb at h
  rw [List.getElem?_map] at h
  cases e : l[i]? with
  | none => rw [e] at h; cases h
  | some n => rw [e] at h; exact ⟨n, rfl, (Option.some.inj h).symm⟩
theorem xor_nat (a b : Nat) : Builtin.bitXor (a : Int) (b : Int) = ((a ^^^ b : Nat) : Int) := by
  rw [bitXor_and]
  have e : Builtin.bitAnd (a : Int) (b : Int) = ((a &&& b : Nat) : Int) := by
    unfold Builtin.bitAnd
    have h1 : decide ((0 : Int) ≤ (a : Int)) = true := by simp
    have h2 : decide ((0 : Int) ≤ (b : Int)) = true := by simp
    rw [h1, h2]
    rfl
  rw [e]
  have := My.xor_and a b
  omega
theorem and_nat (a b : Nat) : Builtin.bitAnd (a : Int) (b : Int) = ((a &&& b : Nat) : Int) := by
  unfold Builtin.bitAnd
  have h1 : decide ((0 : Int) ≤ (a : Int)) = true := by simp
  have h2 : decide ((0 : Int) ≤ (b : Int)) = true := by simp
  rw [h1, h2]
  rfl
theorem or_nat (a b : Nat) : Builtin.bitOr (a : Int) (b : Int) = ((a ||| b : Nat) : Int) := by
  have h : Builtin.bitXor (a : Int) (b : Int) = Builtin.bitOr (a : Int) (b : Int) - Builtin.bitAnd (a : Int) (b : Int) := rfl
  rw [xor_nat, and_nat] at h
  have h1 := My.xor_and a b
  have h2 := My.or_and a b
  omega
end KL
namespace KL
open PySem PySem.W PyProof.Rows L2
structure Mtx (P : Program) (w : World) (K : Frag) (mg : Str → Option Value) (base : Heap) (C : Addr) (m : Str) (k : Nat) (ps : List Str) (sp : Sp) : Prop where
  ex : ∃ f fd, Cls K C ∧ Meth K C m f ∧ Binds K fd ps [] ∧ FnOk P w K mg base CX0 k f fd ps sp
structure Mkx (P : Program) (w : World) (K : Frag) (mg : Str → Option Value) (base : Heap) (x : Str) (C : Addr) (k : Nat) (ps : List Str) (sp : Sp) : Prop where
  ex : ∃ f fd, mg x = some (.ref C) ∧ Mk K C f ∧ Binds K fd ps [] ∧ FnOk P w K mg base CX0 k f fd ps sp
theorem pe_mx {X : Cx} {x : Str} {C : Addr} {k : Nat} {ps : List Str} {sp : Sp} {p pos : Pos} {e : Expr} {es : List Expr} {t : TA} (M : Mkx X.prog X.w X.K X.mg X.base x C k ps sp) (hr : Room (k + 1) X.A) (hg : Gl X x) (ha : PA X (e :: es) t)
    (hdb : (x == ("__debug__" : Str)) = false := by decide) (he : starEach (e :: es) X.env = (false, eval e X.env) :: starEach es X.env := by rfl) (hpl : (backTo pos (starEach es X.env)).any (·.1) = false := by rfl) :
    PE X (.Call (.Name x p) (e :: es) [] pos) (tMake C sp [] E0 t) := by
  obtain ⟨f, fd, hm, hk, hb, G⟩ := M.ex
  exact pe_make hk G hr hg hm hb .nil pass0 ha hdb he hpl
theorem pe_mt {X : Cx} {o e : Expr} {es : List Expr} {C : Addr} {m : Str} {k : Nat} {ps : List Str} {sp : Sp} {apos pos : Pos} {ta : TE} {t : TA} {pl : Sem Bool} (he : PE X o ta) (M : Mtx X.prog X.w X.K X.mg X.base C m k ps sp) (hr : Room k X.A) (ha : PA X (e :: es) t)
    (hst : starEach (e :: es) X.env = (false, eval e X.env) :: starEach es X.env := by rfl) (hpl : (backTo pos (starEach es X.env)).any (·.1) = false := by rfl)
    (ht : eval (.Call (.Attribute o m apos) (e :: es) [] pos) X.env = (do
      let ov ← eval o X.env
      standAt apos.atName
      let (f, first) ← holding [ov] (getMethod ov m pl)
      callWith pos f first (backTo pos (starEach (e :: es) X.env)) (backToKw pos (keywordEach [] X.env))) := by rfl) :
    PE X (.Call (.Attribute o m apos) (e :: es) [] pos) (tMeth C m sp [] E0 ta t) := by
  obtain ⟨f, fd, hc, hm, hb, G⟩ := M.ex
  exact pe_meth he hc hm G hr hb .nil pass0 ha hst hpl ht
theorem pe_mt0 {X : Cx} {o : Expr} {C : Addr} {m : Str} {k : Nat} {ps : List Str} {sp : Sp} {apos pos : Pos} {ta : TE} {pl : Sem Bool} (he : PE X o ta) (M : Mtx X.prog X.w X.K X.mg X.base C m k ps sp) (hr : Room k X.A)
    (ht : eval (.Call (.Attribute o m apos) [] [] pos) X.env = (do
      let ov ← eval o X.env
      standAt apos.atName
      let (f, first) ← holding [ov] (getMethod ov m pl)
      callWith pos f first (backTo pos (starEach [] X.env)) (backToKw pos (keywordEach [] X.env))) := by rfl) :
    PE X (.Call (.Attribute o m apos) [] [] pos) (tMeth C m sp [] E0 ta tNil) := by
  obtain ⟨f, fd, hc, hm, hb, G⟩ := M.ex
  exact pe_meth0 he hc hm G hr hb .nil pass0 ht
theorem Same.upd {G H : Hp} {l : Addr} {o : HO} (s : Same G H) (h : G l = none) : Same G (L2.upd H l o) := fun b u e => by
  rw [upd_ne (ne_of_none e h)]
  exact s b u e
theorem Same.new {G H : Hp} {l : Addr} {o : HO} (s : Same G H) (h : H l = none) : Same G (L2.upd H l o) := Same.upd s (s.free h)
theorem Same.grow {G H : Hp} {l : Addr} {o : HO} (s : Same G H) (h : H l = some o) : Same (L2.upd G l o) H := fun b u e => by
  by_cases hb : b = l
  · subst hb
    rw [upd_same] at e
    rw [h, e]
  · rw [upd_ne hb] at e
    exact s b u e
end KL
namespace KL
open PySem PySem.W PyProof.Rows L2
theorem pe_gint {X : Cx} {x : Str} {i : Int} {pos : Pos} (hg : Gl X x) (hm : ∃ t, X.mg x = some (.int i t)) (hd : (x == ("__debug__" : Str)) = false := by decide) : PE X (.Name x pos) (tC (.int i)) := by
  obtain ⟨t, hm⟩ := hm
  exact pe_glob (v := .int i) hg hm ⟨t, rfl⟩ hd
theorem pe_gstr {X : Cx} {x : Str} {i : Str} {pos : Pos} (hg : Gl X x) (hm : ∃ t, X.mg x = some (.str i t)) (hd : (x == ("__debug__" : Str)) = false := by decide) : PE X (.Name x pos) (tC (.str i)) := by
  obtain ⟨t, hm⟩ := hm
  exact pe_glob (v := .str i) hg hm ⟨t, rfl⟩ hd
theorem pe_gref {X : Cx} {x : Str} {a : Addr} {pos : Pos} (hg : Gl X x) (hm : X.mg x = some (.ref a)) (hd : (x == ("__debug__" : Str)) = false := by decide) : PE X (.Name x pos) (tC (.ref a)) :=
  pe_glob (v := .ref a) hg hm rfl hd
end KL
set_option Elab.async false
set_option linter.all false
set_option maxRecDepth 100000
namespace KL
open PySem PyProof.Rows
def lexBy (d : Int → Int → Bool) (e : Nat → Nat → Bool) : List Int → List Int → Bool
  | x :: xs, y :: ys => if x = y then lexBy d e xs ys else d x y
  | [], ys => e 0 ys.length
  | xs, [] => e xs.length 0
section
open PySem.SeqAt
open PySem.AutoSeq1 (wpAny_loadPart')
open PySem.MeetsSeq PySem.MeetsSeq2 PySem.MeetsSeq3
theorem ints_get {vs : List Value} {ns : List Int} (h : IntsAre vs ns) : ∀ {i : Nat} {n : Int}, ns[i]? = some n → ∃ t, vs[i]? = some (.int n t) := by
  induction h with
  | nil => intro i n e; simp at e
  | cons m t _ ih =>
    intro i n e
    cases i with
    | zero => simp at e; subst e; exact ⟨t, rfl⟩
    | succ i => exact ih (by simpa using e)
theorem lexBy_end (d : Int → Int → Bool) (e : Nat → Nat → Bool) (ns ms : List Int) (h : ns = [] ∨ ms = []) : lexBy d e ns ms = e ns.length ms.length := by
  rcases h with rfl | rfl
  · cases ms <;> rfl
  · cases ns <;> rfl
theorem lexBy_step (d : Int → Int → Bool) (e : Nat → Nat → Bool) (ns ms : List Int) (i : Nat) {x y : Int} (hx : ns[i]? = some x) (hy : ms[i]? = some y) : lexBy d e (ns.drop i) (ms.drop i) = if x = y then lexBy d e (ns.drop (i + 1)) (ms.drop (i + 1)) else d x y := by
  obtain ⟨h1, e1⟩ := List.getElem?_eq_some_iff.mp hx
  obtain ⟨h2, e2⟩ := List.getElem?_eq_some_iff.mp hy
  rw [List.drop_eq_getElem_cons h1, List.drop_eq_getElem_cons h2, e1, e2]
  rfl
theorem le_loop (l b : Addr) (items items2 : Array Value) (n n2 : Nat) (dd dd2 : Option Addr) (sl sl2 : Array (Option Value)) (ns ms : List Int) (hi : IntsAre items.toList ns) (hj : IntsAre items2.toList ms) (k : Nat) :
    ∀ i : Nat, items.size - i = k → (i ≤ items.size ∧ i ≤ items2.size) → Meets (Builtin.«list.__eq__.loop» ⟨[.ref l, .ref b, rawInt i, rawInt 1], []⟩)
      (fun A R s => s.heap.get? l = some { cls := .type "list", dict := dd, data := .seq items n, slots := sl } ∧ s.heap.get? b = some { cls := .type "list", dict := dd2, data := .seq items2 n2, slots := sl2 } ∧
        R (.ok (.ret (.bool (lexBy (fun x y => decide (x ≤ y)) (fun x y => decide (x ≤ y)) (ns.drop i) (ms.drop i))))) s) := by
  have z1 : items.size = ns.length := by rw [← hi.length]; simp
  have z2 : items2.size = ms.length := by rw [← hj.length]; simp
  induction k with
  | zero =>
    intro i hk hle prog w A R s h
    obtain ⟨hp, g, d, tk, os⟩ := s; obtain ⟨hl, hb, h⟩ := h
    wp_walk using wpAny_loadPart' hl, wpAny_loadPart' hb
    have hi1 : items[((i : Nat) : Int).toNat]? = none := by simp; omega
    have hd : ns.drop i = [] := by simp; omega
    rw [hi1]
    rw [lexBy_end _ _ _ _ (.inl hd), List.length_drop, List.length_drop] at h
    have e : decide (ns.length - i ≤ ms.length - i) = decide (items.size ≤ items2.size) := by
      rw [z1, z2]
      have h1 := hle.1
      have h2 := hle.2
      rw [z1] at h1
      rw [z2] at h2
      by_cases q : ns.length ≤ ms.length
      · rw [decide_eq_true q, decide_eq_true (by omega)]
      · rw [decide_eq_false q, decide_eq_false (by omega)]
    rw [e] at h
    wp_walk using wpAny_loadPart' hl, wpAny_loadPart' hb
    exact h
  | succ k ih =>
    intro i hk hle prog w A R s h
    obtain ⟨hp, g, d, tk, os⟩ := s; obtain ⟨hl, hb, h⟩ := h
    wp_walk using wpAny_loadPart' hl, wpAny_loadPart' hb
    have hlt : i < items.size := by omega
    have hx : ns[i]? = some ns[i] := List.getElem?_eq_getElem (by omega)
    obtain ⟨t, ht⟩ := ints_get hi hx
    have hi1 : items[((i : Nat) : Int).toNat]? = some (.int ns[i] t) := by
      rw [← ht]; simp
    by_cases hlt2 : i < items2.size
    · have hy : ms[i]? = some ms[i] := List.getElem?_eq_getElem (by omega)
      obtain ⟨u, hu⟩ := ints_get hj hy
      have hi2 : items2[((i : Nat) : Int).toNat]? = some (.int ms[i] u) := by
        rw [← hu]; simp
      have hc : ((i : Int) + 1) = ((i + 1 : Nat) : Int) := by push_cast; rfl
      rw [lexBy_step _ _ _ _ _ hx hy] at h
      rw [hi1, hi2]
      refine wpAny_bind (SeqAt.EqAt.int_int ns[i] t ms[i] u prog w _ _ ?_)
      by_cases q : ns[i] = ms[i]
      · rw [if_pos q] at h
        have q' : (ns[i] == ms[i]) = true := by simp [q]
        rw [q']
        wp_walk
        rw [hc]
        exact ⟨plainId_quiet plain_eq_loop _, codeAny_builtin entry_eq_loop (by
          rw [Around.under_plainId plain_eq_loop _]
          exact ih (i + 1) (by omega) ⟨by omega, by omega⟩ prog w A R _ ⟨hl, hb, h⟩)⟩
      · rw [if_neg q] at h
        have q' : (ns[i] == ms[i]) = false := by simp [q]
        rw [q']
        wp_walk using wpAny_loadPart' hl, wpAny_loadPart' hb
        rw [hi1, hi2]
        have hle' : ∀ (A : Around) (s : Shared) (E : Value → Shared → Prop) (Q : Value → Shared → Prop), Q (.bool (decide (ns[i] ≤ ms[i]))) s → wpAny (model prog w) A (richCompare .LtE (.int ns[i] t) (.int ms[i] u)) Q E s :=
          fun A s E Q h => (PyProof.Rows.le_int h : wpAny (model prog w) A (compareOp .LtE (.int ns[i] t) (.int ms[i] u)) Q E s)
        wp_walk using hle'
        exact h
    · have hi2 : items2[((i : Nat) : Int).toNat]? = none := by simp; omega
      have hd : ms.drop i = [] := by simp; omega
      rw [hi1, hi2]
      rw [lexBy_end _ _ _ _ (.inr hd), List.length_drop, List.length_drop] at h
      have e : decide (ns.length - i ≤ ms.length - i) = decide (items.size ≤ items2.size) := by
        rw [z1, z2, decide_eq_false (by omega), decide_eq_false (by omega)]
      rw [e] at h
      wp_walk using wpAny_loadPart' hl, wpAny_loadPart' hb
      exact h
theorem list_le_ints (l b : Addr) (items items2 : Array Value) (n n2 : Nat) (dd dd2 : Option Addr) (sl sl2 : Array (Option Value)) (ns ms : List Int) (hi : IntsAre items.toList ns) (hj : IntsAre items2.toList ms) :
    Meets (Builtin.«list.__le__» ⟨[.ref l, .ref b], []⟩)
      (fun _ R s => s.heap.get? l = some { cls := .type "list", dict := dd, data := .seq items n, slots := sl } ∧ s.heap.get? b = some { cls := .type "list", dict := dd2, data := .seq items2 n2, slots := sl2 } ∧
        R (.ok (.ret (.bool (lexBy (fun x y => decide (x ≤ y)) (fun x y => decide (x ≤ y)) ns ms)))) s) := by
  intro prog w A R s h
  obtain ⟨hp, g, d, tk, os⟩ := s; obtain ⟨hl, hb, h⟩ := h
  have f3 := AutoSeq1.sub_list_list
  wp_walk using wpAny_loadPart' hl, wpAny_loadPart' hb
  exact ⟨plainId_quiet plain_eq_loop _, codeAny_builtin entry_eq_loop (by
    rw [Around.under_plainId plain_eq_loop _]
    exact le_loop l b items items2 n n2 dd dd2 sl sl2 ns ms hi hj _ 0 rfl ⟨Nat.zero_le _, Nat.zero_le _⟩ prog w A R _ ⟨hl, hb, h⟩)⟩
end
end KL
set_option Elab.async false
set_option linter.all false
set_option maxRecDepth 100000
namespace KL
open PySem PySem.W PyProof.Rows L2
theorem for_zip {K : Frag} {a b : Addr} {xs ys : List V} {g : TG} {tb : TS} {D : Ends} {σ : L2.St} {H : Hp} (Pv : Nat → L2.St → Hp → Prop) (h0 : Pv 0 σ H) (hl : ∀ i σ H, Pv i σ H → SqL K H a xs ∧ SqL K H b ys)
    (hs : ∀ i x y T σ H, xs[i]? = some x → ys[i]? = some y → H T = none → Pv i σ H → g (.ref T) σ (upd H T (.tup [x, y])) fun σ2 H2 => tb { D with nx := Pv (i + 1), ct := Pv (i + 1), bk := D.nx } σ2 H2)
    (hd : ∀ i σ H, (i = xs.length ∧ i ≤ ys.length ∨ i = ys.length ∧ i ≤ xs.length) → Pv i σ H → D.nx σ H) :
    ∃ W : Nat → Nat → L2.St → Hp → Prop, (∃ m, W 0 m σ H) ∧ ∀ i m σ H, W i m σ H →
      ((Itz K a b).stop i H ∧ D.nx σ H) ∨ ((Itz K a b).go i H ∧ ∃ N : L2.St → Hp → Prop, (∀ σ' H', N σ' H' → ∃ m', m' < m ∧ W (i + 1) m' σ' H') ∧ ∀ x H', (Itz K a b).yld i H x H' → g x σ H' fun σ2 H2 => tb { D with nx := N, ct := N, bk := D.nx } σ2 H2) := by
  refine ⟨fun i m σ H => m = xs.length - i ∧ i ≤ xs.length ∧ i ≤ ys.length ∧ Pv i σ H, ⟨xs.length, by simp, Nat.zero_le _, Nat.zero_le _, h0⟩, ?_⟩
  rintro i m σ H ⟨rfl, hi, hj, p⟩
  obtain ⟨q1, q2⟩ := hl i σ H p
  by_cases hlt : i < xs.length
  · by_cases hlt2 : i < ys.length
    · refine .inr ⟨⟨xs, ys, xs[i], ys[i], q1, q2, by simp [hlt], by simp [hlt2]⟩, Pv (i + 1), fun σ' H' p' => ⟨xs.length - (i + 1), by omega, rfl, hlt, hlt2, p'⟩, fun x H' y => ?_⟩
      obtain ⟨T, u, v, rfl, hT, rfl, e1, e2⟩ := y
      exact hs i u v T σ H (e1 xs q1) (e2 ys q2) hT p
    · exact .inl ⟨⟨xs, ys, q1, q2, .inr (by omega)⟩, hd i σ H (.inr ⟨by omega, hi⟩) p⟩
  · exact .inl ⟨⟨xs, ys, q1, q2, .inl (by omega)⟩, hd i σ H (.inl ⟨by omega, hj⟩) p⟩
theorem for_enum {K : Frag} {a : Addr} {xs : List V} {g : TG} {tb : TS} {D : Ends} {σ : L2.St} {H : Hp} (Pv : Nat → L2.St → Hp → Prop) (h0 : Pv 0 σ H) (hl : ∀ i σ H, Pv i σ H → SqL K H a xs)
    (hs : ∀ i x T σ H, xs[i]? = some x → H T = none → Pv i σ H → g (.ref T) σ (upd H T (.tup [.int (i : Nat), x])) fun σ2 H2 => tb { D with nx := Pv (i + 1), ct := Pv (i + 1), bk := D.nx } σ2 H2)
    (hd : ∀ σ H, Pv xs.length σ H → D.nx σ H) :
    ∃ W : Nat → Nat → L2.St → Hp → Prop, (∃ m, W 0 m σ H) ∧ ∀ i m σ H, W i m σ H →
      ((Ite K a).stop i H ∧ D.nx σ H) ∨ ((Ite K a).go i H ∧ ∃ N : L2.St → Hp → Prop, (∀ σ' H', N σ' H' → ∃ m', m' < m ∧ W (i + 1) m' σ' H') ∧ ∀ x H', (Ite K a).yld i H x H' → g x σ H' fun σ2 H2 => tb { D with nx := N, ct := N, bk := D.nx } σ2 H2) := by
  refine ⟨fun i m σ H => m = xs.length - i ∧ i ≤ xs.length ∧ Pv i σ H, ⟨xs.length, by simp, Nat.zero_le _, h0⟩, ?_⟩
  rintro i m σ H ⟨rfl, hi, p⟩
  have q := hl i σ H p
  by_cases hlt : i < xs.length
  · refine .inr ⟨⟨xs, xs[i], q, by simp [hlt]⟩, Pv (i + 1), fun σ' H' p' => ⟨xs.length - (i + 1), by omega, rfl, hlt, p'⟩, fun x H' y => ?_⟩
    obtain ⟨T, u, rfl, hT, rfl, e1⟩ := y
    exact hs i u T σ H (e1 xs q) hT p
  · have e : i = xs.length := by omega
    subst e
    exact .inl ⟨⟨xs, q, Nat.le_refl _⟩, hd σ H p⟩
def rLeL (K : Frag) : R2 := fun x y H Q => ∃ (a b : Addr) (ns ms : List Int), x = .ref a ∧ y = .ref b ∧ SqL K H a (ns.map V.int) ∧ SqL K H b (ms.map V.int) ∧ Q (.bl (lexBy (fun x y => decide (x ≤ y)) (fun x y => decide (x ≤ y)) ns ms)) H
theorem op_leL {X : Cx} (hu : X.A.units < cLine) : OpR X (compareOp .LtE) (rLeL X.K) := by
  intro pins s σ H x y v u Q I rx ry h
  obtain ⟨a, b, ns, ms, rfl, rfl, ha, hb, q⟩ := h
  cases rx
  cases ry
  obtain ⟨its, r1, p1, _⟩ := I.list ha
  obtain ⟨its2, r2, p2, _⟩ := I.list hb
  have i1 : IntsAre its.toArray.toList ns := intsAre_of r1
  have i2 : IntsAre its2.toArray.toList ms := intsAre_of r2
  obtain ⟨⟨cls, dd, data, sl⟩, ho, hc, n, hd⟩ := id p1.isList
  obtain ⟨⟨cls2, dd2, data2, sl2⟩, ho2, hc2, n2, hd2⟩ := id p2.isList
  simp only at hc hd hc2 hd2
  subst hc hd hc2 hd2
  exact richCompare_meets_room (op := .LtE) ⟨_, ho, rfl⟩ ⟨_, ho2, rfl⟩ PySem.F.slot_list_le PySem.F.entry_list_le (PySem.F.args_list_le_2 _ _) (list_le_ints a b its.toArray its2.toArray n n2 dd dd2 sl sl2 ns ms i1 i2)
    ⟨ho, ho2, (fun x => nomatch x), .bl _, H, I, rfl, q⟩ hu
theorem lexBy_before : ∀ a b : List Nat, lexBy (fun x y => decide (x ≤ y)) (fun x y => decide (x ≤ y)) (a.map fun n : Nat => (n : Int)) (b.map fun n : Nat => (n : Int)) = !Sv13.before b a
  | [], b => by cases b <;> rfl
  | x :: r, [] => rfl
  | x :: r, y :: s => by
    show (if (x : Int) = (y : Int) then lexBy _ _ (r.map _) (s.map _) else decide ((x : Int) ≤ (y : Int))) = !(decide (y < x) || (y == x && Sv13.before s r))
    by_cases h : x = y
    · subst h
      rw [if_pos rfl, lexBy_before r s]
      simp
    · have h' : ¬ (x : Int) = (y : Int) := by omega
      have h2 : (y == x) = false := by simp; omega
      rw [if_neg h', h2]
      by_cases hl : y < x
      · rw [decide_eq_true hl, decide_eq_false (by omega)]; rfl
      · rw [decide_eq_false hl, decide_eq_true (by omega)]; rfl
end KL
set_option Elab.async false
set_option linter.all false
set_option maxRecDepth 100000
namespace KL
open PySem PySem.W PyProof.Rows L2
def rEqE (K : Frag) (neg : Bool) : R2 := fun x y H Q => ∃ (a b : Addr) (xs : List V), x = .ref a ∧ y = .ref b ∧ SqL K H a xs ∧ SqL K H b [] ∧ Q (.bl (if neg then !xs.isEmpty else xs.isEmpty)) H
theorem op_eqE {X : Cx} (hu : X.A.units < cLine) : OpR X (compareOp .Eq) (rEqE X.K false) := by
  intro pins s σ H x y v u Q I rx ry h
  obtain ⟨a, b, xs, rfl, rfl, ha, hb, q⟩ := h
  cases rx
  cases ry
  obtain ⟨its, r1, p1, _⟩ := I.list ha
  obtain ⟨its2, r2, p2, _⟩ := I.list hb
  cases r2
  have hlen := r1.length
  cases xs with
  | nil =>
    have : its = [] := List.length_eq_zero_iff.mp hlen.symm
    subst this
    exact SeqAt.RcAt.lists (e := fun _ => true) p1.isList p2.isList rfl hu (fun j h1 => absurd h1 (by simp)) _ _ _ _ ⟨.bl true, H, I, rfl, q⟩
  | cons z zs =>
    exact SeqAt.RcAt.lists_lengths p1.isList p2.isList (by rw [List.length_cons] at hlen; simp only [List.size_toArray, ← hlen]; rfl) hu _ _ _ _ ⟨.bl false, H, I, rfl, q⟩
theorem op_neE {X : Cx} (hu : X.A.units < cLine) : OpR X (compareOp .NotEq) (rEqE X.K true) := by
  intro pins s σ H x y v u Q I rx ry h
  obtain ⟨a, b, xs, rfl, rfl, ha, hb, q⟩ := h
  cases rx
  cases ry
  obtain ⟨its, r1, p1, _⟩ := I.list ha
  obtain ⟨its2, r2, p2, _⟩ := I.list hb
  cases r2
  have hlen := r1.length
  cases xs with
  | nil =>
    have : its = [] := List.length_eq_zero_iff.mp hlen.symm
    subst this
    exact SeqAt.RcNeAt.lists (e := fun _ => true) p1.isList p2.isList rfl hu (fun j h1 => absurd h1 (by simp)) _ _ _ _ ⟨.bl false, H, I, rfl, q⟩
  | cons z zs =>
    exact SeqAt.RcNeAt.lists_lengths p1.isList p2.isList (by rw [List.length_cons] at hlen; simp only [List.size_toArray, ← hlen]; rfl) hu _ _ _ _ ⟨.bl true, H, I, rfl, q⟩
end KL
set_option Elab.async false
set_option linter.all false
set_option maxRecDepth 100000
namespace KL
open PySem PySem.W PyProof.Rows L2
theorem all_get : ∀ {xs ys : List Nat}, xs.length = ys.length → (List.range xs.length).all (fun j => decide (xs.getD j 0 = ys.getD j 0)) = decide (xs = ys) := by
  intro xs ys h
  rw [Bool.eq_iff_iff, List.all_eq_true, decide_eq_true_eq]
  constructor
  · intro q
    refine List.ext_getElem h fun i h1 h2 => ?_
    have := of_decide_eq_true (q i (List.mem_range.mpr h1))
    simpa [List.getD, h1, h2] using this
  · intro e j _
    rw [e]
    exact decide_eq_true rfl
theorem vb_items {l : List Nat} {its : List Value} (r : Vals (vb l) its) {j : Nat} (h : j < its.length) : RelV (V.int ((l.getD j 0 : Nat) : Int)) its[j] := by
  have hl : (vb l).length = its.length := r.length
  have hj : (vb l)[j]? = some (V.int ((l.getD j 0 : Nat) : Int)) := by
    rw [vb_length] at hl
    unfold vb
    rw [List.getElem?_map, List.getElem?_eq_getElem (by omega)]
    simp [List.getD, List.getElem?_eq_getElem (show j < l.length by omega)]
  obtain ⟨u, hu, ru⟩ := r.get hj
  rw [List.getElem?_eq_getElem h] at hu
  cases hu
  exact ru
theorem eqV_int (i j : Nat) : eqV (V.int (i : Int)) (V.int (j : Int)) = decide (i = j) := by
  show (((i : Int) == (j : Int)) : Bool) = _
  by_cases h : i = j
  · subst h
    simp
  · rw [decide_eq_false h]
    have : ¬ (i : Int) = (j : Int) := by omega
    simp [this]
def rEqB (K : Frag) (neg : Bool) : R2 := fun x y H Q => ∃ (a b : Addr) (xs ys : List Nat), x = .ref a ∧ y = .ref b ∧ SqL K H a (vb xs) ∧ SqL K H b (vb ys) ∧ Q (.bl (if neg then !decide (xs = ys) else decide (xs = ys))) H
theorem op_eqB {X : Cx} (hu : X.A.units < cLine) : OpR X (compareOp .Eq) (rEqB X.K false) := by
  intro pins s σ H x y v u Q I rx ry h
  obtain ⟨a, b, xs, ys, rfl, rfl, ha, hb, q⟩ := h
  cases rx
  cases ry
  obtain ⟨its, r1, p1, _⟩ := I.list ha
  obtain ⟨its2, r2, p2, _⟩ := I.list hb
  have h1 := r1.length
  have h2 := r2.length
  rw [vb_length] at h1 h2
  by_cases hl : xs.length = ys.length
  · refine SeqAt.RcAt.lists (e := fun j => decide (xs.getD j 0 = ys.getD j 0)) p1.isList p2.isList (by simp only [List.size_toArray]; omega) hu (fun j k1 k2 => ?_) _ _ _ _ ⟨.bl _, H, I, rfl, ?_⟩
    · rw [← eqV_int]
      have k1' : j < its.length := by simpa using k1
      have k2' : j < its2.length := by simpa using k2
      simp only [List.getElem_toArray]
      exact eqAt_V (vb_items r1 k1') (vb_items r2 k2') rfl rfl
    · rw [List.size_toArray, ← h1, all_get hl]
      exact q
  · have e : decide (xs = ys) = false := decide_eq_false fun z => hl (by rw [z])
    rw [e] at q
    exact SeqAt.RcAt.lists_lengths p1.isList p2.isList (by simp only [List.size_toArray, ← h1, ← h2, bne_iff_ne]; exact hl) hu _ _ _ _ ⟨.bl false, H, I, rfl, q⟩
end KL
set_option Elab.async false
set_option linter.all false
set_option maxRecDepth 100000
namespace KL
open PySem PyProof.Rows
section
open PySem.SeqAt
open PySem.AutoSeq1 (wpAny_loadPart')
open PySem.MeetsSeq PySem.MeetsSeq2 PySem.MeetsSeq3
end
end KL
namespace KL
open PySem PySem.W PyProof.Rows L2
end KL
set_option Elab.async false
set_option linter.all false
set_option maxRecDepth 100000
namespace KL
open PySem PySem.W PyProof.Rows L2
abbrev IsQ (h : Heap) (T : Addr) (a b c d : Value) : Prop := h.get? T = some { cls := .type "tuple", data := .seq #[a, b, c, d] }
structure Z4 (h : Heap) (n l1 l2 l3 l4 : Addr) (x1 x2 x3 x4 : Array Value) (f0 a b c d : Value) (k1 k2 k3 k4 : Nat) : Prop where
  z : IsZip h (n + 6) (n + 4) (n + 5) f0
  ti : IsQ h (n + 4) (.ref n) (.ref (n + 1)) (.ref (n + 2)) (.ref (n + 3))
  tO : IsQ h (n + 5) a b c d
  i1 : h.IsListIter n l1 k1
  i2 : h.IsListIter (n + 1) l2 k2
  i3 : h.IsListIter (n + 2) l3 k3
  i4 : h.IsListIter (n + 3) l4 k4
  q1 : h.IsList l1 x1
  q2 : h.IsList l2 x2
  q3 : h.IsList l3 x3
  q4 : h.IsList l4 x4
  b1 : l1 < n
  b2 : l2 < n
  b3 : l3 < n
  b4 : l4 < n
section
variable {h h' : Heap} {n l1 l2 l3 l4 : Addr} {x1 x2 x3 x4 : Array Value} {f0 f1 a b c d v : Value} {k1 k2 k3 k4 : Nat}
theorem ne6 {m n i : Nat} (q : m < n) : m ≠ n + i := by omega
theorem out6 {c n j : Nat} (q : c < n ∨ n + 6 < c) (hj : j ≤ 6) : c ≠ n + j := by omega
theorem out0 {c n : Nat} (q : c < n ∨ n + 6 < c) : c ≠ n := by omega
theorem nel {m n : Nat} (q : m < n) : m ≠ n := by omega
theorem nij {n i j : Nat} (q : i ≠ j) : n + i ≠ n + j := by omega
theorem n0j {n j : Nat} (q : 0 ≠ j) : n ≠ n + j := by omega
theorem nj0 {n j : Nat} (q : 0 ≠ j) : n + j ≠ n := by omega
theorem Z4.atz (Z : Z4 h n l1 l2 l3 l4 x1 x2 x3 x4 f0 a b c d k1 k2 k3 k4) (S : Heap.ExtBut (n + 6) h h') (hz : IsZip h' (n + 6) (n + 4) (n + 5) f1) : Z4 h' n l1 l2 l3 l4 x1 x2 x3 x4 f1 a b c d k1 k2 k3 k4 :=
  ⟨hz, S _ _ (nij (by decide)) Z.ti, S _ _ (nij (by decide)) Z.tO, Z.i1.extBut S (n0j (by decide)), Z.i2.extBut S (nij (by decide)), Z.i3.extBut S (nij (by decide)), Z.i4.extBut S (nij (by decide)),
    Z.q1.extBut S (ne6 Z.b1), Z.q2.extBut S (ne6 Z.b2), Z.q3.extBut S (ne6 Z.b3), Z.q4.extBut S (ne6 Z.b4), Z.b1, Z.b2, Z.b3, Z.b4⟩
theorem Z4.ato {a' b' c' d' : Value} (Z : Z4 h n l1 l2 l3 l4 x1 x2 x3 x4 f0 a b c d k1 k2 k3 k4) (S : Heap.ExtBut (n + 5) h h') (hz : IsQ h' (n + 5) a' b' c' d') : Z4 h' n l1 l2 l3 l4 x1 x2 x3 x4 f0 a' b' c' d' k1 k2 k3 k4 :=
  ⟨S _ _ (nij (by decide)) Z.z, S _ _ (nij (by decide)) Z.ti, hz, Z.i1.extBut S (n0j (by decide)), Z.i2.extBut S (nij (by decide)), Z.i3.extBut S (nij (by decide)), Z.i4.extBut S (nij (by decide)),
    Z.q1.extBut S (ne6 Z.b1), Z.q2.extBut S (ne6 Z.b2), Z.q3.extBut S (ne6 Z.b3), Z.q4.extBut S (ne6 Z.b4), Z.b1, Z.b2, Z.b3, Z.b4⟩
theorem Z4.at1 (Z : Z4 h n l1 l2 l3 l4 x1 x2 x3 x4 f0 a b c d k1 k2 k3 k4) (S : Heap.ExtBut n h h') (hi : h'.IsListIter n l1 (k1 + 1)) : Z4 h' n l1 l2 l3 l4 x1 x2 x3 x4 f0 a b c d (k1 + 1) k2 k3 k4 :=
  ⟨S _ _ (nj0 (by decide)) Z.z, S _ _ (nj0 (by decide)) Z.ti, S _ _ (nj0 (by decide)) Z.tO, hi, Z.i2.extBut S (nj0 (by decide)), Z.i3.extBut S (nj0 (by decide)), Z.i4.extBut S (nj0 (by decide)),
    Z.q1.extBut S (nel Z.b1), Z.q2.extBut S (nel Z.b2), Z.q3.extBut S (nel Z.b3), Z.q4.extBut S (nel Z.b4), Z.b1, Z.b2, Z.b3, Z.b4⟩
theorem Z4.at2 (Z : Z4 h n l1 l2 l3 l4 x1 x2 x3 x4 f0 a b c d k1 k2 k3 k4) (S : Heap.ExtBut (n + 1) h h') (hi : h'.IsListIter (n + 1) l2 (k2 + 1)) : Z4 h' n l1 l2 l3 l4 x1 x2 x3 x4 f0 a b c d k1 (k2 + 1) k3 k4 :=
  ⟨S _ _ (nij (by decide)) Z.z, S _ _ (nij (by decide)) Z.ti, S _ _ (nij (by decide)) Z.tO, Z.i1.extBut S (n0j (by decide)), hi, Z.i3.extBut S (nij (by decide)), Z.i4.extBut S (nij (by decide)),
    Z.q1.extBut S (ne6 Z.b1), Z.q2.extBut S (ne6 Z.b2), Z.q3.extBut S (ne6 Z.b3), Z.q4.extBut S (ne6 Z.b4), Z.b1, Z.b2, Z.b3, Z.b4⟩
theorem Z4.at3 (Z : Z4 h n l1 l2 l3 l4 x1 x2 x3 x4 f0 a b c d k1 k2 k3 k4) (S : Heap.ExtBut (n + 2) h h') (hi : h'.IsListIter (n + 2) l3 (k3 + 1)) : Z4 h' n l1 l2 l3 l4 x1 x2 x3 x4 f0 a b c d k1 k2 (k3 + 1) k4 :=
  ⟨S _ _ (nij (by decide)) Z.z, S _ _ (nij (by decide)) Z.ti, S _ _ (nij (by decide)) Z.tO, Z.i1.extBut S (n0j (by decide)), Z.i2.extBut S (nij (by decide)), hi, Z.i4.extBut S (nij (by decide)),
    Z.q1.extBut S (ne6 Z.b1), Z.q2.extBut S (ne6 Z.b2), Z.q3.extBut S (ne6 Z.b3), Z.q4.extBut S (ne6 Z.b4), Z.b1, Z.b2, Z.b3, Z.b4⟩
theorem Z4.at4 (Z : Z4 h n l1 l2 l3 l4 x1 x2 x3 x4 f0 a b c d k1 k2 k3 k4) (S : Heap.ExtBut (n + 3) h h') (hi : h'.IsListIter (n + 3) l4 (k4 + 1)) : Z4 h' n l1 l2 l3 l4 x1 x2 x3 x4 f0 a b c d k1 k2 k3 (k4 + 1) :=
  ⟨S _ _ (nij (by decide)) Z.z, S _ _ (nij (by decide)) Z.ti, S _ _ (nij (by decide)) Z.tO, Z.i1.extBut S (n0j (by decide)), Z.i2.extBut S (nij (by decide)), Z.i3.extBut S (nij (by decide)), hi,
    Z.q1.extBut S (ne6 Z.b1), Z.q2.extBut S (ne6 Z.b2), Z.q3.extBut S (ne6 Z.b3), Z.q4.extBut S (ne6 Z.b4), Z.b1, Z.b2, Z.b3, Z.b4⟩
def Kp (n : Addr) (h h' : Heap) : Prop := ∀ c o, c < n ∨ n + 6 < c → h.get? c = some o → h'.get? c = some o
theorem Kp.then {j : Nat} {h h1 h2 : Heap} (K : Kp n h h1) (S : Heap.ExtBut (n + j) h1 h2) (hj : j ≤ 6) : Kp n h h2 := fun c o q e => S c o (out6 q hj) (K c o q e)
theorem Kp.then0 {h h1 h2 : Heap} (K : Kp n h h1) (S : Heap.ExtBut n h1 h2) : Kp n h h2 := fun c o q e => S c o (out0 q) (K c o q e)
end
section
variable {prog : Program} {w : World} {A : Around} {E : Value → Shared → Prop} {s : Shared}
theorem upd_q {T : Addr} {a b c d x : Value} {k : Nat} {Q : Unit → Shared → Prop} (hT : IsQ s.heap T a b c d)
    (hq : ∀ h', h'.get? T = some { cls := .type "tuple", data := .seq ((#[a, b, c, d] : Array Value).setIfInBounds k x) } → Heap.SameBut T s.heap h' → Q () { s with heap := h' }) :
    wpAny (model prog w) A (updateSeq T (·.setIfInBounds k x)) Q E s := by
  refine wpAny_updateSeq hT rfl (hq _ ?_ (Heap.SameBut.update ..))
  rw [Heap.get?_update_self _ hT rfl]
  simp [Obj.mapSeq]
theorem zip4_next {n l1 l2 l3 l4 : Addr} {x1 x2 x3 x4 : Array Value} {a b c d : Value} {k : Nat} {Q : Value → Shared → Prop} (hh : A.handled = none)
    (Z : Z4 s.heap n l1 l2 l3 l4 x1 x2 x3 x4 .none a b c d k k k k)
    (hQ : ∀ v1 v2 v3 v4 h', x1[k]? = some v1 → x2[k]? = some v2 → x3[k]? = some v3 → x4[k]? = some v4 → Z4 h' n l1 l2 l3 l4 x1 x2 x3 x4 (rawInt s.heap.objs.size) v1 v2 v3 v4 (k + 1) (k + 1) (k + 1) (k + 1) →
      IsQ h' s.heap.objs.size v1 v2 v3 v4 → Kp n s.heap h' → Q (.ref s.heap.objs.size) { s with heap := h' })
    (hE : ∀ h' e, (x1[k]? = none ∨ x2[k]? = none ∨ x3[k]? = none ∨ x4[k]? = none) → Kp n s.heap h' → (∃ o, h'.get? e = some o ∧ o.cls = .type "StopIteration") → E (.ref e) { s with heap := h' }) :
    wpAny (model prog w) A (Builtin.«zip.__next__» ⟨[.ref (n + 6)], []⟩) (fun fin s' => ∃ v, fin = .done (.ret v) ∧ Q v s') E s := by
  show wpAny _ _ (field (.ref (n + 6)) 2 >>= _) _ _ _
  refine wpAny_bind (wpAny_field Z.z rfl (x := .bool false) rfl ?_)
  show wpAny _ _ (field (.ref (n + 6)) 3 >>= _) _ _ _
  refine wpAny_bind (wpAny_field Z.z rfl (x := .ref (n + 4)) rfl ?_)
  refine wpAny_bind (wpAny_seqItems Z.ti rfl ?_)
  show wpAny _ _ (Builtin.SmallTypes.ownedTupleIsFree (.ref (n + 6)) >>= _) _ _ _
  refine wpAny_bind ?_
  unfold Builtin.SmallTypes.ownedTupleIsFree
  refine wpAny_bind (wpAny_field Z.z rfl (x := .none) rfl (wpAny_pure ?_))
  simp only [if_true]
  refine wpAny_bind (wpAny_rule (wpAny_bind (wpAny_field Z.z rfl (x := .ref (n + 5)) rfl ?_)))
  refine wpAny_bind (wpAny_setField_rec Z.z (by simp) fun g0 y0 S0 => ?_)
  have Z0 := Z.atz (f1 := .ellipsis) S0.extBut y0
  have K0 : Kp n s.heap g0 := fun c o q e => S0.extBut c o (out6 q (by decide)) e
  have n0 := S0.1
  clear y0 S0
  refine wpAny_bind ?_
  simp only [List.zipIdx_cons, List.zipIdx_nil, List.forIn_cons, List.forIn_nil]
  refine wpAny_bind (wpAny_bind (wpAny_onRaise ?_))
  show wpAny _ _ (Builtin.SmallTypes.nextOf (.ref n) >>= _) _ _ _
  cases e1 : x1[k]? with
  | none =>
    refine wpAny_bind (wpAny_nextOf_list_end hh Z0.i1 Z0.q1 e1 fun g e S he => ?_)
    obtain ⟨oe, hoe, hce⟩ := he
    have hz : IsZip g (n + 6) (n + 4) (n + 5) .ellipsis := S _ _ (nj0 (by decide)) Z0.z
    have hez : e ≠ n + 6 := fun q => by subst q; rw [hz] at hoe; cases hoe; simp at hce
    exact wpAny_setField_rec hz (by simp) fun g' _ S' => hE g' e (.inl e1) ((K0.then0 S).then S'.extBut (by decide)) ⟨oe, S'.extBut _ _ hez hoe, hce⟩
  | some v1 =>
  refine wpAny_bind (wpAny_nextOf_list_item Z0.i1 Z0.q1 e1 fun g1 y1 S1 => wpAny_pure ?_)
  have Z1 := Z0.at1 S1.extBut y1
  have K1 := K0.then0 S1.extBut
  have n1 := S1.1.trans n0
  clear y1 S1 Z0 K0 n0
  refine wpAny_bind (wpAny_seqItems Z1.tO rfl ?_)
  refine wpAny_bind (upd_q Z1.tO fun g1 y1 S1 => ?_)
  replace Z1 := Z1.ato (a' := v1) (b' := b) (c' := c) (d' := d) S1.extBut y1
  replace K1 := K1.then S1.extBut (by decide)
  replace n1 := S1.1.trans n1
  clear y1 S1
  refine wpAny_bind (wpAny_letGo (wpAny_pure ?_))
  refine wpAny_bind (wpAny_bind (wpAny_onRaise ?_))
  show wpAny _ _ (Builtin.SmallTypes.nextOf (.ref (n + 1)) >>= _) _ _ _
  cases e2 : x2[k]? with
  | none =>
    refine wpAny_bind (wpAny_nextOf_list_end hh Z1.i2 Z1.q2 e2 fun g e S he => ?_)
    obtain ⟨oe, hoe, hce⟩ := he
    have hz : IsZip g (n + 6) (n + 4) (n + 5) .ellipsis := S _ _ (nij (by decide)) Z1.z
    have hez : e ≠ n + 6 := fun q => by subst q; rw [hz] at hoe; cases hoe; simp at hce
    exact wpAny_setField_rec hz (by simp) fun g' _ S' => hE g' e (.inr (.inl e2)) ((K1.then S (by decide)).then S'.extBut (by decide)) ⟨oe, S'.extBut _ _ hez hoe, hce⟩
  | some v2 =>
  refine wpAny_bind (wpAny_nextOf_list_item Z1.i2 Z1.q2 e2 fun g2 y2 S2 => wpAny_pure ?_)
  have Z2 := Z1.at2 S2.extBut y2
  have K2 := K1.then S2.extBut (by decide)
  have n2 := S2.1.trans n1
  clear y2 S2 Z1 K1 n1
  refine wpAny_bind (wpAny_seqItems Z2.tO rfl ?_)
  refine wpAny_bind (upd_q Z2.tO fun g2 y2 S2 => ?_)
  replace Z2 := Z2.ato (a' := v1) (b' := v2) (c' := c) (d' := d) S2.extBut y2
  replace K2 := K2.then S2.extBut (by decide)
  replace n2 := S2.1.trans n2
  clear y2 S2
  refine wpAny_bind (wpAny_letGo (wpAny_pure ?_))
  refine wpAny_bind (wpAny_bind (wpAny_onRaise ?_))
  show wpAny _ _ (Builtin.SmallTypes.nextOf (.ref (n + 2)) >>= _) _ _ _
  cases e3 : x3[k]? with
  | none =>
    refine wpAny_bind (wpAny_nextOf_list_end hh Z2.i3 Z2.q3 e3 fun g e S he => ?_)
    obtain ⟨oe, hoe, hce⟩ := he
    have hz : IsZip g (n + 6) (n + 4) (n + 5) .ellipsis := S _ _ (nij (by decide)) Z2.z
    have hez : e ≠ n + 6 := fun q => by subst q; rw [hz] at hoe; cases hoe; simp at hce
    exact wpAny_setField_rec hz (by simp) fun g' _ S' => hE g' e (.inr (.inr (.inl e3))) ((K2.then S (by decide)).then S'.extBut (by decide)) ⟨oe, S'.extBut _ _ hez hoe, hce⟩
  | some v3 =>
  refine wpAny_bind (wpAny_nextOf_list_item Z2.i3 Z2.q3 e3 fun g3 y3 S3 => wpAny_pure ?_)
  have Z3 := Z2.at3 S3.extBut y3
  have K3 := K2.then S3.extBut (by decide)
  have n3 := S3.1.trans n2
  clear y3 S3 Z2 K2 n2
  refine wpAny_bind (wpAny_seqItems Z3.tO rfl ?_)
  refine wpAny_bind (upd_q Z3.tO fun g3 y3 S3 => ?_)
  replace Z3 := Z3.ato (a' := v1) (b' := v2) (c' := v3) (d' := d) S3.extBut y3
  replace K3 := K3.then S3.extBut (by decide)
  replace n3 := S3.1.trans n3
  clear y3 S3
  refine wpAny_bind (wpAny_letGo (wpAny_pure ?_))
  refine wpAny_bind (wpAny_bind (wpAny_onRaise ?_))
  show wpAny _ _ (Builtin.SmallTypes.nextOf (.ref (n + 3)) >>= _) _ _ _
  cases e4 : x4[k]? with
  | none =>
    refine wpAny_bind (wpAny_nextOf_list_end hh Z3.i4 Z3.q4 e4 fun g e S he => ?_)
    obtain ⟨oe, hoe, hce⟩ := he
    have hz : IsZip g (n + 6) (n + 4) (n + 5) .ellipsis := S _ _ (nij (by decide)) Z3.z
    have hez : e ≠ n + 6 := fun q => by subst q; rw [hz] at hoe; cases hoe; simp at hce
    exact wpAny_setField_rec hz (by simp) fun g' _ S' => hE g' e (.inr (.inr (.inr e4))) ((K3.then S (by decide)).then S'.extBut (by decide)) ⟨oe, S'.extBut _ _ hez hoe, hce⟩
  | some v4 =>
  refine wpAny_bind (wpAny_nextOf_list_item Z3.i4 Z3.q4 e4 fun g4 y4 S4 => wpAny_pure ?_)
  have Z5 := Z3.at4 S4.extBut y4
  have K5 := K3.then S4.extBut (by decide)
  have n5 := S4.1.trans n3
  clear y4 S4 Z3 K3 n3
  refine wpAny_bind (wpAny_seqItems Z5.tO rfl ?_)
  refine wpAny_bind (upd_q Z5.tO fun g5 y5 S5 => ?_)
  replace Z5 := Z5.ato (a' := v1) (b' := v2) (c' := v3) (d' := v4) S5.extBut y5
  replace K5 := K5.then S5.extBut (by decide)
  replace n5 := S5.1.trans n5
  clear y5 S5
  refine wpAny_bind (wpAny_letGo (wpAny_pure (wpAny_pure ?_)))
  refine wpAny_bind (wpAny_seqItems Z5.tO rfl (wpAny_bind (wpAny_newTuple ?_)))
  have lz : n + 6 < g5.objs.size := Heap.lt_size Z5.z
  show wpAny _ _ (Builtin.SmallTypes.ownedTupleHandOut (.ref (n + 6)) (.ref g5.objs.size) >>= _) _ _ _
  refine wpAny_bind ?_
  unfold Builtin.SmallTypes.ownedTupleHandOut
  have Sp : Heap.ExtBut (n + 6) g5 (g5.push { cls := .type "tuple", data := .seq #[v1, v2, v3, v4] }) := fun c o _ e => Heap.get?_push_of_some _ e
  have Zp := Z5.atz Sp (Heap.get?_push_of_some _ Z5.z)
  have Kq := K5.then Sp (by decide)
  have Tq : IsQ (g5.push { cls := .type "tuple", data := .seq #[v1, v2, v3, v4] }) g5.objs.size v1 v2 v3 v4 := Heap.get?_push_size _ rfl
  refine wpAny_bind (wpAny_setField_rec Zp.z (by simp) fun g7 y7 S7 => ?_)
  have Z7 := Zp.atz (f1 := rawInt g5.objs.size) S7.extBut y7
  refine wpAny_setField_rec Z7.z (by simp) fun g8 y8 S8 => ?_
  have Z8 := Z7.atz (f1 := rawInt g5.objs.size) S8.extBut y8
  have T8 : IsQ g8 g5.objs.size v1 v2 v3 v4 := S8.extBut _ _ (Nat.ne_of_gt lz) (S7.extBut _ _ (Nat.ne_of_gt lz) Tq)
  have K8 := (Kq.then S7.extBut (by decide)).then S8.extBut (by decide)
  refine wpAny_pure ⟨_, rfl, ?_⟩
  show Q (.ref g5.objs.size) _
  have Z9 : Z4 g8 n l1 l2 l3 l4 x1 x2 x3 x4 (rawInt s.heap.objs.size) v1 v2 v3 v4 (k + 1) (k + 1) (k + 1) (k + 1) := n5 ▸ Z8
  have T9 : IsQ g8 s.heap.objs.size v1 v2 v3 v4 := n5 ▸ T8
  exact Eq.mpr (congrArg (fun m => Q (.ref m) { s with heap := g8 }) n5) (hQ v1 v2 v3 v4 g8 e1 e2 e3 e4 Z9 T9 K8)
theorem next_zip4 {n l1 l2 l3 l4 : Addr} {x1 x2 x3 x4 : Array Value} {a b c d : Value} {k : Nat} {Q : Option Value → Shared → Prop} (hh : A.handled = none)
    (Z : Z4 s.heap n l1 l2 l3 l4 x1 x2 x3 x4 .none a b c d k k k k)
    (hQ : ∀ v1 v2 v3 v4 h', x1[k]? = some v1 → x2[k]? = some v2 → x3[k]? = some v3 → x4[k]? = some v4 → Z4 h' n l1 l2 l3 l4 x1 x2 x3 x4 (rawInt s.heap.objs.size) v1 v2 v3 v4 (k + 1) (k + 1) (k + 1) (k + 1) →
      IsQ h' s.heap.objs.size v1 v2 v3 v4 → Kp n s.heap h' → Q (some (.ref s.heap.objs.size)) { s with heap := h' })
    (hE : ∀ h', (x1[k]? = none ∨ x2[k]? = none ∨ x3[k]? = none ∨ x4[k]? = none) → Kp n s.heap h' → Q none { s with heap := h' }) :
    wpAny (model prog w) A (pyNext (.ref (n + 6))) Q E s := by
  have hT : s.TypeIs (.ref (n + 6)) "zip" := ⟨_, Z.z, rfl⟩
  unfold pyNext
  refine wpAny_bind (wpAny_attempt (wpAny_callSpecial?_slot (name := Str.ofString "__next__") hT F.slot_zip_next (wpAny_call_entry F.slot_zip_next hT F.entry_zip_next
    (zip4_next hh Z (fun v1 v2 v3 v4 g e1 e2 e3 e4 Zg Tg Kg => wpAny_pure (hQ v1 v2 v3 v4 g e1 e2 e3 e4 Zg Tg Kg)) fun g e hn Kg he => ?_) (F.args_zip_next_1 _))))
  obtain ⟨o, ho, hc⟩ := he
  exact wpAny_bind (wpAny_isInstance (T := "StopIteration") (b := true) ⟨o, ho, hc⟩ isSubtype_stop (wpAny_pure (hE g hn Kg)))
end
theorem tcall_zip4 (a b c d : Value) : checkTypeCall "zip" ⟨[a, b, c, d], []⟩ = pure () := by kernel_rfl
theorem ncall_zip4 (a b c d : Value) : checkBuiltinCall "zip.__new__" ⟨[.type "zip", a, b, c, d], []⟩ = pure () := by kernel_rfl
theorem args_init5 (a b c d e : Value) : argsOk "object.__init__" ⟨[a, b, c, d, e], []⟩ := by
  unfold argsOk
  rw [signature?_of (id := "object.__init__") (n := ['_', '_', 't', 'i', 'n', 'i', '_', '_'])
    (o := ['t', 'c', 'e', 'j', 'b', 'o']) (by kernel_rfl) F.owner_object]
  kernel_rfl
abbrev itOb (l : Addr) : Obj := { cls := .type "list_iterator", data := .fields #[.ref l, .int 0 0] }
abbrev zA (h : Heap) (l1 l2 l3 l4 : Addr) : Heap := (((h.push (itOb l1)).push (itOb l2)).push (itOb l3)).push (itOb l4)
abbrev zB (h : Heap) (l1 l2 l3 l4 : Addr) : Heap := (zA h l1 l2 l3 l4).push { cls := .type "tuple", data := .seq #[.ref h.objs.size, .ref (h.push (itOb l1)).objs.size, .ref ((h.push (itOb l1)).push (itOb l2)).objs.size, .ref (((h.push (itOb l1)).push (itOb l2)).push (itOb l3)).objs.size] }
abbrev zC (h : Heap) (l1 l2 l3 l4 : Addr) : Heap := (zB h l1 l2 l3 l4).push { cls := .type "tuple", data := .seq #[.none, .none, .none, .none] }
abbrev zD (h : Heap) (l1 l2 l3 l4 : Addr) : Heap := (zC h l1 l2 l3 l4).push { cls := .type "zip", data := .fields #[.none, .bool false, .bool false, .ref (zA h l1 l2 l3 l4).objs.size, .ref (zB h l1 l2 l3 l4).objs.size] }
set_option maxHeartbeats 4000000 in
theorem meets_zip4 (l1 l2 l3 l4 : Addr) (x1 x2 x3 x4 : Array Value) :
    Meets (Builtin.«zip.__new__» ⟨[.type "zip", .ref l1, .ref l2, .ref l3, .ref l4], []⟩) (fun _ R s => s.heap.IsList l1 x1 ∧ s.heap.IsList l2 x2 ∧ s.heap.IsList l3 x3 ∧ s.heap.IsList l4 x4 ∧
      R (.ok (.ret (.ref (zC s.heap l1 l2 l3 l4).objs.size))) { s with heap := zD s.heap l1 l2 l3 l4 }) :=
  .of_wp fun prog w A R s h => by
    obtain ⟨hp, g, d, tk, os⟩ := s
    obtain ⟨h1, h2, h3, h4, h⟩ := h
    have hsub := sub_zip
    have q1 : Heap.IsList (Shared.heap ⟨hp, g, d, tk, os⟩) l1 x1 := h1
    have q2 : Heap.IsList (Shared.heap ⟨hp.push (itOb l1), g, d, tk, os⟩) l2 x2 := Heap.IsList.push h2 _
    have q3 : Heap.IsList (Shared.heap ⟨(hp.push (itOb l1)).push (itOb l2), g, d, tk, os⟩) l3 x3 := Heap.IsList.push (Heap.IsList.push h3 _) _
    have q4 : Heap.IsList (Shared.heap ⟨((hp.push (itOb l1)).push (itOb l2)).push (itOb l3), g, d, tk, os⟩) l4 x4 := Heap.IsList.push (Heap.IsList.push (Heap.IsList.push h4 _) _) _
    wp_walk using wpAny_pyIter_list q1, wpAny_pyIter_list q2, wpAny_pyIter_list q3, wpAny_pyIter_list q4
    exact ⟨_, rfl, h⟩
section
variable {prog : Program} {w : World} {A : Around} {E : Value → Shared → Prop} {s : Shared}
theorem call_zip4 {l1 l2 l3 l4 : Addr} {x1 x2 x3 x4 : Array Value} {Q : Value → Shared → Prop} (h1 : s.heap.IsList l1 x1) (h2 : s.heap.IsList l2 x2) (h3 : s.heap.IsList l3 x3) (h4 : s.heap.IsList l4 x4)
    (b1 : l1 < s.heap.objs.size) (b2 : l2 < s.heap.objs.size) (b3 : l3 < s.heap.objs.size) (b4 : l4 < s.heap.objs.size)
    (hQ : ∀ h', Z4 h' s.heap.objs.size l1 l2 l3 l4 x1 x2 x3 x4 .none .none .none .none .none 0 0 0 0 → (∀ c o, s.heap.get? c = some o → h'.get? c = some o) → Q (.ref (s.heap.objs.size + 6)) { s with heap := h' }) :
    wpAny (model prog w) A (call (.type "zip") [.ref l1, .ref l2, .ref l3, .ref l4]) Q E s := by
  refine callType_new F.called_zip (by decide) (tcall_zip4 _ _ _ _) (ncall_zip4 _ _ _ _) (fun obj => args_init5 obj _ _ _ _) F.entry_zip_new (meets_zip4 l1 l2 l3 l4 x1 x2 x3 x4) ⟨h1, h2, h3, h4, ?_⟩
  have z1 : (s.heap.push (itOb l1)).objs.size = s.heap.objs.size + 1 := Heap.size_push ..
  have z2 : ((s.heap.push (itOb l1)).push (itOb l2)).objs.size = s.heap.objs.size + 2 := by rw [Heap.size_push, z1]
  have z3 : (((s.heap.push (itOb l1)).push (itOb l2)).push (itOb l3)).objs.size = s.heap.objs.size + 3 := by rw [Heap.size_push, z2]
  have z4 : (zA s.heap l1 l2 l3 l4).objs.size = s.heap.objs.size + 4 := by rw [Heap.size_push, z3]
  have z5 : (zB s.heap l1 l2 l3 l4).objs.size = s.heap.objs.size + 5 := by rw [Heap.size_push, z4]
  have z6 : (zC s.heap l1 l2 l3 l4).objs.size = s.heap.objs.size + 6 := by rw [Heap.size_push, z5]
  have u6 : ∀ c o, (zC s.heap l1 l2 l3 l4).get? c = some o → (zD s.heap l1 l2 l3 l4).get? c = some o := fun c o e => Heap.get?_push_of_some _ e
  have u5 : ∀ c o, (zB s.heap l1 l2 l3 l4).get? c = some o → (zD s.heap l1 l2 l3 l4).get? c = some o := fun c o e => u6 c o (Heap.get?_push_of_some _ e)
  have u4 : ∀ c o, (zA s.heap l1 l2 l3 l4).get? c = some o → (zD s.heap l1 l2 l3 l4).get? c = some o := fun c o e => u5 c o (Heap.get?_push_of_some _ e)
  have u3 : ∀ c o, (((s.heap.push (itOb l1)).push (itOb l2)).push (itOb l3)).get? c = some o → (zD s.heap l1 l2 l3 l4).get? c = some o := fun c o e => u4 c o (Heap.get?_push_of_some _ e)
  have u2 : ∀ c o, ((s.heap.push (itOb l1)).push (itOb l2)).get? c = some o → (zD s.heap l1 l2 l3 l4).get? c = some o := fun c o e => u3 c o (Heap.get?_push_of_some _ e)
  have u1 : ∀ c o, (s.heap.push (itOb l1)).get? c = some o → (zD s.heap l1 l2 l3 l4).get? c = some o := fun c o e => u2 c o (Heap.get?_push_of_some _ e)
  have u0 : ∀ c o, s.heap.get? c = some o → (zD s.heap l1 l2 l3 l4).get? c = some o := fun c o e => u1 c o (Heap.get?_push_of_some _ e)
  have g6 : (zD s.heap l1 l2 l3 l4).get? (zC s.heap l1 l2 l3 l4).objs.size = some _ := Heap.get?_push_size _ rfl
  have g5 : (zD s.heap l1 l2 l3 l4).get? (zB s.heap l1 l2 l3 l4).objs.size = some _ := u6 _ _ (Heap.get?_push_size _ rfl)
  have g4 : (zD s.heap l1 l2 l3 l4).get? (zA s.heap l1 l2 l3 l4).objs.size = some _ := u5 _ _ (Heap.get?_push_size _ rfl)
  have g3 : (zD s.heap l1 l2 l3 l4).get? (((s.heap.push (itOb l1)).push (itOb l2)).push (itOb l3)).objs.size = some _ := u4 _ _ (Heap.get?_push_size _ rfl)
  have g2 : (zD s.heap l1 l2 l3 l4).get? ((s.heap.push (itOb l1)).push (itOb l2)).objs.size = some _ := u3 _ _ (Heap.get?_push_size _ rfl)
  have g1 : (zD s.heap l1 l2 l3 l4).get? (s.heap.push (itOb l1)).objs.size = some _ := u2 _ _ (Heap.get?_push_size _ rfl)
  have g0 : (zD s.heap l1 l2 l3 l4).get? s.heap.objs.size = some _ := u1 _ _ (Heap.get?_push_size _ rfl)
  show _ ∧ _
  rw [z4, z5, z6] at g6
  rw [z1, z2, z3, z4] at g4
  rw [z5] at g5
  rw [z3] at g3
  rw [z2] at g2
  rw [z1] at g1
  rw [z6]
  have up : ∀ {l : Addr} {x : Array Value}, s.heap.IsList l x → (zD s.heap l1 l2 l3 l4).IsList l x := fun q => Heap.IsList.at q (fun o e => u0 _ o e)
  exact ⟨⟨_, g6, rfl⟩, hQ _ ⟨g6, g4, g5, ⟨_, g0, rfl, rfl⟩, ⟨_, g1, rfl, rfl⟩, ⟨_, g2, rfl, rfl⟩, ⟨_, g3, rfl, rfl⟩, up h1, up h2, up h3, up h4, b1, b2, b3, b4⟩ u0⟩
end
end KL
set_option Elab.async false
set_option linter.all false
set_option maxRecDepth 100000
namespace KL
open PySem PySem.W PyProof.Rows L2
def Itz4 (K : Frag) (a b c d : Addr) : It :=
  ⟨fun i H => ∃ (w1 w2 w3 w4 : List V) (x1 x2 x3 x4 : V), (SqL K H a w1 ∧ w1[i]? = some x1) ∧ (SqL K H b w2 ∧ w2[i]? = some x2) ∧ (SqL K H c w3 ∧ w3[i]? = some x3) ∧ (SqL K H d w4 ∧ w4[i]? = some x4),
    fun i H v H' => ∃ T x1 x2 x3 x4, v = .ref T ∧ H T = none ∧ H' = upd H T (.tup [x1, x2, x3, x4]) ∧ (∀ ws, SqL K H a ws → ws[i]? = some x1) ∧ (∀ ws, SqL K H b ws → ws[i]? = some x2) ∧ (∀ ws, SqL K H c ws → ws[i]? = some x3) ∧ ∀ ws, SqL K H d ws → ws[i]? = some x4,
    fun i H => ∃ w1 w2 w3 w4 : List V, SqL K H a w1 ∧ SqL K H b w2 ∧ SqL K H c w3 ∧ SqL K H d w4 ∧ (w1.length ≤ i ∨ w2.length ≤ i ∨ w3.length ≤ i ∨ w4.length ≤ i)⟩
def Zs (h : Heap) (n a b c d : Addr) (i : Nat) : Prop :=
  IsZip h (n + 6) (n + 4) (n + 5) .none ∧ IsQ h (n + 4) (.ref n) (.ref (n + 1)) (.ref (n + 2)) (.ref (n + 3)) ∧ (∃ v1 v2 v3 v4, IsQ h (n + 5) v1 v2 v3 v4) ∧ (h.IsListIter n a i ∧ h.IsListIter (n + 1) b i ∧ h.IsListIter (n + 2) c i ∧ h.IsListIter (n + 3) d i) ∧ a < n ∧ b < n ∧ c < n ∧ d < n
def fp4 (n : Addr) : List Addr := [n + 6, n + 4, n + 5, n, n + 1, n + 2, n + 3]
theorem mem_fp4 {n c : Nat} (h : c ∈ fp4 n) : c = n + 6 ∨ c = n + 4 ∨ c = n + 5 ∨ c = n ∨ c = n + 1 ∨ c = n + 2 ∨ c = n + 3 := by simpa [fp4] using h
theorem fp4_out {n c : Nat} (h : c ∉ fp4 n) : c < n ∨ n + 6 < c := by
  simp only [fp4, List.mem_cons, List.not_mem_nil, or_false] at h
  omega
theorem fp4_lt {n c m : Nat} (h : c ∈ fp4 n) (hm : n + 6 < m) : c < m := by
  have := mem_fp4 h
  omega
theorem le_none {α : Type} {l : List α} {i : Nat} (h : l.length ≤ i) : l.toArray[i]? = none := by simp; exact h
theorem get_arr {α : Type} {l : List α} {i : Nat} {x : α} (h : l[i]? = some x) : l.toArray[i]? = some x := by simpa using h
theorem turn_zip4 {P : Program} {w : World} {K : Frag} {elts : List Expr} {kk : Nat} {tpos : Pos} {n a b c d : Addr} :
    Turn P w K (.Tuple elts kk tpos) (Itz4 K a b c d) (fp4 n) (n + 6) (fun i h => Zs h n a b c d i) where
  mem := by simp [fp4]
  obj := fun i h st y hy => by
    obtain ⟨hz, hti, ⟨v1, v2, v3, v4, hto⟩, ⟨⟨o1, e1, _, d1⟩, ⟨o2, e2, _, d2⟩, ⟨o3, e3, _, d3⟩, ⟨o4, e4, _, d4⟩⟩, _⟩ := st
    rcases mem_fp4 hy with q | q | q | q | q | q | q
    · rw [q]; exact ⟨_, hz, fun v q => nomatch q⟩
    · rw [q]; exact ⟨_, hti, fun v q => nomatch q⟩
    · rw [q]; exact ⟨_, hto, fun v q => nomatch q⟩
    · rw [q]; exact ⟨o1, e1, fun v q => by rw [d1] at q; cases q⟩
    · rw [q]; exact ⟨o2, e2, fun v q => by rw [d2] at q; cases q⟩
    · rw [q]; exact ⟨o3, e3, fun v q => by rw [d3] at q; cases q⟩
    · rw [q]; exact ⟨o4, e4, fun v q => by rw [d4] at q; cases q⟩
  keep := fun i h h' st k => by
    obtain ⟨hz, hti, ⟨v1, v2, v3, v4, hto⟩, ⟨h1, h2, h3, h4⟩, hl⟩ := st
    have m : ∀ {y : Addr}, y ∈ fp4 n → ∀ o, h.get? y = some o → h'.get? y = some o := fun hy o e => k _ hy o e
    exact ⟨m (by simp [fp4]) _ hz, m (by simp [fp4]) _ hti, ⟨v1, v2, v3, v4, m (by simp [fp4]) _ hto⟩, ⟨h1.at (m (by simp [fp4])), h2.at (m (by simp [fp4])), h3.at (m (by simp [fp4])), h4.at (m (by simp [fp4]))⟩, hl⟩
  item := by
    intro X hP hw hK hc i pins s σ H E I hf st hg
    subst hP hw hK
    obtain ⟨hz, hti, ⟨v1, v2, v3, v4, hto⟩, ⟨h1, h2, h3, h4⟩, b1, b2, b3, b4⟩ := st
    obtain ⟨w1, w2, w3, w4, x1, x2, x3, x4, ⟨hq1, hx1⟩, ⟨hq2, hx2⟩, ⟨hq3, hx3⟩, ⟨hq4, hx4⟩⟩ := hg
    obtain ⟨y1, r1, p1, _⟩ := I.list hq1
    obtain ⟨y2, r2, p2, _⟩ := I.list hq2
    obtain ⟨y3, r3, p3, _⟩ := I.list hq3
    obtain ⟨y4, r4, p4, _⟩ := I.list hq4
    obtain ⟨u1, hu1, ru1⟩ := r1.get hx1
    obtain ⟨u2, hu2, ru2⟩ := r2.get hx2
    obtain ⟨u3, hu3, ru3⟩ := r3.get hx3
    obtain ⟨u4, hu4, ru4⟩ := r4.get hx4
    have lz : n + 6 < s.heap.objs.size := Heap.lt_size hz
    have Z : Z4 s.heap n a b c d y1.toArray y2.toArray y3.toArray y4.toArray .none v1 v2 v3 v4 i i i i := ⟨hz, hti, hto, h1, h2, h3, h4, p1.isList, p2.isList, p3.isList, p4.isList, b1, b2, b3, b4⟩
    refine next_zip4 (I.ok.hd hc) Z (fun z1 z2 z3 z4 h' e1 e2 e3 e4 Z' T' K' => ?_) fun h' hn _ => ?_
    · rw [get_arr hu1] at e1; rw [get_arr hu2] at e2; rw [get_arr hu3] at e3; rw [get_arr hu4] at e4
      cases e1; cases e2; cases e3; cases e4
      refine ⟨_, rfl, wpAny_letOwnedTupleGo_zip (s := { s with heap := h' }) Z'.z fun h'' z'' sb => ?_⟩
      have Zn := Z'.atz (f1 := .none) sb.extBut z''
      have T2 : IsQ h'' s.heap.objs.size u1 u2 u3 u4 := (sb.2 _ (Nat.ne_of_gt lz)).trans T'
      have K2 : Kp n s.heap h'' := K'.then sb.extBut (by decide)
      have new : ObjOk X.prog X.w (upd H s.heap.objs.size (.tup [x1, x2, x3, x4])) h'' s.heap.objs.size (.tup [x1, x2, x3, x4]) :=
        ⟨by show 4 ≤ sizeLine; decide, [u1, u2, u3, u4], .cons ru1 (.cons ru2 (.cons ru3 (.cons ru4 .nil))), ⟨_, T2, rfl, _, rfl⟩⟩
      have I1 : Inv X pins σ (upd H s.heap.objs.size (.tup [x1, x2, x3, x4])) { s with heap := h'' } :=
        I.turnedNew (t' := s.toks) (ch := fp4 n) (fun y o hy q => K2 y o (fp4_out hy) q) hf (Nat.le_refl _) new
      refine ⟨.ref s.heap.objs.size, _, I1, rfl, ⟨_, x1, x2, x3, x4, rfl, I.hok.fresh (Nat.le_refl _), rfl, fun l hl => by rw [I.list_inj hl hq1]; exact hx1, fun l hl => by rw [I.list_inj hl hq2]; exact hx2, fun l hl => by rw [I.list_inj hl hq3]; exact hx3, fun l hl => by rw [I.list_inj hl hq4]; exact hx4⟩,
        ⟨Zn.z, Zn.ti, ⟨_, _, _, _, Zn.tO⟩, ⟨Zn.i1, Zn.i2, Zn.i3, Zn.i4⟩, b1, b2, b3, b4⟩, fun y hy => ?_⟩
      rw [upd_ne (Nat.ne_of_lt (fp4_lt hy lz))]
      exact (hf y hy).1
    · rw [get_arr hu1, get_arr hu2, get_arr hu3, get_arr hu4] at hn
      rcases hn with q | q | q | q <;> cases q
  done := by
    intro X hP hw hK hc i pins s σ H E I hf st hg
    subst hP hw hK
    obtain ⟨hz, hti, ⟨v1, v2, v3, v4, hto⟩, ⟨h1, h2, h3, h4⟩, b1, b2, b3, b4⟩ := st
    obtain ⟨w1, w2, w3, w4, hq1, hq2, hq3, hq4, hend⟩ := hg
    obtain ⟨y1, r1, p1, _⟩ := I.list hq1
    obtain ⟨y2, r2, p2, _⟩ := I.list hq2
    obtain ⟨y3, r3, p3, _⟩ := I.list hq3
    obtain ⟨y4, r4, p4, _⟩ := I.list hq4
    have l1 := r1.length
    have l2 := r2.length
    have l3 := r3.length
    have l4 := r4.length
    have Z : Z4 s.heap n a b c d y1.toArray y2.toArray y3.toArray y4.toArray .none v1 v2 v3 v4 i i i i := ⟨hz, hti, hto, h1, h2, h3, h4, p1.isList, p2.isList, p3.isList, p4.isList, b1, b2, b3, b4⟩
    refine next_zip4 (I.ok.hd hc) Z (fun z1 z2 z3 z4 h' e1 e2 e3 e4 _ _ _ => ?_) fun h' hn K' => ⟨rfl, I.turnedL (t' := s.toks) (ch := fp4 n) (fun y o hy q => K' y o (fp4_out hy) q) hf⟩
    rcases hend with q | q | q | q
    · rw [le_none (by omega)] at e1; cases e1
    · rw [le_none (by omega)] at e2; cases e2
    · rw [le_none (by omega)] at e3; cases e3
    · rw [le_none (by omega)] at e4; cases e4
  self := fun A i s Q E st h => wpAny_pyIter_zip st.1 h
def iZip4 (K : Frag) (ta : TA) : TI := fun σ H R => ta σ H fun vs H1 => ∃ a b c d w1 w2 w3 w4, vs = [.ref a, .ref b, .ref c, .ref d] ∧ SqL K H1 a w1 ∧ SqL K H1 b w2 ∧ SqL K H1 c w3 ∧ SqL K H1 d w4 ∧ R (Itz4 K a b c d) H1
theorem pi_zip4 {X : Cx} {e e2 e3 e4 : Expr} {ta : TA} {p pos tpos : Pos} {elts : List Expr} {kk : Nat} (hg : Gl X "zip") (hm : X.mg "zip" = none) (ha : PA X [e, e2, e3, e4] ta)
    (hs : starEach [e, e2, e3, e4] X.env = (false, eval e X.env) :: starEach [e2, e3, e4] X.env := by rfl) (hpl : (backTo pos (starEach [e2, e3, e4] X.env)).any (·.1) = false := by rfl) :
    PI X (.Tuple elts kk tpos) (.Call (.Name "zip" p) [e, e2, e3, e4] [] pos) (iZip4 X.K ta) := by
  intro pins s σ H R I h
  refine Call_ (ld_blt I hg hm boot_zip5 (PyProof.Rows.callWith_type1 (thn (ha pos pins s σ H _ I h) fun us s1 hqq => ?_) hs hpl))
  obtain ⟨vs, H1, I1, r1, q1⟩ := hqq
  obtain ⟨a, b, c, d, w1, w2, w3, w4, ex, hq1, hq2, hq3, hq4, q⟩ := q1
  subst ex
  cases r1 with
  | cons r1 rr =>
    cases rr with
    | cons r2 rr =>
      cases rr with
      | cons r3 rr =>
        cases rr with
        | cons r4 rr =>
          cases rr
          cases r1; cases r2; cases r3; cases r4
          obtain ⟨y1, r1, p1, _⟩ := I1.list hq1
          obtain ⟨y2, r2, p2, _⟩ := I1.list hq2
          obtain ⟨y3, r3, p3, _⟩ := I1.list hq3
          obtain ⟨y4, r4, p4, _⟩ := I1.list hq4
          refine call_zip4 p1.isList p2.isList p3.isList p4.isList p1.lt p2.lt p3.lt p4.lt fun h' Z hk => wpAny_pyIter_zip Z.z ?_
          have I2 : Inv X pins σ H1 { s1 with heap := h' } := I1.kept (t' := s1.toks) hk
          refine ⟨s1.heap.objs.size + 6, fp4 s1.heap.objs.size, _, _, H1, rfl, I2, turn_zip4, ⟨Z.z, Z.ti, ⟨_, _, _, _, Z.tO⟩, ⟨Z.i1, Z.i2, Z.i3, Z.i4⟩, p1.lt, p2.lt, p3.lt, p4.lt⟩, fun y hy => ?_, q⟩
          have hle : s1.heap.objs.size ≤ y := by
            have := mem_fp4 hy
            rcases this with z | z | z | z | z | z | z <;> (rw [z]; first | exact Nat.le_add_right _ _ | exact Nat.le_refl _)
          exact I1.fpOk hle (I1.hok.fresh hle)
end KL
set_option Elab.async false
set_option linter.all false
set_option maxRecDepth 100000
namespace KL
open PySem PySem.W PyProof.Rows L2
def stp {α : Type} (r : Nat) (l : List α) : List α := (List.range ((l.length - r + 3) / 4)).filterMap fun i => l[r + 4 * i]?
theorem fm_range {α : Type} (f : Nat → Option α) : ∀ n : Nat, (∀ i, i < n → f i ≠ none) → ((List.range n).filterMap f).length = n ∧ ∀ i, i < n → ((List.range n).filterMap f)[i]? = f i
  | 0, _ => ⟨rfl, fun i h => absurd h (Nat.not_lt_zero i)⟩
  | n + 1, h => by
    obtain ⟨h1, h2⟩ := fm_range f n fun i q => h i (Nat.lt_succ_of_lt q)
    cases q : f n with
    | none => exact absurd q (h n (Nat.lt_succ_self n))
    | some x =>
      have e : (List.range (n + 1)).filterMap f = (List.range n).filterMap f ++ [x] := by rw [List.range_succ, List.filterMap_append]; simp [q]
      rw [e]
      refine ⟨by rw [List.length_append, h1]; rfl, fun i hi => ?_⟩
      by_cases hl : i < n
      · rw [List.getElem?_append_left (by rw [h1]; exact hl)]
        exact h2 i hl
      · have : i = n := by omega
        subst this
        rw [List.getElem?_append_right (by rw [h1]; exact Nat.le_refl _), h1, Nat.sub_self, q]
        rfl
theorem stp_some {α : Type} {r : Nat} {l : List α} {i : Nat} (h : i < (l.length - r + 3) / 4) : l[r + 4 * i]? ≠ none := by
  intro q
  rw [List.getElem?_eq_none_iff] at q
  omega
theorem stp_get {α : Type} (r : Nat) (l : List α) (i : Nat) : (stp r l)[i]? = l[r + 4 * i]? := by
  have h := fm_range (fun i => l[r + 4 * i]?) ((l.length - r + 3) / 4) fun i q => stp_some q
  by_cases hi : i < (l.length - r + 3) / 4
  · exact h.2 i hi
  · have e1 : l[r + 4 * i]? = none := List.getElem?_eq_none_iff.mpr (by omega)
    rw [e1, List.getElem?_eq_none_iff]
    show ((List.range ((l.length - r + 3) / 4)).filterMap fun i => l[r + 4 * i]?).length ≤ i
    rw [h.1]
    omega
theorem stp_length {α : Type} (r : Nat) (l : List α) : (stp r l).length = (l.length - r + 3) / 4 := (fm_range (fun i => l[r + 4 * i]?) ((l.length - r + 3) / 4) fun i q => stp_some q).1
theorem vals_fm {xs : List V} {us : List Value} (g : Nat → Nat) (v : Vals xs us) : ∀ ns : List Nat, Vals (ns.filterMap fun i => xs[g i]?) (ns.filterMap fun i => us[g i]?)
  | [] => .nil
  | n :: ns => by
    have ih := vals_fm g v ns
    have hl := v.length
    cases q : xs[g n]? with
    | none =>
      have q2 : us[g n]? = none := by rw [List.getElem?_eq_none_iff] at q ⊢; omega
      rw [List.filterMap_cons_none (f := fun i => xs[g i]?) q, List.filterMap_cons_none (f := fun i => us[g i]?) q2]
      exact ih
    | some x =>
      obtain ⟨u, hu, ru⟩ := v.get q
      rw [List.filterMap_cons_some (f := fun i => xs[g i]?) q, List.filterMap_cons_some (f := fun i => us[g i]?) hu]
      exact .cons ru ih
theorem vals_stp {xs : List V} {us : List Value} (r : Nat) (v : Vals xs us) : Vals (stp r xs) (stp r us) := by
  have := vals_fm (fun i => r + 4 * i) v (List.range ((xs.length - r + 3) / 4))
  unfold stp
  rw [← v.length]
  exact this
theorem pick4 (its : List Value) (r : Nat) : slicePick its.toArray (some (r : Int)) none (some 4) = (stp r its).toArray := by
  have hb : sliceBounds (some (r : Int)) none (some 4) its.toArray.size = (((min r its.length : Nat) : Int), ((its.length : Nat) : Int), 4) := by
    unfold sliceBounds
    simp only [Option.getD_some, show (4 : Int) > 0 by decide, if_true, List.size_toArray]
    have h : ¬ ((r : Int) < 0) := by omega
    simp only [h, if_false]
    refine Prod.ext ?_ rfl
    show max 0 (min (r : Int) (its.length : Int)) = ((min r its.length : Nat) : Int)
    omega
  unfold slicePick stp
  rw [hb]
  refine congrArg List.toArray ?_
  unfold sliceRange
  simp only [show (4 : Int) > 0 by decide, if_true]
  rw [List.filterMap_map]
  by_cases hr : r < its.length
  · have hm : min r its.length = r := Nat.min_eq_left (Nat.le_of_lt hr)
    rw [hm, if_pos (by omega)]
    have hc : (((its.length : Int) - (r : Int) + 4 - 1) / 4).toNat = (its.length - r + 3) / 4 := by omega
    rw [hc]
    refine congrArg (fun f => List.filterMap f _) ?_
    funext k
    have hk : ((r : Int) + 4 * (k : Int)).toNat = r + 4 * k := by omega
    show its.toArray[((r : Int) + 4 * (k : Int)).toNat]? = _
    rw [hk]
    simp
  · have hm : min r its.length = its.length := Nat.min_eq_right (by omega)
    rw [hm, if_neg (by omega)]
    have hc : (its.length - r + 3) / 4 = 0 := by omega
    rw [hc]
    rfl
def tSl4 (K : Frag) (te : TE) (tl ts : TO) : TE := fun σ H Q => te σ H fun x H1 => tl σ H1 fun l H2 => ts σ H2 fun st H3 => ∃ (r : Nat) (a : Addr) (xs : List V), l = some (r : Int) ∧ st = some 4 ∧ x = .ref a ∧ SqL K H3 a xs ∧ ∀ p, H3 p = none → Q (.ref p) (upd H3 p (.lst (stp r xs)))
theorem pe_slice4 {X : Cx} {e : Expr} {te : TE} {lo : Option Expr} {st : Expr} {tl ts : TO} {pos p2 : Pos} (he : PE X e te) (hl : PO X lo tl) (ht : PO X (some st) ts) : PE X (.Subscript e (.Slice lo none (some st) p2) pos) (tSl4 X.K te tl ts) := by
  intro pins s σ H Q I h
  refine Subscript_ (thn (he pins s σ H _ I h) fun v s1 hqq => ?_)
  obtain ⟨x, H1, I1, r1, q1⟩ := hqq
  refine wpAny_Slice (thn (hl pins s1 σ H1 _ I1 q1) fun vl s2 hqq => ?_)
  obtain ⟨l, H2, I2, pl, q2⟩ := hqq
  rw [evalPart_none]
  refine wpAny_pure (thn (ht pins s2 σ H2 _ I2 q2) fun vt s3 hqq => ?_)
  obtain ⟨u, H3, I3, pu, q3⟩ := hqq
  obtain ⟨r, a, xs, rfl, rfl, rfl, hx, q⟩ := q3
  cases r1
  have I4 : Inv X pins σ H3 { s3 with heap := s3.heap.push { cls := .type "slice", data := .fields #[vl, .none, vt] } } := I3.kept (t' := s3.toks) fun b ob q => Heap.get?_push_of_some _ q
  obtain ⟨its, rv, p, hz⟩ := I4.list hx
  have hlen := rv.length
  show wpAny (model X.prog X.w) X.A (subscriptTail e (.Slice lo none (some st) p2) (.ref a) (.ref s3.heap.objs.size)) (EP X pins σ Q) X.xe { s3 with heap := s3.heap.push { cls := .type "slice", data := .fields #[vl, .none, vt] } }
  refine tail_any (ops := [.ref a, .ref s3.heap.objs.size]) p.isList.typeIs slot_list_getitem.lookup ?_ (by with_unfolding_all rfl)
  refine wpAny_getItem_list_slice (lo := some (r : Int)) (hi := none) (st := some 4) p.isList (Heap.IsSliceOf.new ..) pl .none pu (by simp) ?_ (by rw [List.size_toArray] <;> omega)
  rw [pick4]
  refine ⟨.ref (s3.heap.push { cls := .type "slice", data := .fields #[vl, .none, vt] }).objs.size, _, I4.laid (t' := s3.toks) (o := .lst (stp r xs)) (fun b ob q => Heap.get?_push_of_some _ q) (Nat.le_refl _) ?_, rfl, q _ (I4.hok.fresh (Nat.le_refl _))⟩
  refine ⟨Nat.le_trans ?_ hz, _, 0, vals_stp r rv, Heap.get?_push_size _ rfl⟩
  rw [stp_length]
  omega
end KL
set_option Elab.async false
set_option linter.all false
set_option maxRecDepth 100000
namespace KL
open PySem PySem.W PyProof.Rows L2
def isByte (l : List Nat) : Prop := ∀ x ∈ l, x < 256
def newL (xs : List V) (H : Hp) (Q : VK) : Prop := ∀ (l : Addr) (H' : Hp), Same H H' → H l = none → H' l = some (.lst xs) → Q (.ref l) H'
def anyT (a : Addr) (xs : List V) (H : Hp) (Q : VK) : Prop := ∀ (l : Addr) (H' : Hp), Same H H' → (l = a ∨ H l = none) → H' l = some (.lst xs) → Q (.ref l) H'
theorem vb_snoc (l : List Nat) {z : Int} {n : Nat} (e : z = (n : Int)) : some (HO.lst (vb l ++ [V.int z])) = some (HO.lst (vb (l ++ [n]))) := by
  rw [vb_append, e]
  rfl
theorem pow8 (i : Nat) : (2 : Int) ^ (8 * i) = ((256 ^ i : Nat) : Int) := by
  rw [show (256 : Nat) ^ i = 2 ^ (8 * i) from (Nat.pow_mul 2 8 i).symm]
  simp
theorem lt_size {n : Nat} (h : n ≤ 16777215) : n < sizeLine := by
  show n < 2 ^ 24
  omega
theorem le_size {n : Nat} (h : n ≤ 16777216) : n ≤ sizeLine := by
  show n ≤ 2 ^ 24
  omega
theorem common_at : ∀ (a b : List Nat) (i : Nat), (∀ j, j < i → a[j]? = b[j]? ∧ a[j]? ≠ none) → Sv13.common a b = i + Sv13.common (a.drop i) (b.drop i)
  | a, b, 0, _ => by simp
  | a, b, i + 1, h => by
    cases a with
    | nil => exact absurd rfl (h 0 (by omega)).2
    | cons x r =>
      cases b with
      | nil =>
        have := (h 0 (by omega)).1
        simp at this
      | cons y s =>
        have e : x = y := by
          have := (h 0 (by omega)).1
          simpa using this
        subst e
        have ih := common_at r s i fun j hj => by
          have := h (j + 1) (by omega)
          simpa using this
        show (if x = x then Sv13.common r s + 1 else 0) = i + 1 + Sv13.common (r.drop i) (s.drop i)
        rw [if_pos rfl, ih]
        omega
theorem common_ne {a b : List Nat} {i x y : Nat} (h : ∀ j, j < i → a[j]? = b[j]? ∧ a[j]? ≠ none) (hx : a[i]? = some x) (hy : b[i]? = some y) (hne : x ≠ y) : Sv13.common a b = i := by
  rw [common_at a b i h]
  obtain ⟨h1, e1⟩ := List.getElem?_eq_some_iff.mp hx
  obtain ⟨h2, e2⟩ := List.getElem?_eq_some_iff.mp hy
  rw [List.drop_eq_getElem_cons h1, List.drop_eq_getElem_cons h2, e1, e2]
  unfold Sv13.common
  rw [if_neg hne]
  rfl
theorem common_end {a b : List Nat} {i : Nat} (h : ∀ j, j < i → a[j]? = b[j]? ∧ a[j]? ≠ none) (he : a.length ≤ i ∨ b.length ≤ i) : Sv13.common a b = i := by
  rw [common_at a b i h]
  rcases he with he | he
  · rw [List.drop_eq_nil_of_le he]
    rfl
  · rw [List.drop_eq_nil_of_le he]
    cases a.drop i <;> rfl
theorem cut_to {xs : List V} {n : Nat} : cutV xs none (some (n : Int)) = xs.take n := by
  unfold cutV
  show (xs.drop 0).take ((if (n : Int) < 0 then ((n : Int) + (xs.length : Int)).toNat else min (n : Int).toNat xs.length) - 0) = _
  rw [if_neg (by omega), List.drop_zero, Nat.sub_zero]
  have e : (n : Int).toNat = n := Int.toNat_natCast n
  rw [e]
  by_cases h : n ≤ xs.length
  · rw [Nat.min_eq_left h]
  · rw [Nat.min_eq_right (by omega), List.take_of_length_le (Nat.le_refl _), List.take_of_length_le (by omega)]
theorem cut_from {xs : List V} {n : Nat} : cutV xs (some (n : Int)) none = xs.drop n := by
  unfold cutV
  show (xs.drop (if (n : Int) < 0 then ((n : Int) + (xs.length : Int)).toNat else min (n : Int).toNat xs.length)).take (xs.length - (if (n : Int) < 0 then ((n : Int) + (xs.length : Int)).toNat else min (n : Int).toNat xs.length)) = _
  rw [if_neg (by omega)]
  have e : (n : Int).toNat = n := Int.toNat_natCast n
  rw [e]
  by_cases h : n ≤ xs.length
  · rw [Nat.min_eq_left h, List.take_of_length_le (by rw [List.length_drop]; omega)]
  · rw [Nat.min_eq_right (by omega), List.drop_eq_nil_of_le (Nat.le_refl _), List.drop_eq_nil_of_le (by omega), List.take_nil]
theorem cut_both {xs : List V} {i j : Nat} (hij : i ≤ j) (hj : j ≤ xs.length) : cutV xs (some (i : Int)) (some (j : Int)) = (xs.drop i).take (j - i) := by
  unfold cutV
  show (xs.drop (if (i : Int) < 0 then ((i : Int) + (xs.length : Int)).toNat else min (i : Int).toNat xs.length)).take ((if (j : Int) < 0 then ((j : Int) + (xs.length : Int)).toNat else min (j : Int).toNat xs.length) - (if (i : Int) < 0 then ((i : Int) + (xs.length : Int)).toNat else min (i : Int).toNat xs.length)) = _
  rw [if_neg (by omega), if_neg (by omega)]
  have e : (i : Int).toNat = i := Int.toNat_natCast i
  have e2 : (j : Int).toNat = j := Int.toNat_natCast j
  rw [e, e2, Nat.min_eq_left (show i ≤ xs.length by omega), Nat.min_eq_left hj]
theorem vb_take (l : List Nat) (n : Nat) : vb (l.take n) = (vb l).take n := List.map_take
theorem vb_drop (l : List Nat) (n : Nat) : vb (l.drop n) = (vb l).drop n := List.map_drop
theorem vb_slice (l : List Nat) (i n : Nat) : vb (Sv13.slice l i n) = ((vb l).drop i).take n := by
  unfold Sv13.slice
  rw [vb_take, vb_drop]
theorem vb_at {l : List Nat} {i x : Nat} (h : l[i]? = some x) : atI (vb l) (i : Int) = some (V.int (x : Int)) := by
  refine atI_nat ?_
  unfold vb
  rw [List.getElem?_map, h]
  rfl
theorem crc_snoc (bs : List Nat) (b c : Nat) : (bs ++ [b]).foldl Sv13.crcByte c = Sv13.crcByte (bs.foldl Sv13.crcByte c) b := by rw [List.foldl_append]; rfl
theorem and32 (a : Nat) : Builtin.bitAnd (a : Int) 4294967295 = ((a % 2 ^ 32 : Nat) : Int) := by
  rw [bitAnd_m32]
  omega
theorem masked_eq {c : Nat} (hc : c < 2 ^ 32) : Builtin.bitAnd (Builtin.bitOr ((c : Int) / 2 ^ (15 : Int).toNat) (Builtin.bitAnd ((c : Int) * 2 ^ (17 : Int).toNat) 4294967295) + 2726488792) 4294967295 = ((Sv13.masked c : Nat) : Int) := by
  have e1 : (c : Int) / 2 ^ (15 : Int).toNat = ((c / 2 ^ 15 : Nat) : Int) := by
    show (c : Int) / 32768 = _
    omega
  have e2 : (c : Int) * 2 ^ (17 : Int).toNat = ((c * 2 ^ 17 : Nat) : Int) := by
    show (c : Int) * 131072 = _
    omega
  rw [e1, e2, and32, or_nat, My.turn_or hc (by decide) rfl]
  have e3 : ((c / 2 ^ 15 + c * 2 ^ 17 % 2 ^ 32 : Nat) : Int) + 2726488792 = ((c / 2 ^ 15 + c * 2 ^ 17 % 2 ^ 32 + 2726488792 : Nat) : Int) := by omega
  rw [e3, and32]
  rfl
theorem between_eq {a b : List Nat} (hb : isByte b) : Sv13.between a b = if a.length ≤ Sv13.common a b ∨ b.length ≤ Sv13.common a b then a else if a.getD (Sv13.common a b) 0 + 1 < b.getD (Sv13.common a b) 0 then a.take (Sv13.common a b) ++ [a.getD (Sv13.common a b) 0 + 1] else a := by
  show (if a.length ≤ Sv13.common a b ∨ b.length ≤ Sv13.common a b then a else if a.getD (Sv13.common a b) 0 + 1 < b.getD (Sv13.common a b) 0 ∧ a.getD (Sv13.common a b) 0 < 255 then a.take (Sv13.common a b) ++ [a.getD (Sv13.common a b) 0 + 1] else a) = _
  split
  · rfl
  · rename_i h
    have hl : Sv13.common a b < b.length := by omega
    have h1 : b.getD (Sv13.common a b) 0 < 256 := by
      have : b.getD (Sv13.common a b) 0 = b[Sv13.common a b] := by simp [List.getD, hl]
      rw [this]
      exact hb _ (List.getElem_mem _)
    by_cases h2 : a.getD (Sv13.common a b) 0 + 1 < b.getD (Sv13.common a b) 0
    · rw [if_pos h2, if_pos ⟨h2, by omega⟩]
    · rw [if_neg h2, if_neg fun z => h2 z.1]
theorem behind_at {a : List Nat} {i x : Nat} (h : ∀ j, j < i → a[j]? = some 255) (hx : a[i]? = some x) (hne : x ≠ 255) : Sv13.behind a = a.take i ++ [x + 1] := by
  have hi : i < a.length := (List.getElem?_eq_some_iff.mp hx).1
  have e : a[i] = x := (List.getElem?_eq_some_iff.mp hx).2
  have hf : a.findIdx? (fun c => c != 255) = some i := by
    rw [List.findIdx?_eq_some_iff_getElem]
    refine ⟨hi, by rw [e]; simp [hne], fun j hj => ?_⟩
    have h1 := h j hj
    have e1 : a[j] = 255 := (List.getElem?_eq_some_iff.mp h1).2
    simp [e1]
  unfold Sv13.behind
  rw [hf]
  simp [List.getD, hx]
theorem behind_all {a : List Nat} (h : ∀ j, j < a.length → a[j]? = some 255) : Sv13.behind a = a := by
  have hf : a.findIdx? (fun c => c != 255) = none := by
    rw [List.findIdx?_eq_none_iff]
    intro x hx
    obtain ⟨j, hj, e⟩ := List.mem_iff_getElem.mp hx
    have h1 := h j hj
    have e1 : a[j] = 255 := (List.getElem?_eq_some_iff.mp h1).2
    rw [← e, e1]
    rfl
  unfold Sv13.behind
  rw [hf]
theorem seq_cut {t u : TS} {D : Ends} {σ : L2.St} {H : Hp} (M : L2.St → Hp → Prop) (h2 : ∀ σ' H', M σ' H' → u D σ' H') (h1 : (∀ σ' H', M σ' H' → u D σ' H') → t { D with nx := u D } σ H) : tSeq t u D σ H := h1 h2
theorem rep_zero (n : Nat) : (List.replicate n [V.int 0]).flatten = vb (List.replicate n 0) := by
  induction n with
  | zero => rfl
  | succ n ih => rw [List.replicate_succ, List.flatten_cons, ih, List.replicate_succ]; rfl
theorem set_cut {v : V} {i : Nat} {u : TS} {D : Ends} {σ : L2.St} {H : Hp} (h : u D (σ.set i (some v)) H) : tSeq (tAsg (tC v) (gName i)) u D σ H := h
theorem atI_last {α : Type} {xs : List α} {x : α} (h : xs.getLast? = some x) : atI xs (-1) = some x := by
  have hn : xs ≠ [] := fun e => by rw [e] at h; cases h
  have hl : 0 < xs.length := List.length_pos_iff.mpr hn
  unfold atI ixN
  rw [if_neg (by decide), if_pos (by omega)]
  show xs[((-1 : Int) + (xs.length : Int)).toNat]? = some x
  have e : ((-1 : Int) + (xs.length : Int)).toNat = xs.length - 1 := by omega
  rw [e, ← List.getLast?_eq_getElem?]
  exact h
theorem gname_nx {i : Nat} {v : V} {σ : L2.St} {H : Hp} {N : L2.St → Hp → Prop} (h : N (σ.set i (some v)) H) : gName i v σ H N := h
theorem vb_ints (l : List Nat) : vb l = (l.map fun n : Nat => (n : Int)).map V.int := by
  unfold vb
  rw [List.map_map]
  rfl
theorem lk_here {x : Str} {v : V} {r : List (Str × V)} : ((x, v) :: r).lookup x = some v := by simp only [List.lookup, beq_self_eq_true]
theorem lk_next {x y : Str} {v : V} {r : List (Str × V)} {o : Option V} (h : (x == y) = false) (t : r.lookup x = o) : ((y, v) :: r).lookup x = o := by simp only [List.lookup, h]; exact t
theorem lk_nil {x : Str} : ([] : List (Str × V)).lookup x = none := rfl
theorem pf_nil {x : Str} {v : V} : putF x v [] = [(x, v)] := rfl
theorem pf_here {x : Str} {v u : V} {r : List (Str × V)} : putF x v ((x, u) :: r) = (x, v) :: r := by simp only [putF, if_pos]
theorem pf_next {x y : Str} {v u : V} {r : List (Str × V)} (h : ¬ y = x) : putF x v ((y, u) :: r) = (y, u) :: putF x v r := by simp only [putF, if_neg h]
section
variable {P : Program} {w : World} {K : Frag} {mg : Str → Option Value} {base : Heap}
structure MethAt (K : Frag) (C : Addr) (m qual : Str) (st : Stmt) : Prop where
  ex : ∃ f fd, Meth K C m f ∧ Fun K m qual st f fd
theorem MethAt.mx {C : Addr} {m qual : Str} {st : Stmt} {N ps : List Str} {k : Nat} {sp : Sp} (D : MethAt K C m qual st) (c : Cls K C) (S : FnScope N ps (defScope st))
    (hb : ∀ (kV doc pm : Value) (an : Option Addr) (cdv ct : Value) (us : List Value), us.length = ps.length → bindArgs (fnOf m qual (defArgs st) (defBody st) (defScope st) .none kV doc pm an cdv ct) ⟨us, []⟩ = pure (ps.zip us))
    (len : ∀ vs H Q E, sp vs H Q E → vs.length = ps.length)
    (hbody : ∀ (f : Addr) (cdv : Value) (A : Around) (outer : List Env) (s : Shared) (H : Hp) (vs : List V) (Q : VK) (E : XK), Room k (A.deeper (envOfC qual (defScope st) s.heap.objs.size f cdv)) → sp vs H Q E →
      ∃ t, PSs (cxOf CX0 P w K mg base N qual (defScope st) f cdv A outer s H E).nox (defBody st) t ∧ t { nx := fun _ H' => Q .non H', rt := Q } (start N vs) H) : Mtx P w K mg base C m (k + 1) ps sp := by
  obtain ⟨f, fd, hm, F⟩ := D.ex
  exact ⟨f, fd, c, hm, F.binds hb, F.ok S len fun cdv A outer s H vs Q E hr h => hbody f cdv A outer s H vs Q E hr h⟩
structure MakeAt (K : Frag) (mg : Str → Option Value) (x : Str) (C : Addr) (qual : Str) (st : Stmt) : Prop where
  ex : ∃ f fd, mg x = some (.ref C) ∧ Mk K C f ∧ Fun K "__init__" qual st f fd
theorem MakeAt.mx {x : Str} {C : Addr} {qual : Str} {st : Stmt} {N ps : List Str} {k : Nat} {sp : Sp} (D : MakeAt K mg x C qual st) (S : FnScope N ps (defScope st))
    (hb : ∀ (kV doc pm : Value) (an : Option Addr) (cdv ct : Value) (us : List Value), us.length = ps.length → bindArgs (fnOf "__init__" qual (defArgs st) (defBody st) (defScope st) .none kV doc pm an cdv ct) ⟨us, []⟩ = pure (ps.zip us))
    (len : ∀ vs H Q E, sp vs H Q E → vs.length = ps.length)
    (hbody : ∀ (f : Addr) (cdv : Value) (A : Around) (outer : List Env) (s : Shared) (H : Hp) (vs : List V) (Q : VK) (E : XK), Room k (A.deeper (envOfC qual (defScope st) s.heap.objs.size f cdv)) → sp vs H Q E →
      ∃ t, PSs (cxOf CX0 P w K mg base N qual (defScope st) f cdv A outer s H E).nox (defBody st) t ∧ t { nx := fun _ H' => Q .non H', rt := Q } (start N vs) H) : Mkx P w K mg base x C (k + 1) ps sp := by
  obtain ⟨f, fd, h0, hm, F⟩ := D.ex
  exact ⟨f, fd, h0, hm, F.binds hb, F.ok S len fun cdv A outer s H vs Q E hr h => hbody f cdv A outer s H vs Q E hr h⟩
end
end KL
set_option Elab.async false
set_option linter.all false
set_option maxRecDepth 100000
namespace KL
open PySem PySem.W PyProof.Rows L2
section
variable {P : Program} {w : World} {K : Frag} {mg : Str → Option Value} {base : Heap}
end
abbrev bmE : List Value := [.type "Exception", .type "BaseException", .type "object"]
end KL
set_option Elab.async false
set_option linter.all false
set_option maxRecDepth 100000
namespace KL
open PySem PySem.W PyProof.Rows L2
abbrev wt (X : Cx) (pn : List (Addr × Obj)) (xe : Value → Shared → Prop) : Cx := { X with pn := X.pn ++ pn, xe := xe }
abbrev wh (X : Cx) (A : Around) : Cx := { X with A := A, calm := false, xe := fun _ _ => False }
section
variable {M : Model} {A : Around} {E : Value → Shared → Prop}
end
end KL
set_option Elab.async false
set_option linter.all false
set_option maxRecDepth 100000
namespace KL
open PySem PySem.W PyProof.Rows L2
def KB (S : List Addr) (H H' : Hp) : Prop := ∀ b o, H b = some o → b ∉ S → H' b = some o
theorem KB.refl (S : List Addr) (H : Hp) : KB S H H := fun _ _ h _ => h
theorem KB.trans {S : List Addr} {H H1 H2 : Hp} (a : KB S H H1) (b : KB S H1 H2) : KB S H H2 := fun c o h n => b c o (a c o h n) n
theorem KB.of {S : List Addr} {H H' : Hp} (s : Same H H') : KB S H H' := fun b o e _ => s b o e
theorem KB.upd {S : List Addr} {H H' : Hp} {p : Addr} {o : HO} (a : KB S H H') (h : p ∈ S) : KB S H (L2.upd H' p o) := fun b u e n => by
  have q : b ≠ p := fun z => n (by rw [z]; exact h)
  rw [upd_ne q]
  exact a b u e n
theorem KB.new {S : List Addr} {H H' : Hp} {l : Addr} {o : HO} (a : KB S H H') (h : H' l = none) : KB S H (L2.upd H' l o) := fun b u e n => by
  have := a b u e n
  rw [upd_ne (ne_of_none this h)]
  exact this
theorem KB.free {S : List Addr} {H H' : Hp} {l : Addr} (a : KB S H H') (h : H' l = none) (n : l ∉ S) : H l = none := by
  cases q : H l with
  | none => rfl
  | some o => rw [a l o q n] at h; cases h
theorem pe_fx0 {X : Cx} {x : Str} {k : Nat} {sp : Sp} {p pos : Pos} (F : Fx X.prog X.w X.K X.mg X.base x k [] sp) (hr : Room k X.A) (hg : Gl X x) (hdb : (x == ("__debug__" : Str)) = false := by decide) : PE X (.Call (.Name x p) [] [] pos) (tCall sp [] E0 tNil) := by
  obtain ⟨f, fd, hm, hk, hb, G⟩ := F.ex
  exact pe_call0 G hr hg hm hk hb .nil pass0 hdb
end KL
set_option linter.all false
set_option maxRecDepth 100000
namespace KL
open PySem PySem.W PyProof.Rows L2
theorem rfd {K : Frag} {H : Hp} {a C dx : Addr} {fs : List (Str × V)} {v : V} {f : Str} {Q : Addr → Addr → V → Prop} (ob : H a = some (.ins C dx fs)) (cl : Cls K C) (na : NoAttr K C f) (lk : fs.lookup f = some v) (h : Q a C v) :
    ∃ a' C' dx' fs' v', V.ref a = .ref a' ∧ H a' = some (.ins C' dx' fs') ∧ Cls K C' ∧ NoAttr K C' f ∧ fs'.lookup f = some v' ∧ Q a' C' v' := ⟨a, C, dx, fs, v, rfl, ob, cl, na, lk, h⟩
theorem rfs {K : Frag} {H : Hp} {a C dx : Addr} {fs : List (Str × V)} {f : Str} {Q : Addr → Addr → Addr → List (Str × V) → Prop} (ob : H a = some (.ins C dx fs)) (cl : Cls K C) (na : NoAttr K C f) (lt : fs.length < 1000) (h : Q a C dx fs) :
    ∃ a' C' dx' fs', V.ref a = .ref a' ∧ H a' = some (.ins C' dx' fs') ∧ Cls K C' ∧ NoAttr K C' f ∧ fs'.length < 1000 ∧ Q a' C' dx' fs' := ⟨a, C, dx, fs, rfl, ob, cl, na, lt, h⟩
theorem rmt {H : Hp} {a C dx : Addr} {fs : List (Str × V)} {m : Str} {Q : Prop} (ob : H a = some (.ins C dx fs)) (lk : fs.lookup m = none) (h : Q) :
    ∃ a' dx' fs', V.ref a = .ref a' ∧ H a' = some (.ins C dx' fs') ∧ fs'.lookup m = none ∧ Q := ⟨a, dx, fs, rfl, ob, lk, h⟩
end KL
set_option linter.all false
namespace KL
theorem ln1 {α : Type} {us : List α} (h : us.length = 1) : ∃ a, us = [a] := by
  match us, h with
  | [a], _ => exact ⟨a, rfl⟩
theorem ln2 {α : Type} {us : List α} (h : us.length = 2) : ∃ a b, us = [a, b] := by
  match us, h with
  | [a, b], _ => exact ⟨a, b, rfl⟩
theorem ln3 {α : Type} {us : List α} (h : us.length = 3) : ∃ a b c, us = [a, b, c] := by
  match us, h with
  | [a, b, c], _ => exact ⟨a, b, c, rfl⟩
theorem ln4 {α : Type} {us : List α} (h : us.length = 4) : ∃ a b c d, us = [a, b, c, d] := by
  match us, h with
  | [a, b, c, d], _ => exact ⟨a, b, c, d, rfl⟩
end KL
set_option Elab.async false
set_option linter.all false
set_option maxRecDepth 100000
namespace KL
open PySem PySem.W PyProof.Rows L2
end KL
set_option Elab.async false
set_option linter.all false
set_option maxRecDepth 100000
namespace KL
open PySem PySem.W PyProof.Rows L2
theorem def_mk {K : Frag} {h : Heap} {mg : Str → Option Value} {x : Str} {st : Stmt} {f : Addr} {oc : Value} {od an : Option Addr} {osl : Array (Option Value)} {kV doc pm cdv ct : Value} (X : K.In h) (G : h.Ns mainGlobals mg)
    (a : nsIn K mainGlobals x = some (some (.ref f))) (l : K.lookup f = some ⟨oc, od, .func (fnOf x x (defArgs st) (defBody st) (defScope st) .none kV doc pm an cdv ct), osl⟩) (c : codeIn K cdv x = true) (k : keepIn K (.ref f) = true) : DefAt K mg x st :=
  ⟨f, _, mg_of X G a, fun_mk l c k⟩
theorem int_mk {K : Frag} {h : Heap} {mg : Str → Option Value} {x : Str} {i : Int} {t : Tok} (X : K.In h) (G : h.Ns mainGlobals mg) (a : nsIn K mainGlobals x = some (some (.int i t))) : ∃ t, mg x = some (.int i t) := ⟨t, mg_of X G a⟩
theorem str_mk {K : Frag} {h : Heap} {mg : Str → Option Value} {x i : Str} {t : Tok} (X : K.In h) (G : h.Ns mainGlobals mg) (a : nsIn K mainGlobals x = some (some (.str i t))) : ∃ t, mg x = some (.str i t) := ⟨t, mg_of X G a⟩
def chkT : List Nat → List Value → Bool
  | [], [] => true
  | n :: ns, .int i _ :: vs => decide (i = (n : Int)) && chkT ns vs
  | _, _ => false
theorem vals_chk : ∀ {ns : List Nat} {vs : List Value}, chkT ns vs = true → Vals (vb ns) vs
  | [], [], _ => .nil
  | [], _ :: _, h => by cases h
  | _ :: _, [], h => by cases h
  | n :: ns, v :: vs, h => by
    cases v with
    | int i t =>
      have h2 : (decide (i = (n : Int)) && chkT ns vs) = true := h
      rw [Bool.and_eq_true, decide_eq_true_eq] at h2
      obtain ⟨h3, h4⟩ := h2
      subst h3
      exact .cons ⟨t, rfl⟩ (vals_chk h4)
    | _ => cases h
theorem rem_mk {K : Frag} {h : Heap} {mg : Str → Option Value} {r : Addr} {od : Option Addr} {n : Nat} {sl : Array (Option Value)} {arr : Array Value} (X : K.In h) (G : h.Ns mainGlobals mg) (a : nsIn K mainGlobals "REMAINDERS" = some (some (.ref r)))
    (l : K.lookup r = some ⟨.type "tuple", od, .seq arr n, sl⟩) (c : chkT My.tab8 arr.toList = true) : ∃ a, mg "REMAINDERS" = some (.ref a) ∧ ∀ H, SqT K H a (vb My.tab8) := by
  have hv := vals_chk c
  have hl := hv.length
  rw [vb_length, My.tab8_length] at hl
  refine ⟨r, mg_of X G a, fun H => .inr ⟨_, _, _, l, rfl, rfl, ?_, hv⟩⟩
  rw [← Array.length_toList, ← hl]
  exact le_size (by decide)
theorem seq_back {K : Frag} {H : Hp} {a : Addr} {bs : List Nat} (h : SqL K H a ((bs.map fun n : Nat => (n : Int)).map V.int)) : SqL K H a (vb bs) := by
  rw [List.map_map] at h
  exact h
end KL
set_option Elab.async false
set_option linter.all false
set_option maxRecDepth 100000
namespace KL
open PySem PySem.W PyProof.Rows L2
def top (i : Nat) : Stmt := PySem.Challenge.pw_keylogs_s02_make.main.body.getD i (.Pass ⟨0, 0, 0, 0⟩)
abbrev s__wall : Stmt := top 0
abbrev s_shared_length : Stmt := top 6
abbrev s_key_between : Stmt := top 7
abbrev s_key_behind : Stmt := top 8
abbrev s_fixed : Stmt := top 10
abbrev s_number_at : Stmt := top 11
abbrev s_varint : Stmt := top 12
abbrev s_BlockWriter_init : Stmt := inClass (top 15) 0
abbrev s_BlockWriter_put : Stmt := inClass (top 15) 1
abbrev s_BlockWriter_size : Stmt := inClass (top 15) 2
abbrev s_BlockWriter_content : Stmt := inClass (top 15) 3
abbrev s_begun : Stmt := top 22
abbrev s_words_of : Stmt := top 23
abbrev s_mixed_together : Stmt := top 24
abbrev s_mixed_on : Stmt := top 25
abbrev s_key_hashes : Stmt := top 26
abbrev s_FilterWriter_init : Stmt := inClass (top 33) 0
abbrev s_FilterWriter_put : Stmt := inClass (top 33) 1
abbrev s_FilterWriter_hash_keys : Stmt := inClass (top 33) 2
abbrev s_FilterWriter_end_block : Stmt := inClass (top 33) 3
abbrev s_FilterWriter_hashes_by_piece : Stmt := inClass (top 33) 4
abbrev s_FilterWriter_content : Stmt := inClass (top 33) 5
abbrev s_bit_places : Stmt := top 34
abbrev s_probes_for : Stmt := top 35
abbrev s_piece_of : Stmt := top 36
abbrev s_sum_from : Stmt := top 41
abbrev s_masked : Stmt := top 42
abbrev s_Handle_init : Stmt := inClass (top 45) 0
abbrev s_Handle_behind : Stmt := inClass (top 45) 1
abbrev s_Handle_packed : Stmt := inClass (top 45) 2
abbrev s_seal_of : Stmt := top 46
abbrev s_filter_key : Stmt := top 52
abbrev s_table_end : Stmt := top 53
abbrev s_within : Stmt := top 56
abbrev s_is_length : Stmt := top 57
abbrev s_is_shape : Stmt := top 58
abbrev s_TableWriter_init : Stmt := inClass (top 60) 0
abbrev s_TableWriter_put : Stmt := inClass (top 60) 1
abbrev s_TableWriter_reached : Stmt := inClass (top 60) 2
abbrev s_TableWriter_add_part : Stmt := inClass (top 60) 3
abbrev s_TableWriter_end_block : Stmt := inClass (top 60) 4
abbrev s_TableWriter_list_block : Stmt := inClass (top 60) 5
abbrev s_TableWriter_finish : Stmt := inClass (top 60) 6
abbrev s_TableWriter_append_to : Stmt := inClass (top 60) 7
abbrev s_finished_table : Stmt := top 61
abbrev s_made_table : Stmt := top 62
abbrev s_entries_of : Stmt := top 66
abbrev s_make : Stmt := top 68
structure Consts (K : Frag) (mg : Str → Option Value) : Prop where
  OUT_OF_RANGE : ∃ t, mg "OUT_OF_RANGE" = some (.int (-2) t)
  NO_ROWS : ∃ t, mg "NO_ROWS" = some (.int (-4) t)
  TOO_LONG : ∃ t, mg "TOO_LONG" = some (.int (-7) t)
  STRIDE : ∃ t, mg "STRIDE" = some (.int 1024 t)
  NUMBER_WIDTH : ∃ t, mg "NUMBER_WIDTH" = some (.int 4 t)
  WORD : ∃ t, mg "WORD" = some (.int 4294967295 t)
  HALF_WORD : ∃ t, mg "HALF_WORD" = some (.int 65535 t)
  HASH_BEGIN : ∃ t, mg "HASH_BEGIN" = some (.int 3164544308 t)
  HASH_FACTOR : ∃ t, mg "HASH_FACTOR" = some (.int 3332679571 t)
  LANE : ∃ t, mg "LANE" = some (.int 66 t)
  PLACE_WIDTH : ∃ t, mg "PLACE_WIDTH" = some (.int 4 t)
  MOST_PROBES : ∃ t, mg "MOST_PROBES" = some (.int 30 t)
  STRETCH_BITS : ∃ t, mg "STRETCH_BITS" = some (.int 11 t)
  STRETCH : ∃ t, mg "STRETCH" = some (.int 2048 t)
  TOGETHER : ∃ t, mg "TOGETHER" = some (.int 128 t)
  ALL_ONES : ∃ t, mg "ALL_ONES" = some (.int 4294967295 t)
  MASK_ADDEND : ∃ t, mg "MASK_ADDEND" = some (.int 2726488792 t)
  REMAINDERS : ∃ a, mg "REMAINDERS" = some (.ref a) ∧ ∀ H, SqT K H a (vb My.tab8)
  SEAL_WIDTH : ∃ t, mg "SEAL_WIDTH" = some (.int 5 t)
  FILTER_NAME : ∃ t, mg "FILTER_NAME" = some (.str "filter.leveldb.BuiltinBloomFilter2" t)
  HANDLES_WIDTH : ∃ t, mg "HANDLES_WIDTH" = some (.int 40 t)
  MAGIC : ∃ t, mg "MAGIC" = some (.int 15800726617472432983 t)
  MAGIC_WIDTH : ∃ t, mg "MAGIC_WIDTH" = some (.int 8 t)
  LONGEST : ∃ t, mg "LONGEST" = some (.int 16777216 t)
  KEY_WIDTH : ∃ t, mg "KEY_WIDTH" = some (.int 2 t)
  VALUE_WIDTH : ∃ t, mg "VALUE_WIDTH" = some (.int 4 t)
  nlen : mg "len" = none
  nrange : mg "range" = none
  nzip : mg "zip" = none
  nenumerate : mg "enumerate" = none
  nlist : mg "list" = none
  nmin : mg "min" = none
  nmax : mg "max" = none
  nord : mg "ord" = none
end KL
set_option Elab.async false
set_option linter.all false
set_option maxRecDepth 100000
namespace KL
open PySem PySem.W PyProof.Rows L2
section
variable {P : Program} {w : World} {K : Frag} {mg : Str → Option Value} {base : Heap}
def sp_within : Sp := fun vs H Q _ => ∃ n lo hi : Int, vs = [.int n, .int lo, .int hi] ∧ Q (.bl (decide (lo ≤ n) && decide (n ≤ hi))) H
theorem sc_within : FnScope ["number", "low", "high"] ["number", "low", "high"] (defScope s_within) := ⟨rfl, rfl, rfl, by decide +kernel, rfl, by decide +kernel, by decide +kernel⟩
theorem fx_within (D : DefAt K mg "within" s_within) : Fx P w K mg base "within" 1 ["number", "low", "high"] sp_within := by
  refine D.fx sc_within (fun _ _ _ _ _ _ us hl => by obtain ⟨_, _, _, rfl⟩ := ln3 hl; rfl) (fun vs H Q E h => ?_) (fun f cdv A outer s H vs Q E hr h => ?_)
  · obtain ⟨n, lo, hi, rfl, _⟩ := h
    rfl
  · obtain ⟨n, lo, hi, rfl, k⟩ := h
    refine ⟨_, pss_one (ps_ret (pe_chain op_le op_le (pv 1) (pv 0) (pv 2))), ?_⟩
    try dsimp only [cxOf]
    refine ⟨_, rfl, _, rfl, _, _, rfl, rfl, _, rfl, ?_⟩
    by_cases h1 : lo ≤ n
    · rw [decide_eq_true h1]
      refine iteT ⟨_, rfl, _, _, rfl, rfl, ?_⟩
      rw [decide_eq_true h1, Bool.true_and] at k
      exact k
    · rw [decide_eq_false h1]
      refine iteF ?_
      rw [decide_eq_false h1, Bool.false_and] at k
      exact k
end
end KL
set_option Elab.async false
set_option linter.all false
set_option maxRecDepth 100000
namespace KL
open PySem PySem.W PyProof.Rows L2
section
variable {P : Program} {w : World} {K : Frag} {mg : Str → Option Value} {base : Heap}
def sp_is_length : Sp := fun vs H Q _ => ∃ n : Int, vs = [.int n] ∧ Q (.bl (decide (0 ≤ n) && decide (n ≤ 16777216))) H
theorem sc_is_length : FnScope ["number"] ["number"] (defScope s_is_length) := ⟨rfl, rfl, rfl, by decide +kernel, rfl, by decide +kernel, by decide +kernel⟩
theorem fx_is_length (D : DefAt K mg "is_length" s_is_length) (C : Consts K mg) (F : Fx P w K mg base "within" 1 ["number", "low", "high"] sp_within) : Fx P w K mg base "is_length" 2 ["number"] sp_is_length := by
  refine D.fx sc_is_length (fun _ _ _ _ _ _ us hl => by obtain ⟨_, rfl⟩ := ln1 hl; rfl) (fun vs H Q E h => ?_) (fun f cdv A outer s H vs Q E hr h => ?_)
  · obtain ⟨n, rfl, _⟩ := h
    rfl
  · obtain ⟨n, rfl, k⟩ := h
    refine ⟨_, pss_one (ps_ret (pe_fx F hr rfl (pa_cons (pv 0) (pa_cons pe_int (pa_cons (pe_gint rfl C.LONGEST) pa_nil))))), ?_⟩
    try dsimp only [cxOf]
    exact ⟨_, rfl, n, 0, 16777216, rfl, k⟩
end
end KL
set_option Elab.async false
set_option linter.all false
set_option maxRecDepth 100000
namespace KL
open PySem PySem.W PyProof.Rows L2
section
variable {P : Program} {w : World} {K : Frag} {mg : Str → Option Value} {base : Heap}
def sp_is_shape : Sp := fun vs H Q _ => ∃ i b f : Int, vs = [.int i, .int b, .int f] ∧ Q (.bl (Sv13.good i b f)) H
theorem sc_is_shape : FnScope ["interval", "block", "bits"] ["interval", "block", "bits"] (defScope s_is_shape) := ⟨rfl, rfl, rfl, by decide +kernel, rfl, by decide +kernel, by decide +kernel⟩
theorem fx_is_shape (D : DefAt K mg "is_shape" s_is_shape) (F_within : Fx P w K mg base "within" 1 ["number", "low", "high"] sp_within) : Fx P w K mg base "is_shape" 2 ["interval", "block", "bits"] sp_is_shape := by
  refine D.fx sc_is_shape (fun _ _ _ _ _ _ us hl => by obtain ⟨_, _, _, rfl⟩ := ln3 hl; rfl) (fun vs H Q E h => ?_) (fun f cdv A outer s H vs Q E hr h => ?_)
  · obtain ⟨i, b, f, rfl, _⟩ := h
    rfl
  · obtain ⟨i, b, f, rfl, k⟩ := h
    refine ⟨_, (pss_one (ps_ret (pe_and (pe_fx F_within (hr.mono (by decide)) rfl (pa_cons (pv 0) (pa_cons pe_int (pa_cons pe_int pa_nil)))) (pe_and (pe_fx F_within (hr.mono (by decide)) rfl (pa_cons (pv 1) (pa_cons pe_int (pa_cons pe_int pa_nil)))) (pe_one (pe_fx F_within (hr.mono (by decide)) rfl (pa_cons (pv 2) (pa_cons pe_int (pa_cons pe_int pa_nil))))))))), ?_⟩
    try dsimp only [cxOf]
    refine ⟨_, rfl, i, 1, 64, rfl, _, rfl, ?_⟩
    have hg : Sv13.good i b f = ((decide (1 ≤ i) && decide (i ≤ 64)) && ((decide (64 ≤ b) && decide (b ≤ 65536)) && (decide (0 ≤ f) && decide (f ≤ 20)))) := rfl
    rw [hg] at k
    cases h1 : (decide (1 ≤ i) && decide (i ≤ 64)) with
    | false =>
      rw [h1] at k
      exact iteF k
    | true =>
      rw [h1, Bool.true_and] at k
      refine iteT ⟨_, rfl, b, 64, 65536, rfl, _, rfl, ?_⟩
      cases h2 : (decide (64 ≤ b) && decide (b ≤ 65536)) with
      | false =>
        rw [h2] at k
        exact iteF k
      | true =>
        rw [h2, Bool.true_and] at k
        exact iteT ⟨_, rfl, f, 0, 20, rfl, k⟩
end
end KL
set_option Elab.async false
set_option linter.all false
set_option maxRecDepth 100000
namespace KL
open PySem PySem.W PyProof.Rows L2
section
variable {P : Program} {w : World} {K : Frag} {mg : Str → Option Value} {base : Heap}
def sp_sum_from (K : Frag) : Sp := fun vs H Q _ => ∃ (st : Nat) (a : Addr) (bs : List Nat), vs = [.int (st : Int), .ref a] ∧ SqL K H a (vb bs) ∧ isByte bs ∧ Q (.int ((Sv13.crc bs st : Nat) : Int)) H
theorem tab8_at {x : Nat} : atI (vb My.tab8) ((x % 256 : Nat) : Int) = some (V.int ((My.tab8.getD (x % 256) 0 : Nat) : Int)) := by
  have hx : x % 256 < My.tab8.length := by rw [My.tab8_length]; exact Nat.mod_lt _ (by decide)
  refine atI_nat ?_
  unfold vb
  rw [List.getElem?_map, List.getElem?_eq_getElem hx]
  simp [List.getD, List.getElem?_eq_getElem hx]
theorem and255 (a : Nat) : Builtin.bitAnd (a : Int) 255 = ((a % 256 : Nat) : Int) := by
  rw [bitAnd_m8]
  omega
theorem shr8 (a : Nat) : (a : Int) / 2 ^ (8 : Int).toNat = ((a / 256 : Nat) : Int) := by
  show (a : Int) / 256 = _
  omega
theorem sc_sum_from : FnScope ["start", "data", "left", "byte"] ["start", "data"] (defScope s_sum_from) := ⟨rfl, rfl, rfl, by decide +kernel, rfl, by decide +kernel, by decide +kernel⟩
theorem fx_sum_from (D : DefAt K mg "sum_from" s_sum_from) (C : Consts K mg) : Fx P w K mg base "sum_from" 1 ["start", "data"] (sp_sum_from K) := by
  obtain ⟨ra, hrem, hS⟩ := C.REMAINDERS
  refine D.fx sc_sum_from (fun _ _ _ _ _ _ us hl => by obtain ⟨_, _, rfl⟩ := ln2 hl; rfl) (fun vs H Q E h => ?_) (fun f cdv A outer s H vs Q E hr h => ?_)
  · obtain ⟨st, a, bs, rfl, _⟩ := h
    rfl
  · obtain ⟨st, a, bs, rfl, ha, hby, k⟩ := h
    refine ⟨_, pss_cons (ps_set (i := 2) sc_sum_from.nd rfl (Or.inl rfl) (pe_op op_xor (pv 0) (pe_gint rfl C.ALL_ONES)))
      (pss_cons (ps_for PassesOwn.never rfl (pi_list (pv 1)) (pg_name (i := 3) sc_sum_from.nd rfl (Or.inl rfl))
        (pss_one (ps_set (i := 2) sc_sum_from.nd rfl (Or.inl rfl) (pe_op op_xor (pe_op op_shr (pv 2) pe_int) (pe_ix ix_tup (pe_gref rfl hrem) (pe_op op_and (pe_op op_xor (pv 2) (pv 3)) pe_int) (fun _ _ => rfl))))))
      (pss_one (ps_ret (pe_op op_xor (pv 2) (pe_gint rfl C.ALL_ONES))))), ?_⟩
    try dsimp only [cxOf]
    refine ⟨_, rfl, _, _, rfl, rfl, ?_⟩
    refine ⟨_, rfl, a, rfl, ⟨_, ha⟩, for_list (K := K) (a := a) (xs := vb bs) (fun i σ H2 => H2 = H ∧ ∃ v, σ = [some (.int (st : Int)), some (.ref a), some (.int (((bs.take i).foldl Sv13.crcByte (Nat.xor st (2 ^ 32 - 1)) : Nat) : Int)), v])
      ⟨rfl, none, ?_⟩ (fun i σ H2 _ ⟨e, _⟩ => by rw [e]; exact ha) ?_ ?_⟩
    · have e : Builtin.bitXor (st : Int) 4294967295 = ((Nat.xor st (2 ^ 32 - 1) : Nat) : Int) := xor_nat st 4294967295
      show [some (V.int (st : Int)), some (V.ref a), some (V.int (Builtin.bitXor (st : Int) 4294967295)), none] = _
      rw [e]
      rfl
    · rintro i x σ H2 hx ⟨rfl, v, rfl⟩
      obtain ⟨b, hb, rfl⟩ := vb_get hx
      have hlt : b < 256 := hby b (List.mem_of_getElem? hb)
      generalize hc : (bs.take i).foldl Sv13.crcByte (Nat.xor st (2 ^ 32 - 1)) = c
      have hnext : (bs.take (i + 1)).foldl Sv13.crcByte (Nat.xor st (2 ^ 32 - 1)) = (c / 256) ^^^ My.tab8.getD ((c ^^^ b) % 256) 0 := by
        rw [List.take_succ, hb]
        show ((bs.take i) ++ [b]).foldl Sv13.crcByte (Nat.xor st (2 ^ 32 - 1)) = _
        rw [crc_snoc, hc, My.turn8 hlt]
      have a1 : atI (vb My.tab8) (Builtin.bitAnd (Builtin.bitXor (c : Int) (b : Int)) 255) = some (V.int ((My.tab8.getD ((c ^^^ b) % 256) 0 : Nat) : Int)) := by
        rw [xor_nat, and255]
        exact tab8_at
      refine ⟨_, rfl, _, _, rfl, rfl, (by show (0 : Int) ≤ 8; decide), _, rfl, _, rfl, _, _, rfl, rfl, _, _, rfl, rfl, ra, _, _, _, rfl, rfl, hS _, a1, _, _, rfl, rfl, ?_⟩
      refine ⟨rfl, some (V.int (b : Int)), ?_⟩
      rw [hnext]
      show [some (V.int (st : Int)), some (V.ref a), some (V.int (Builtin.bitXor ((c : Int) / 2 ^ (8 : Int).toNat) ((My.tab8.getD ((c ^^^ b) % 256) 0 : Nat) : Int))), some (V.int (b : Int))] = _
      rw [shr8, xor_nat]
    · rintro σ H2 ⟨rfl, v, rfl⟩
      refine ⟨_, rfl, _, _, rfl, rfl, ?_⟩
      have e : (bs.take (vb bs).length) = bs := by rw [vb_length, List.take_length]
      rw [e]
      have e2 : Builtin.bitXor ((bs.foldl Sv13.crcByte (Nat.xor st (2 ^ 32 - 1)) : Nat) : Int) 4294967295 = ((Sv13.crc bs st : Nat) : Int) := xor_nat _ 4294967295
      show Q (V.int (Builtin.bitXor ((bs.foldl Sv13.crcByte (Nat.xor st (2 ^ 32 - 1)) : Nat) : Int) 4294967295)) _
      rw [e2]
      exact k
end
end KL
set_option Elab.async false
set_option linter.all false
set_option maxRecDepth 100000
namespace KL
open PySem PySem.W PyProof.Rows L2
section
variable {P : Program} {w : World} {K : Frag} {mg : Str → Option Value} {base : Heap}
def sp_masked : Sp := fun vs H Q _ => ∃ c : Nat, vs = [.int (c : Int)] ∧ c < 2 ^ 32 ∧ Q (.int ((Sv13.masked c : Nat) : Int)) H
theorem sc_masked : FnScope ["number", "turned"] ["number"] (defScope s_masked) := ⟨rfl, rfl, rfl, by decide +kernel, rfl, by decide +kernel, by decide +kernel⟩
theorem fx_masked (D : DefAt K mg "masked" s_masked) (C : Consts K mg) : Fx P w K mg base "masked" 1 ["number"] sp_masked := by
  refine D.fx sc_masked (fun _ _ _ _ _ _ us hl => by obtain ⟨_, rfl⟩ := ln1 hl; rfl) (fun vs H Q E h => ?_) (fun f cdv A outer s H vs Q E hr h => ?_)
  · obtain ⟨c, rfl, _⟩ := h
    rfl
  · obtain ⟨c, rfl, hc, k⟩ := h
    refine ⟨_, (pss_cons (ps_set (i := 1) sc_masked.nd rfl (Or.inl rfl) (pe_op op_or (pe_op op_shr (pv 0) pe_int) (pe_op op_and (pe_op op_shl (pv 0) pe_int) (pe_gint rfl C.ALL_ONES))))
      (pss_one (ps_ret (pe_op op_and (pe_op op_add (pv 1) (pe_gint rfl C.MASK_ADDEND)) (pe_gint rfl C.ALL_ONES))))), ?_⟩
    try dsimp only [cxOf]
    refine ⟨_, rfl, _, _, rfl, rfl, (by show (0 : Int) ≤ 15; decide), _, rfl, _, _, rfl, rfl, ⟨(by decide), (by decide), ?_⟩, _, _, rfl, rfl, _, _, rfl, rfl, ?_⟩
    · rw [Int.natAbs_natCast]
      omega
    · refine ⟨_, rfl, _, _, rfl, rfl, _, _, rfl, rfl, ?_⟩
      rw [← masked_eq hc] at k
      exact k
end
end KL
set_option Elab.async false
set_option linter.all false
set_option maxRecDepth 100000
namespace KL
open PySem PySem.W PyProof.Rows L2
section
variable {P : Program} {w : World} {K : Frag} {mg : Str → Option Value} {base : Heap}
def sp_fixed : Sp := fun vs H Q _ => ∃ n k : Nat, vs = [.int (n : Int), .int (k : Int)] ∧ k ≤ 8 ∧ newL (vb (Sv13.little k n)) H Q
theorem sc_fixed : FnScope ["number", "width", "packed", "rest", "place"] ["number", "width"] (defScope s_fixed) := ⟨rfl, rfl, rfl, by decide +kernel, rfl, by decide +kernel, by decide +kernel⟩
theorem fx_fixed (D : DefAt K mg "fixed" s_fixed) (C : Consts K mg) : Fx P w K mg base "fixed" 1 ["number", "width"] sp_fixed := by
  refine D.fx sc_fixed (fun _ _ _ _ _ _ us hl => by obtain ⟨_, _, rfl⟩ := ln2 hl; rfl) (fun vs H Q E h => ?_) (fun f cdv A outer s H vs Q E hr h => ?_)
  · obtain ⟨n, k, rfl, _⟩ := h
    rfl
  · obtain ⟨n, k, rfl, hk, q⟩ := h
    refine ⟨_, (pss_cons (ps_set (i := 2) sc_fixed.nd rfl (Or.inl rfl) (pe_lst pa_nil))
      (pss_cons (ps_set (i := 3) sc_fixed.nd rfl (Or.inl rfl) (pv 0))
      (pss_cons (ps_for PassesOwn.never rfl (pi_range1 rfl C.nrange (pa_cons (pv 1) pa_nil)) (pg_name (i := 4) sc_fixed.nd rfl (Or.inl rfl)) (pss_cons (ps_expr (pe_bm PySem.F.plainAttrs_list PySem.F.slot_list_append PySem.F.type_list_append mt_append (pv 2) (pa_cons (pe_op op_and (pv 3) pe_int) pa_nil)))
      (pss_one (ps_set (i := 3) sc_fixed.nd rfl (Or.inl rfl) (pe_op op_shr (pv 3) pe_int)))))
      (pss_one (ps_ret (pv 2)))))), ?_⟩
    try dsimp only [cxOf]
    refine ⟨Nat.zero_le _, fun l hl => ?_⟩
    refine ⟨_, rfl, _, rfl, (k : Int), rfl, by omega, by omega, for_range (n := (k : Int).toNat) (fun i σ H2 => Same H H2 ∧ H2 l = some (.lst (vb (Sv13.little i n))) ∧ ∃ v, σ = [some (.int (n : Int)), some (.int (k : Int)), some (.ref l), some (.int ((n / 256 ^ i : Nat) : Int)), v])
      ⟨Same.new (Same.refl H) hl, upd_same, none, ?_⟩ ?_ ?_⟩
    · show _ = [some (V.int (n : Int)), some (V.int (k : Int)), some (V.ref l), some (V.int ((n / 1 : Nat) : Int)), none]
      rw [Nat.div_one]
      rfl
    · rintro i σ H2 hi ⟨hs, h2, v, rfl⟩
      have hi : i < k := hi
      refine ⟨_, rfl, .inl ⟨rfl, _, SqL.of h2⟩, _, rfl, _, _, rfl, rfl, l, _, _, rfl, rfl, h2, lt_size (by rw [vb_length, My.little_length]; omega), ?_⟩
      refine ⟨_, rfl, _, _, rfl, rfl, (by show (0 : Int) ≤ 8; decide), ?_⟩
      refine ⟨Same.upd hs hl, ?_, some (V.int (0 + (i : Int))), ?_⟩
      · rw [upd_same, My.little_succ]
        have e : Builtin.bitAnd ((n / 256 ^ i : Nat) : Int) 255 = ((n / 256 ^ i % 256 : Nat) : Int) := by
          rw [bitAnd_m8]
          omega
        exact vb_snoc _ e
      · have e : ((n / 256 ^ i : Nat) : Int) / 2 ^ (8 : Int).toNat = ((n / 256 ^ (i + 1) : Nat) : Int) := by
          rw [My.div_pow_succ]
          show ((n / 256 ^ i : Nat) : Int) / 256 = _
          omega
        show [some (V.int (n : Int)), some (V.int (k : Int)), some (V.ref l), some (V.int (((n / 256 ^ i : Nat) : Int) / 2 ^ (8 : Int).toNat)), some (V.int (0 + (i : Int)))] = _
        rw [e]
    · rintro σ H2 ⟨hs, h2, v, rfl⟩
      exact ⟨_, rfl, q l H2 hs hl h2⟩
end
end KL
set_option Elab.async false
set_option linter.all false
set_option maxRecDepth 100000
namespace KL
open PySem PySem.W PyProof.Rows L2
section
variable {P : Program} {w : World} {K : Frag} {mg : Str → Option Value} {base : Heap}
def sp_number_at (K : Frag) : Sp := fun vs H Q _ => ∃ (a : Addr) (bs : List Nat) (b n : Nat), vs = [.ref a, .int (b : Int), .int (n : Int)] ∧ SqL K H a (vb bs) ∧ isByte bs ∧ b + n ≤ bs.length ∧ n ≤ 8 ∧ Q (.int ((Sv13.ofLittle (Sv13.slice bs b n) : Nat) : Int)) H
theorem sc_number_at : FnScope ["data", "begin", "width", "number", "place"] ["data", "begin", "width"] (defScope s_number_at) := ⟨rfl, rfl, rfl, by decide +kernel, rfl, by decide +kernel, by decide +kernel⟩
theorem fx_number_at (D : DefAt K mg "number_at" s_number_at) (C : Consts K mg) : Fx P w K mg base "number_at" 1 ["data", "begin", "width"] (sp_number_at K) := by
  refine D.fx sc_number_at (fun _ _ _ _ _ _ us hl => by obtain ⟨_, _, _, rfl⟩ := ln3 hl; rfl) (fun vs H Q E h => ?_) (fun f cdv A outer s H vs Q E hr h => ?_)
  · obtain ⟨a, bs, b, n, rfl, _⟩ := h
    rfl
  · obtain ⟨a, bs, b, n, rfl, ha, hby, hle, hn, q⟩ := h
    refine ⟨_, (pss_cons (ps_set (i := 3) sc_number_at.nd rfl (Or.inl rfl) pe_int)
      (pss_cons (ps_for PassesOwn.never rfl (pi_range1 rfl C.nrange (pa_cons (pv 2) pa_nil)) (pg_name (i := 4) sc_number_at.nd rfl (Or.inl rfl)) (pss_one (ps_aug (i := 3) sc_number_at.nd rfl (Or.inl rfl) (pe_op op_shl (pe_ix ix_list (pv 0) (pe_op op_add (pv 1) (pv 4)) (fun _ _ => rfl)) (pe_op op_mul pe_int (pv 4))) ip_add)))
      (pss_one (ps_ret (pv 3))))), ?_⟩
    try dsimp only [cxOf]
    refine ⟨_, rfl, (n : Int), rfl, by omega, by omega, for_range (n := (n : Int).toNat) (fun i σ H2 => H2 = H ∧ ∃ v, σ = [some (.ref a), some (.int (b : Int)), some (.int (n : Int)), some (.int ((Sv13.ofLittle (Sv13.slice bs b i) : Nat) : Int)), v])
      ⟨rfl, none, rfl⟩ ?_ ?_⟩
    · rintro i σ H2 hi ⟨rfl, v, rfl⟩
      have hi : i < n := hi
      have hx : bs[b + i]? = some bs[b + i] := List.getElem?_eq_getElem (by omega)
      have hlt : bs[b + i] < 256 := hby _ (List.getElem_mem _)
      refine ⟨_, rfl, _, rfl, _, rfl, _, rfl, _, _, rfl, rfl, a, _, _, _, rfl, rfl, ha, at_of (j := b + i) (v := V.int ((bs[b + i] : Nat) : Int)) ?_ ?_, _, rfl, _, _, rfl, rfl, .inl ⟨by decide, by decide⟩, _, _, rfl, rfl, ⟨?_, ?_, ?_⟩, _, _, rfl, rfl, ?_⟩
      · omega
      · unfold vb
        rw [List.getElem?_map, hx]
        rfl
      · omega
      · omega
      · show (((bs[b + i] : Nat) : Int)).natAbs < 2 ^ 64
        rw [Int.natAbs_natCast]
        omega
      · refine ⟨rfl, some (V.int (0 + (i : Int))), ?_⟩
        have e1 : ((8 : Int) * (0 + (i : Int))).toNat = 8 * i := by omega
        have e2 : ((bs[b + i] : Nat) : Int) * 2 ^ ((8 : Int) * (0 + (i : Int))).toNat = ((bs[b + i] * 256 ^ i : Nat) : Int) := by
          rw [e1, pow8]
          simp
        show [some (V.ref a), some (V.int (b : Int)), some (V.int (n : Int)), some (V.int (((Sv13.ofLittle (Sv13.slice bs b i) : Nat) : Int) + ((bs[b + i] : Nat) : Int) * 2 ^ ((8 : Int) * (0 + (i : Int))).toNat)), some (V.int (0 + (i : Int)))] = _
        rw [e2, My.ofLittle_slice hx hlt]
        simp
    · rintro σ H2 ⟨rfl, v, rfl⟩
      exact ⟨_, rfl, q⟩
end
end KL
set_option Elab.async false
set_option linter.all false
set_option maxRecDepth 100000
namespace KL
open PySem PySem.W PyProof.Rows L2
section
variable {P : Program} {w : World} {K : Frag} {mg : Str → Option Value} {base : Heap}
def sp_varint : Sp := fun vs H Q _ => ∃ n : Nat, vs = [.int (n : Int)] ∧ n < 128 ^ 10 ∧ newL (vb (Sv13.varint n)) H Q
theorem sc_varint : FnScope ["number", "packed", "rest"] ["number"] (defScope s_varint) := ⟨rfl, rfl, rfl, by decide +kernel, rfl, by decide +kernel, by decide +kernel⟩
theorem fx_varint (D : DefAt K mg "varint" s_varint) (C : Consts K mg) : Fx P w K mg base "varint" 1 ["number"] sp_varint := by
  refine D.fx sc_varint (fun _ _ _ _ _ _ us hl => by obtain ⟨_, rfl⟩ := ln1 hl; rfl) (fun vs H Q E h => ?_) (fun f cdv A outer s H vs Q E hr h => ?_)
  · obtain ⟨n, rfl, _⟩ := h
    rfl
  · obtain ⟨n, rfl, hn, q⟩ := h
    refine ⟨_, (pss_cons (ps_set (i := 1) sc_varint.nd rfl (Or.inl rfl) (pe_lst pa_nil))
      (pss_cons (ps_set (i := 2) sc_varint.nd rfl (Or.inl rfl) (pv 0))
      (pss_cons (ps_while PassesOwn.never (pt_cmpR op_gt (pv 2) pe_int (nomark _)) (pss_cons (ps_expr (pe_bm PySem.F.plainAttrs_list PySem.F.slot_list_append PySem.F.type_list_append mt_append (pv 1) (pa_cons (pe_op op_add pe_int (pe_op op_and (pv 2) pe_int)) pa_nil)))
      (pss_one (ps_set (i := 2) sc_varint.nd rfl (Or.inl rfl) (pe_op op_shr (pv 2) pe_int)))))
      (pss_cons (ps_expr (pe_bm PySem.F.plainAttrs_list PySem.F.slot_list_append PySem.F.type_list_append mt_append (pv 1) (pa_cons (pv 2) pa_nil)))
      (pss_one (ps_ret (pv 1))))))), ?_⟩
    try dsimp only [cxOf]
    refine ⟨Nat.zero_le _, fun l hl => ⟨_, rfl, ?_⟩⟩
    refine ⟨fun m σ H2 => ∃ (done : List Nat), Same H H2 ∧ H2 l = some (.lst (vb done)) ∧ My.Sev n done m ∧ done.length ≤ 10 ∧ σ = [some (.int (n : Int)), some (.ref l), some (.int (m : Int))],
      ⟨n, [], Same.new (Same.refl H) hl, upd_same, My.sev_start hn, Nat.zero_le _, rfl⟩, ?_⟩
    rintro m σ H2 ⟨done, hs, h2, hv, hd, rfl⟩
    refine ⟨_, rfl, _, _, rfl, rfl, _, rfl, ?_⟩
    have hd' : done.length ≤ 9 := by
      obtain ⟨f, e, hlt⟩ := hv
      have h1 := congrArg List.length e
      rw [List.length_append] at h1
      have h2 := My.sevens_length 10 n
      have h3 := My.sevens_pos f m
      omega
    by_cases hr : 127 < m
    · have c : decide ((127 : Int) < (m : Int)) = true := decide_eq_true (by omega)
      rw [c]
      refine iteT ⟨fun σ' H' => ∃ m', m' < m ∧ ∃ (done : List Nat), Same H H' ∧ H' l = some (.lst (vb done)) ∧ My.Sev n done m' ∧ done.length ≤ 10 ∧ σ' = [some (.int (n : Int)), some (.ref l), some (.int (m' : Int))], fun σ' H' h => h, ?_⟩
      refine ⟨_, rfl, .inl ⟨rfl, _, SqL.of h2⟩, _, rfl, _, _, rfl, rfl, _, _, rfl, rfl, l, _, _, rfl, rfl, h2, lt_size (by rw [vb_length]; omega), ?_⟩
      refine ⟨_, rfl, _, _, rfl, rfl, (by show (0 : Int) ≤ 7; decide), ?_⟩
      have e1 : (128 : Int) + Builtin.bitAnd (m : Int) 127 = ((128 + m % 128 : Nat) : Int) := by
        rw [bitAnd_m7]
        omega
      have e2 : (m : Int) / 2 ^ (7 : Int).toNat = ((m / 128 : Nat) : Int) := by
        show (m : Int) / 128 = _
        omega
      refine ⟨m / 128, by omega, done ++ [128 + m % 128], Same.upd hs hl, ?_, My.sev_step hv hr, by rw [List.length_append, List.length_singleton]; omega, ?_⟩
      · rw [upd_same]
        exact vb_snoc _ e1
      · show [some (V.int (n : Int)), some (V.ref l), some (V.int ((m : Int) / 2 ^ (7 : Int).toNat))] = _
        rw [e2]
    · have c : decide ((127 : Int) < (m : Int)) = false := decide_eq_false (by omega)
      rw [c]
      refine iteF ?_
      refine ⟨_, rfl, .inl ⟨rfl, _, SqL.of h2⟩, _, rfl, l, _, _, rfl, rfl, h2, lt_size (by rw [vb_length]; omega), _, rfl, ?_⟩
      refine q l _ (Same.upd hs hl) hl ?_
      rw [upd_same, My.sev_end hv (by omega)]
      exact vb_snoc _ rfl
end
end KL
set_option Elab.async false
set_option linter.all false
set_option maxRecDepth 100000
namespace KL
open PySem PySem.W PyProof.Rows L2
section
variable {P : Program} {w : World} {K : Frag} {mg : Str → Option Value} {base : Heap}
theorem cut_any {xs : List V} {i j : Nat} (hij : i ≤ j) : cutV xs (some (i : Int)) (some (j : Int)) = (xs.drop i).take (j - i) := by
  unfold cutV
  show (xs.drop (if (i : Int) < 0 then ((i : Int) + (xs.length : Int)).toNat else min (i : Int).toNat xs.length)).take ((if (j : Int) < 0 then ((j : Int) + (xs.length : Int)).toNat else min (j : Int).toNat xs.length) - (if (i : Int) < 0 then ((i : Int) + (xs.length : Int)).toNat else min (i : Int).toNat xs.length)) = _
  rw [if_neg (by omega), if_neg (by omega)]
  have e : (i : Int).toNat = i := Int.toNat_natCast i
  have e2 : (j : Int).toNat = j := Int.toNat_natCast j
  rw [e, e2]
  by_cases h : i ≤ xs.length
  · rw [Nat.min_eq_left h]
    by_cases h2 : j ≤ xs.length
    · rw [Nat.min_eq_left h2]
    · rw [Nat.min_eq_right (by omega), List.take_of_length_le (by rw [List.length_drop]; omega), List.take_of_length_le (by rw [List.length_drop]; omega)]
  · rw [Nat.min_eq_right (show xs.length ≤ i by omega), List.drop_eq_nil_of_le (Nat.le_refl _), List.drop_eq_nil_of_le (show xs.length ≤ i by omega), List.take_nil, List.take_nil]
end
end KL
set_option Elab.async false
set_option linter.all false
set_option maxRecDepth 100000
namespace KL
open PySem PySem.W PyProof.Rows L2
section
variable {P : Program} {w : World} {K : Frag} {mg : Str → Option Value} {base : Heap}
theorem take_same {x y : List Nat} {n : Nat} (h : x.take n = y.take n) (hn : n ≤ x.length) : ∀ j, j < n → x[j]? = y[j]? ∧ x[j]? ≠ none := by
  intro j hj
  have e1 : (x.take n)[j]? = x[j]? := List.getElem?_take_of_lt hj
  have e2 : (y.take n)[j]? = y[j]? := List.getElem?_take_of_lt hj
  rw [h] at e1
  refine ⟨by rw [← e1, e2], ?_⟩
  rw [List.getElem?_eq_getElem (by omega)]
  simp
theorem take_slice {x y : List Nat} {n k : Nat} (h : x.take n = y.take n) (hs : Sv13.slice x n k = Sv13.slice y n k) : x.take (n + k) = y.take (n + k) := by
  unfold Sv13.slice at hs
  rw [List.take_add, List.take_add, h, hs]
theorem slice_get {x : List Nat} {n k i : Nat} (h : i < k) : (Sv13.slice x n k)[i]? = x[n + i]? := by
  unfold Sv13.slice
  rw [List.getElem?_take_of_lt h, List.getElem?_drop]
theorem slice_len (x : List Nat) (n k : Nat) : (Sv13.slice x n k).length = min k (x.length - n) := by
  unfold Sv13.slice
  rw [List.length_take, List.length_drop]
theorem common_all {x y : List Nat} {n : Nat} (h : x.take n = y.take n) (hn : x.length ≤ n) : Sv13.common x y = x.length := by
  refine common_end (i := x.length) (take_same ?_ (Nat.le_refl _)) (.inl (Nat.le_refl _))
  have e : x.take x.length = (x.take n).take x.length := by rw [List.take_take, Nat.min_eq_left hn]
  rw [e, h, List.take_take, Nat.min_eq_left hn]
theorem common_part {x y : List Nat} {n i : Nat} (hn : n ≤ x.length) (h : x.take n = y.take n) (hi : ∀ j, j < i → x[n + j]? = y[n + j]? ∧ x[n + j]? ≠ none) : ∀ j, j < n + i → x[j]? = y[j]? ∧ x[j]? ≠ none := by
  intro j hj
  by_cases h1 : j < n
  · exact take_same h hn j h1
  · have := hi (j - n) (by omega)
    rw [show n + (j - n) = j by omega] at this
    exact this
theorem cut_stride {x : List Nat} {n : Nat} : cutV (vb x) (some (n : Int)) (some ((n : Int) + 1024)) = vb (Sv13.slice x n 1024) := by
  have e : (n : Int) + 1024 = ((n + 1024 : Nat) : Int) := by omega
  rw [e, cut_any (by omega), vb_slice]
  congr 1
  omega
def sp_shared_length (K : Frag) : Sp := fun vs H Q _ => ∃ (a b : Addr) (x y : List Nat), vs = [.ref a, .ref b, .int 0] ∧ SqL K H a (vb x) ∧ SqL K H b (vb y) ∧ x.length ≤ 1000000 ∧ ∀ H', Same H H' → Q (.int ((Sv13.common x y : Nat) : Int)) H'
theorem sc_shared_length : FnScope ["one", "other", "known", "shared", "mine", "yours"] ["one", "other", "known"] (defScope s_shared_length) := ⟨rfl, rfl, rfl, by decide +kernel, rfl, by decide +kernel, by decide +kernel⟩
theorem fx_shared_length (D : DefAt K mg "shared_length" s_shared_length) (C : Consts K mg) : Fx P w K mg base "shared_length" 1 ["one", "other", "known"] (sp_shared_length K) := by
  refine D.fx sc_shared_length (fun _ _ _ _ _ _ us hl => by obtain ⟨_, _, _, rfl⟩ := ln3 hl; rfl) (fun vs H Q E h => ?_) (fun f cdv A outer s H vs Q E hr h => ?_)
  · obtain ⟨a, b, x, y, rfl, _⟩ := h
    rfl
  · obtain ⟨a, b, x, y, rfl, ha, hb, hxl, q⟩ := h
    refine ⟨_, (pss_cons (ps_set (i := 3) sc_shared_length.nd rfl (Or.inl rfl) (pv 2))
      (pss_cons (ps_while PassesOwn.never (PW.pt (pw_and (pt_cmpR op_lt (pv 3) (pe_callB call_len_seq rfl C.nlen PySem.boot_len (pa_cons (pv 0) pa_nil)) (nomark _)) (pw_and1 (pt_cmpR (op_eqB hr.units0) (pe_slice sl_list (pv 0) (po_some (pv 3)) (po_some (pe_op op_add (pv 3) (pe_gint rfl C.STRIDE)))) (pe_slice sl_list (pv 1) (po_some (pv 3)) (po_some (pe_op op_add (pv 3) (pe_gint rfl C.STRIDE)))) (nomark _))))) (pss_one (ps_aug (i := 3) sc_shared_length.nd rfl (Or.inl rfl) (pe_gint rfl C.STRIDE) ip_add)))
      (pss_cons (ps_for PassesOwn.never rfl (pi_zip rfl C.nzip (pa_cons (pe_slice sl_list (pv 0) (po_some (pv 3)) (po_some (pe_op op_add (pv 3) (pe_gint rfl C.STRIDE)))) (pa_cons (pe_slice sl_list (pv 1) (po_some (pv 3)) (po_some (pe_op op_add (pv 3) (pe_gint rfl C.STRIDE)))) pa_nil))) (pg_tup rfl (pgs_cons (pg_name (i := 4) sc_shared_length.nd rfl (Or.inl rfl)) (pgs_cons (pg_name (i := 5) sc_shared_length.nd rfl (Or.inl rfl)) pgs_nil))) (pss_cons (ps_if (pt_cmpR op_ne (pv 4) (pv 5) (nomark _)) (pss_one ps_break) pss_nil)
      (pss_one (ps_aug (i := 3) sc_shared_length.nd rfl (Or.inl rfl) pe_int ip_add))))
      (pss_one (ps_ret (pe_callB (call_min2 rfl) rfl C.nmin boot_min (pa_cons (pv 3) (pa_cons (pe_callB call_len_seq rfl C.nlen PySem.boot_len (pa_cons (pv 0) pa_nil)) pa_nil)))))))), ?_⟩
    try dsimp only [cxOf]
    have hlen : (vb x).length = x.length := vb_length x
    refine ⟨_, rfl, ?_⟩
    refine gname_nx ?_
    dsimp only
    refine seq_cut (t := tWhile _ _) (fun σ' H' => Same H H' ∧ ∃ n : Nat, σ' = [some (.ref a), some (.ref b), some (.int 0), some (.int (n : Int)), none, none] ∧ x.take n = y.take n ∧ n ≤ 2000000 ∧ (n < x.length → Sv13.slice x n 1024 ≠ Sv13.slice y n 1024)) ?_ fun rest => ?_
    · rintro σ' H1 ⟨s1, n, rfl, hn, hnl, hne⟩
      have ha1 := s1.seq ha
      have hb1 := s1.seq hb
      refine ⟨_, rfl, _, rfl, _, rfl, _, rfl, _, _, rfl, rfl, _, rfl, a, _, rfl, ha1, fun p1 h1 => ?_⟩
      rw [cut_stride]
      have s2 : Same H (upd H1 p1 (.lst (vb (Sv13.slice x n 1024)))) := s1.trans (Same.new (Same.refl _) h1)
      refine ⟨_, rfl, _, rfl, _, rfl, _, rfl, _, _, rfl, rfl, _, rfl, b, _, rfl, s2.seq hb, fun p2 h2 => ?_⟩
      rw [cut_stride]
      have np : p1 ≠ p2 := ne_of_none upd_same h2
      have s3 : Same H (upd (upd H1 p1 (.lst (vb (Sv13.slice x n 1024)))) p2 (.lst (vb (Sv13.slice y n 1024)))) := s2.trans (Same.new (Same.refl _) h2)
      have g1 : (upd (upd H1 p1 (.lst (vb (Sv13.slice x n 1024)))) p2 (.lst (vb (Sv13.slice y n 1024)))) p1 = some (.lst (vb (Sv13.slice x n 1024))) := by rw [upd_ne np]; exact upd_same
      have g2 : (upd (upd H1 p1 (.lst (vb (Sv13.slice x n 1024)))) p2 (.lst (vb (Sv13.slice y n 1024)))) p2 = some (.lst (vb (Sv13.slice y n 1024))) := upd_same
      generalize upd (upd H1 p1 (.lst (vb (Sv13.slice x n 1024)))) p2 (.lst (vb (Sv13.slice y n 1024))) = G at s3 g1 g2 ⊢
      refine ⟨p1, p2, _, _, rfl, SqL.of g1, SqL.of g2, for_zip (K := K) (a := p1) (b := p2) (xs := vb (Sv13.slice x n 1024)) (ys := vb (Sv13.slice y n 1024)) (fun i σ H2 => Same G H2 ∧ (∀ j, j < i → x[n + j]? = y[n + j]? ∧ x[n + j]? ≠ none) ∧ i ≤ 1024 ∧ ∃ v u, σ = [some (.ref a), some (.ref b), some (.int 0), some (.int ((n + i : Nat) : Int)), v, u])
        ⟨Same.refl _, fun j hj => absurd hj (Nat.not_lt_zero _), Nat.zero_le _, none, none, rfl⟩ (fun i σ H2 ⟨hs, _⟩ => ⟨SqL.of (hs _ _ g1), SqL.of (hs _ _ g2)⟩) ?_ ?_⟩
      · rintro i u v T σ H2 hu hv hT ⟨hs, heq, hi, v3, v4, rfl⟩
        obtain ⟨m, hm, rfl⟩ := vb_get hu
        obtain ⟨m2, hm2, rfl⟩ := vb_get hv
        have hi2 : i < 1024 ∧ n + i < x.length := by
          have := (List.getElem?_eq_some_iff.mp hm).1
          rw [slice_len] at this
          omega
        rw [slice_get hi2.1] at hm hm2
        refine ⟨T, _, rfl, .inl (.inl upd_same), rfl, _, _, rfl, _, _, rfl, rfl, ?_⟩
        refine ⟨_, rfl, _, rfl, rfl, _, rfl, ?_⟩
        by_cases hmn : m = m2
        · have c : (!decide (V.int (m : Int) = V.int (m2 : Int))) = false := by
            rw [decide_eq_true (by rw [hmn])]
            rfl
          rw [c]
          refine iteF ?_
          refine ⟨_, rfl, _, _, rfl, rfl, ?_⟩
          refine ⟨Same.new hs hT, fun j hj => ?_, by omega, some (V.int (m : Int)), some (V.int (m2 : Int)), ?_⟩
          · by_cases hji : j < i
            · exact heq j hji
            · have : j = i := by omega
              subst this
              rw [hm, hm2, hmn]
              exact ⟨rfl, by simp⟩
          · rw [← Nat.add_assoc, Int.natCast_add (n + i) 1]
            rfl
        · have c : (!decide (V.int (m : Int) = V.int (m2 : Int))) = true := by
            rw [decide_eq_false]
            · rfl
            · intro e
              injection e with e
              omega
          rw [c]
          refine iteT ?_
          have hc := common_ne (common_part (by omega) hn heq) hm hm2 hmn
          have s4 : Same H (upd H2 T (.tup [V.int (m : Int), V.int (m2 : Int)])) := (s3.trans hs).trans (Same.new (Same.refl _) hT)
          refine ⟨_, rfl, _, rfl, a, _, rfl, .inl (s4.seq ha), _, _, rfl, ?_⟩
          rw [hlen]
          have e : (if ((x.length : Nat) : Int) < ((n + i : Nat) : Int) then ((x.length : Nat) : Int) else ((n + i : Nat) : Int)) = ((Sv13.common x y : Nat) : Int) := by
            rw [hc, if_neg (by omega)]
          rw [e]
          exact q _ s4
      · rintro i σ H2 he ⟨hs, heq, hi, v3, v4, rfl⟩
        have s4 := s3.trans hs
        refine ⟨_, rfl, _, rfl, a, _, rfl, .inl (s4.seq ha), _, _, rfl, ?_⟩
        rw [hlen]
        rw [vb_length, vb_length, slice_len, slice_len] at he
        have e : (if ((x.length : Nat) : Int) < ((n + i : Nat) : Int) then ((x.length : Nat) : Int) else ((n + i : Nat) : Int)) = ((Sv13.common x y : Nat) : Int) := by
          by_cases hnx : n < x.length
          · have hd : x.length ≤ n + i ∨ y.length ≤ n + i := by
              by_cases hxy : 1024 ≤ x.length - n ∧ 1024 ≤ y.length - n
              · exfalso
                refine hne hnx (List.ext_getElem? fun j => ?_)
                by_cases hj : j < 1024
                · rw [slice_get hj, slice_get hj]
                  exact (heq j (by omega)).1
                · rw [List.getElem?_eq_none (by rw [slice_len]; omega), List.getElem?_eq_none (by rw [slice_len]; omega)]
              · omega
            have hc := common_end (common_part (by omega) hn heq) hd
            rw [hc, if_neg (by omega)]
          · rw [common_all hn (by omega)]
            split <;> omega
        rw [e]
        exact q _ s4
    · refine ⟨fun m σ H2 => ∃ n : Nat, Same H H2 ∧ m = x.length - n ∧ σ = [some (.ref a), some (.ref b), some (.int 0), some (.int (n : Int)), none, none] ∧ x.take n = y.take n ∧ n ≤ 2000000, ⟨_, 0, Same.refl _, rfl, rfl, by rw [List.take_zero, List.take_zero], by omega⟩, ?_⟩
      rintro m σ H2 ⟨n, s2, rfl, rfl, hn, hnl⟩
      refine ⟨_, rfl, _, rfl, a, _, rfl, .inl (s2.seq ha), _, _, rfl, rfl, _, rfl, ?_⟩
      rw [hlen]
      by_cases hnx : n < x.length
      · rw [decide_eq_true (by omega)]
        refine iteT ?_
        refine ⟨_, rfl, _, rfl, _, rfl, _, rfl, _, _, rfl, rfl, _, rfl, a, _, rfl, s2.seq ha, fun p1 h1 => ?_⟩
        rw [cut_stride]
        have s3 : Same H (upd H2 p1 (.lst (vb (Sv13.slice x n 1024)))) := s2.trans (Same.new (Same.refl _) h1)
        refine ⟨_, rfl, _, rfl, _, rfl, _, rfl, _, _, rfl, rfl, _, rfl, b, _, rfl, s3.seq hb, fun p2 h2 => ?_⟩
        rw [cut_stride]
        have np : p1 ≠ p2 := ne_of_none upd_same h2
        have s4 : Same H (upd (upd H2 p1 (.lst (vb (Sv13.slice x n 1024)))) p2 (.lst (vb (Sv13.slice y n 1024)))) := s3.trans (Same.new (Same.refl _) h2)
        refine ⟨p1, p2, _, _, rfl, rfl, SqL.of (by rw [upd_ne np]; exact upd_same), SqL.of upd_same, _, rfl, ?_⟩
        by_cases heq : Sv13.slice x n 1024 = Sv13.slice y n 1024
        · have c : (if false = true then !decide (Sv13.slice x n 1024 = Sv13.slice y n 1024) else decide (Sv13.slice x n 1024 = Sv13.slice y n 1024)) = true := by
            rw [decide_eq_true heq]
            rfl
          rw [c]
          refine iteT ⟨_, fun σ' H' h => h, ?_⟩
          refine ⟨_, rfl, _, _, rfl, rfl, x.length - (n + 1024), by omega, n + 1024, s4, rfl, ?_, take_slice hn heq, by omega⟩
          rw [Int.natCast_add]
          rfl
        · have c : (if false = true then !decide (Sv13.slice x n 1024 = Sv13.slice y n 1024) else decide (Sv13.slice x n 1024 = Sv13.slice y n 1024)) = false := by
            rw [decide_eq_false heq]
            rfl
          rw [c]
          exact iteF (rest _ _ ⟨s4, n, rfl, hn, hnl, fun _ => heq⟩)
      · rw [decide_eq_false (by omega)]
        exact iteF (iteF (rest _ _ ⟨s2, n, rfl, hn, hnl, fun z => absurd z hnx⟩))
end
end KL
set_option Elab.async false
set_option linter.all false
set_option maxRecDepth 100000
namespace KL
open PySem PySem.W PyProof.Rows L2
section
variable {P : Program} {w : World} {K : Frag} {mg : Str → Option Value} {base : Heap}
def sp_key_between : Sp := fun vs H Q _ => ∃ (a b : Addr) (x y : List Nat), vs = [.ref a, .ref b] ∧ H a = some (.lst (vb x)) ∧ H b = some (.lst (vb y)) ∧ isByte y ∧ x.length ≤ 1000000 ∧ anyT a (vb (Sv13.between x y)) H Q
theorem sc_key_between : FnScope ["last", "following", "shared", "ended"] ["last", "following"] (defScope s_key_between) := ⟨rfl, rfl, rfl, by decide +kernel, rfl, by decide +kernel, by decide +kernel⟩
theorem fx_key_between (D : DefAt K mg "key_between" s_key_between) (C : Consts K mg) (F_shared_length : Fx P w K mg base "shared_length" 1 ["one", "other", "known"] (sp_shared_length K)) : Fx P w K mg base "key_between" 2 ["last", "following"] sp_key_between := by
  refine D.fx sc_key_between (fun _ _ _ _ _ _ us hl => by obtain ⟨_, _, rfl⟩ := ln2 hl; rfl) (fun vs H Q E h => ?_) (fun f cdv A outer s H vs Q E hr h => ?_)
  · obtain ⟨a, b, x, y, rfl, _⟩ := h
    rfl
  · obtain ⟨a, b, x, y, rfl, ha0, hb0, hy, hxl, q⟩ := h
    have ha : SqL K H a (vb x) := SqL.of ha0
    have hb : SqL K H b (vb y) := SqL.of hb0
    refine ⟨_, (pss_cons (ps_set (i := 2) sc_key_between.nd rfl (Or.inl rfl) (pe_fx F_shared_length (hr.mono (by decide)) rfl (pa_cons (pv 0) (pa_cons (pv 1) (pa_cons pe_int pa_nil)))))
      (pss_cons (ps_set (i := 3) sc_key_between.nd rfl (Or.inl rfl) (pe_or (pe_cmpR op_eq (pv 2) (pe_callB call_len_seq rfl C.nlen PySem.boot_len (pa_cons (pv 0) pa_nil)) (nomark _)) (pe_one (pe_cmpR op_eq (pv 2) (pe_callB call_len_seq rfl C.nlen PySem.boot_len (pa_cons (pv 1) pa_nil)) (nomark _)))))
      (pss_cons (ps_if (PW.pt (pw_and (pt_not (pt_val (pv 3))) (pw_and1 (pt_cmpR op_lt (pe_op op_add (pe_ix ix_list (pv 0) (pv 2) (fun _ _ => rfl)) pe_int) (pe_ix ix_list (pv 1) (pv 2) (fun _ _ => rfl)) (nomark _))))) (pss_one (ps_ret (pe_op op_cat (pe_slice sl_list (pv 0) po_none (po_some (pv 2))) (pe_lst (pa_cons (pe_op op_add (pe_ix ix_list (pv 0) (pv 2) (fun _ _ => rfl)) pe_int) pa_nil))))) pss_nil)
      (pss_one (ps_ret (pv 0)))))), ?_⟩
    try dsimp only [cxOf]
    have hc := My.common_le x y
    rw [between_eq hy] at q
    generalize hd : Sv13.common x y = d at q hc
    refine ⟨_, rfl, _, rfl, a, b, x, y, rfl, ha, hb, hxl, fun H1 s1 => ?_⟩
    rw [hd]
    have ha1 := s1.seq ha
    have hb1 := s1.seq hb
    refine ⟨_, rfl, _, rfl, a, _, rfl, .inl ha1, rfl, _, rfl, ?_⟩
    have back : (if x.length ≤ d ∨ y.length ≤ d then x else if x.getD d 0 + 1 < y.getD d 0 then x.take d ++ [x.getD d 0 + 1] else x) = x → Q (.ref a) H1 := fun e => by
      rw [e] at q
      exact q a H1 s1 (.inl rfl) (s1 _ _ ha0)
    by_cases h1 : d = x.length
    · have c1 : decide (V.int (d : Int) = V.int (((vb x).length : Nat) : Int)) = true := decide_eq_true (by rw [vb_length, h1])
      rw [c1]
      refine iteT ?_
      refine ⟨_, rfl, _, rfl, ?_⟩
      refine iteF (iteF ?_)
      refine ⟨_, rfl, back ?_⟩
      rw [if_pos (.inl (by omega))]
    · have c1 : decide (V.int (d : Int) = V.int (((vb x).length : Nat) : Int)) = false := decide_eq_false (by
        intro e
        injection e with e
        rw [vb_length] at e
        omega)
      rw [c1]
      refine iteF ?_
      refine ⟨_, rfl, _, rfl, b, _, rfl, .inl hb1, rfl, ?_⟩
      by_cases h2 : d = y.length
      · have c2 : decide (V.int (d : Int) = V.int (((vb y).length : Nat) : Int)) = true := decide_eq_true (by rw [vb_length, h2])
        rw [c2]
        refine ⟨_, rfl, _, rfl, ?_⟩
        refine iteF (iteF ?_)
        refine ⟨_, rfl, back ?_⟩
        rw [if_pos (.inr (by omega))]
      · have c2 : decide (V.int (d : Int) = V.int (((vb y).length : Nat) : Int)) = false := decide_eq_false (by
          intro e
          injection e with e
          rw [vb_length] at e
          omega)
        rw [c2]
        have hx : x[d]? = some x[d] := List.getElem?_eq_getElem (by omega)
        have hy' : y[d]? = some y[d] := List.getElem?_eq_getElem (by omega)
        have ex : x.getD d 0 = x[d] := by simp [List.getD, hx]
        have ey : y.getD d 0 = y[d] := by simp [List.getD, hy']
        rw [ex, ey] at back q
        refine ⟨_, rfl, _, rfl, ?_⟩
        refine iteT ?_
        refine ⟨_, rfl, _, rfl, a, _, _, _, rfl, rfl, ha1, vb_at hx, _, _, rfl, rfl, _, rfl, _, rfl, b, _, _, _, rfl, rfl, hb1, vb_at hy', _, _, rfl, rfl, _, rfl, ?_⟩
        by_cases h3 : x[d] + 1 < y[d]
        · have c3 : decide (((x[d] : Nat) : Int) + 1 < ((y[d] : Nat) : Int)) = true := decide_eq_true (by omega)
          rw [c3]
          refine iteT ?_
          rw [if_neg (by omega), if_pos h3] at q
          refine ⟨_, rfl, _, rfl, _, rfl, a, _, rfl, ha1, fun p hp => ?_⟩
          have s2 : Same H1 (upd H1 p (.lst (cutV (vb x) none (some (d : Int))))) := Same.new (Same.refl H1) hp
          refine ⟨_, rfl, _, rfl, a, _, _, _, rfl, rfl, s2.seq ha1, vb_at hx, _, _, rfl, rfl, (by show 1 ≤ sizeLine; decide), fun p2 hp2 => ?_⟩
          have np : p ≠ p2 := ne_of_none upd_same hp2
          refine ⟨p, p2, _, _, rfl, rfl, (by rw [upd_ne np]; exact upd_same), upd_same, le_size ?_, fun p3 hp3 => ?_⟩
          · have := cutV_length (vb x) none (some (d : Int))
            rw [vb_length] at this
            show (cutV (vb x) none (some (d : Int))).length + 1 ≤ _
            omega
          · refine q p3 _ (s1.trans (s2.trans (Same.new (Same.new (Same.refl _) hp2) hp3))) (.inr ((s1.trans (s2.trans (Same.new (Same.refl _) hp2))).free hp3)) ?_
            rw [upd_same, cut_to, vb_append, vb_take]
            rfl
        · have c3 : decide (((x[d] : Nat) : Int) + 1 < ((y[d] : Nat) : Int)) = false := decide_eq_false (by omega)
          rw [c3]
          refine iteF ?_
          refine ⟨_, rfl, back ?_⟩
          rw [if_neg (by omega), if_neg h3]
end
end KL
set_option Elab.async false
set_option linter.all false
set_option maxRecDepth 100000
namespace KL
open PySem PySem.W PyProof.Rows L2
section
variable {P : Program} {w : World} {K : Frag} {mg : Str → Option Value} {base : Heap}
def sp_key_behind : Sp := fun vs H Q _ => ∃ (a : Addr) (x : List Nat), vs = [.ref a] ∧ H a = some (.lst (vb x)) ∧ x.length ≤ 1000000 ∧ anyT a (vb (Sv13.behind x)) H Q
theorem sc_key_behind : FnScope ["last", "place", "byte"] ["last"] (defScope s_key_behind) := ⟨rfl, rfl, rfl, by decide +kernel, rfl, by decide +kernel, by decide +kernel⟩
theorem fx_key_behind (D : DefAt K mg "key_behind" s_key_behind) (C : Consts K mg) : Fx P w K mg base "key_behind" 1 ["last"] sp_key_behind := by
  refine D.fx sc_key_behind (fun _ _ _ _ _ _ us hl => by obtain ⟨_, rfl⟩ := ln1 hl; rfl) (fun vs H Q E h => ?_) (fun f cdv A outer s H vs Q E hr h => ?_)
  · obtain ⟨a, x, rfl, _⟩ := h
    rfl
  · obtain ⟨a, x, rfl, ha0, hxl, q⟩ := h
    have ha : SqL K H a (vb x) := SqL.of ha0
    refine ⟨_, (pss_cons (ps_for PassesOwn.never rfl (pi_enum rfl C.nenumerate (pa_cons (pv 0) pa_nil)) (pg_tup rfl (pgs_cons (pg_name (i := 1) sc_key_behind.nd rfl (Or.inl rfl)) (pgs_cons (pg_name (i := 2) sc_key_behind.nd rfl (Or.inl rfl)) pgs_nil))) (pss_one (ps_if (pt_cmpR op_ne (pv 2) pe_int (nomark _)) (pss_one (ps_ret (pe_op op_cat (pe_slice sl_list (pv 0) po_none (po_some (pv 1))) (pe_lst (pa_cons (pe_op op_add (pv 2) pe_int) pa_nil))))) pss_nil)))
      (pss_one (ps_ret (pv 0)))), ?_⟩
    try dsimp only [cxOf]
    refine ⟨_, rfl, a, _, rfl, ha, for_enum (K := K) (a := a) (xs := vb x) (fun i σ H2 => Same H H2 ∧ (∀ j, j < i → x[j]? = some 255) ∧ ∃ v u, σ = [some (.ref a), v, u])
      ⟨Same.refl H, fun j hj => absurd hj (Nat.not_lt_zero _), none, none, rfl⟩ (fun i σ H2 ⟨hs, _⟩ => hs.seq ha) ?_ ?_⟩
    · rintro i v T σ H2 hv hT ⟨hs, heq, v1, v2, rfl⟩
      obtain ⟨m, hm, rfl⟩ := vb_get hv
      refine ⟨T, _, rfl, .inl (.inl upd_same), rfl, _, _, rfl, _, _, rfl, rfl, ?_⟩
      have hs1 : Same H (upd H2 T (.tup [V.int (i : Int), V.int (m : Int)])) := Same.new hs hT
      refine ⟨_, rfl, rfl, _, rfl, ?_⟩
      by_cases hm2 : m = 255
      · have c : (!decide (V.int (m : Int) = V.int 255)) = false := by
          rw [decide_eq_true (by rw [hm2]; rfl)]
          rfl
        rw [c]
        refine iteF ?_
        refine ⟨hs1, fun j hj => ?_, _, _, rfl⟩
        by_cases hji : j < i
        · exact heq j hji
        · have : j = i := by omega
          subst this
          rw [hm, hm2]
      · have c : (!decide (V.int (m : Int) = V.int 255)) = true := by
          rw [decide_eq_false]
          · rfl
          · intro e
            injection e with e
            omega
        rw [c]
        refine iteT ?_
        rw [behind_at heq hm hm2] at q
        refine ⟨_, rfl, _, rfl, _, rfl, a, _, rfl, hs1.seq ha, fun p hp => ?_⟩
        refine ⟨_, rfl, _, _, rfl, rfl, (by show 1 ≤ sizeLine; decide), fun p2 hp2 => ?_⟩
        have np : p ≠ p2 := ne_of_none upd_same hp2
        refine ⟨p, p2, _, _, rfl, rfl, (by rw [upd_ne np]; exact upd_same), upd_same, le_size ?_, fun p3 hp3 => ?_⟩
        · have := cutV_length (vb x) none (some (i : Int))
          rw [vb_length] at this
          show (cutV (vb x) none (some (i : Int))).length + 1 ≤ _
          omega
        · refine q p3 _ (hs1.trans (Same.new (Same.new (Same.new (Same.refl _) hp) hp2) hp3)) (.inr ((hs1.trans (Same.new (Same.new (Same.refl _) hp) hp2)).free hp3)) ?_
          rw [upd_same, cut_to, vb_append, vb_take]
          rfl
    · rintro σ H2 ⟨hs, heq, v1, v2, rfl⟩
      rw [vb_length] at heq
      rw [behind_all heq] at q
      exact ⟨_, rfl, q a H2 hs (.inl rfl) (hs _ _ ha0)⟩
end
end KL
set_option Elab.async false
set_option linter.all false
set_option maxRecDepth 100000
namespace KL
open PySem PySem.W PyProof.Rows L2
section
variable {P : Program} {w : World} {K : Frag} {mg : Str → Option Value} {base : Heap}
structure BlockWriterCls (K : Frag) (C : Addr) : Prop where
  cl : Cls K C
  nI : NoAttr K C "interval"
  nB : NoAttr K C "body"
  nR : NoAttr K C "restarts"
  nE : NoAttr K C "entries"
  nL : NoAttr K C "last_key"
def fsW (iv : Nat) (lb lr : Addr) (n : Nat) (lk : Addr) : List (Str × V) := [("interval", .int (iv : Int)), ("body", .ref lb), ("restarts", .ref lr), ("entries", .int (n : Int)), ("last_key", .ref lk)]
section
variable {iv n : Nat} {lb lr lk : Addr}
theorem fsW_interval : (fsW iv lb lr n lk).lookup ("interval" : Str) = some (.int (iv : Int)) := lk_here
theorem fsW_body : (fsW iv lb lr n lk).lookup ("body" : Str) = some (.ref lb) := lk_next (by decide +kernel) lk_here
theorem fsW_restarts : (fsW iv lb lr n lk).lookup ("restarts" : Str) = some (.ref lr) := lk_next (by decide +kernel) (lk_next (by decide +kernel) lk_here)
theorem fsW_entries : (fsW iv lb lr n lk).lookup ("entries" : Str) = some (.int (n : Int)) := lk_next (by decide +kernel) (lk_next (by decide +kernel) (lk_next (by decide +kernel) lk_here))
theorem fsW_last : (fsW iv lb lr n lk).lookup ("last_key" : Str) = some (.ref lk) := lk_next (by decide +kernel) (lk_next (by decide +kernel) (lk_next (by decide +kernel) (lk_next (by decide +kernel) lk_here)))
theorem fsW_no {m : Str} (h : ∀ x ∈ (["interval", "body", "restarts", "entries", "last_key"] : List Str), (m == x) = false) : (fsW iv lb lr n lk).lookup m = none :=
  lk_next (h _ (by simp)) (lk_next (h _ (by simp)) (lk_next (h _ (by simp)) (lk_next (h _ (by simp)) (lk_next (h _ (by simp)) lk_nil))))
theorem fsW_put : (fsW iv lb lr n lk).lookup ("put" : Str) = none := fsW_no (by decide +kernel)
theorem fsW_size : (fsW iv lb lr n lk).lookup ("size" : Str) = none := fsW_no (by decide +kernel)
theorem fsW_content : (fsW iv lb lr n lk).lookup ("content" : Str) = none := fsW_no (by decide +kernel)
theorem putW_entries {m : Nat} {z : Int} (e : z = (m : Int)) : putF "entries" (.int z) (fsW iv lb lr n lk) = fsW iv lb lr m lk := by
  subst e
  unfold fsW
  simp (disch := decide +kernel) only [pf_nil, pf_here, pf_next]
theorem putW_last {lk' : Addr} : putF "last_key" (.ref lk') (fsW iv lb lr n lk) = fsW iv lb lr n lk' := by
  unfold fsW
  simp (disch := decide +kernel) only [pf_nil, pf_here, pf_next]
theorem fsW_made : putF "last_key" (.ref lk) (putF "entries" (.int 0) (putF "restarts" (.ref lr) (putF "body" (.ref lb) (putF "interval" (.int (iv : Int)) [])))) = fsW iv lb lr 0 lk := by
  unfold fsW
  simp (disch := decide +kernel) only [pf_nil, pf_here, pf_next]
  rfl
end
structure WF where
  p : Addr
  dx : Addr
  lb : Addr
  lr : Addr
  lk : Addr
def WF.foot (F : WF) : List Addr := [F.p, F.lb, F.lr]
structure WAt (C : Addr) (G H : Hp) (F : WF) (iv : Nat) (b : My.BW) : Prop where
  ob : H F.p = some (.ins C F.dx (fsW iv F.lb F.lr b.n F.lk))
  hb : H F.lb = some (.lst (vb b.body))
  hr : H F.lr = some (.lst (vb b.rs))
  hk : G F.lk = some (.lst (vb b.last))
  ne : F.lb ≠ F.lr
  gp : G F.p = none
  gb : G F.lb = none
  gr : G F.lr = none
  sg : Same G H
section
variable {C : Addr} {G H H' : Hp} {F : WF} {iv : Nat} {b : My.BW}
theorem WAt.isS (W : WAt C G H F iv b) {x : Addr} (hx : x ∈ F.foot) : H x ≠ none := by
  have h : x = F.p ∨ x = F.lb ∨ x = F.lr := by simpa [WF.foot] using hx
  rcases h with rfl | rfl | rfl
  · rw [W.ob]; simp
  · rw [W.hb]; simp
  · rw [W.hr]; simp
theorem WAt.gS (W : WAt C G H F iv b) {x : Addr} (hx : x ∈ F.foot) : G x = none := by
  have h : x = F.p ∨ x = F.lb ∨ x = F.lr := by simpa [WF.foot] using hx
  rcases h with rfl | rfl | rfl
  · exact W.gp
  · exact W.gb
  · exact W.gr
theorem WAt.kb (W : WAt C G H F iv b) {T : List Addr} (k : KB T H H') (d : ∀ x ∈ F.foot, x ∉ T) (s : Same G H') : WAt C G H' F iv b :=
  ⟨k _ _ W.ob (d _ (by simp [WF.foot])), k _ _ W.hb (d _ (by simp [WF.foot])), k _ _ W.hr (d _ (by simp [WF.foot])), W.hk, W.ne, W.gp, W.gb, W.gr, s⟩
theorem WAt.same (W : WAt C G H F iv b) (s : Same H H') : WAt C G H' F iv b := ⟨s _ _ W.ob, s _ _ W.hb, s _ _ W.hr, W.hk, W.ne, W.gp, W.gb, W.gr, W.sg.trans s⟩
theorem WAt.frz (W : WAt C G H F iv b) {l : Addr} {o : HO} (hl : H l = some o) (gl : G l = none) (n : l ∉ F.foot) : WAt C (upd G l o) H F iv b := by
  have q : ∀ x ∈ F.foot, (upd G l o) x = none := fun x hx => by
    rw [upd_ne (fun z => n (by rw [← z]; exact hx))]
    exact W.gS hx
  refine ⟨W.ob, W.hb, W.hr, ?_, W.ne, q _ (by simp [WF.foot]), q _ (by simp [WF.foot]), q _ (by simp [WF.foot]), Same.grow W.sg hl⟩
  rw [upd_ne (ne_of_none W.hk gl)]
  exact W.hk
theorem WAt.fresh (W : WAt C G H F iv b) {l : Addr} (hl : H l = none) : l ∉ F.foot := fun z => W.isS z hl
end
theorem same_kb {G H H' : Hp} {S : List Addr} (s : Same G H) (k : KB S H H') (h : ∀ x ∈ S, G x = none) : Same G H' := fun b o e => k b o (s b o e) fun z => by
  rw [h b z] at e
  cases e
def sp_W_init (C : Addr) : Sp := fun vs H Q _ => ∃ (p dx : Addr) (iv : Nat) (G : Hp), vs = [.ref p, .int (iv : Int)] ∧ H p = some (.ins C dx []) ∧ Same G H ∧ G p = none ∧
  ∀ (F : WF) (H' : Hp), F.p = p → WAt C (upd G F.lk (.lst [])) H' F iv My.BW.new → (∀ x ∈ [F.lb, F.lr, F.lk], H x = none) → KB [p] H H' → Q .non H'
theorem sc_BlockWriter_init : FnScope ["self", "interval"] ["self", "interval"] (defScope s_BlockWriter_init) := ⟨rfl, rfl, rfl, by decide +kernel, rfl, by decide +kernel, by decide +kernel⟩
theorem mx_W_init {C : Addr} (D : MakeAt K mg "BlockWriter" C "BlockWriter.__init__" s_BlockWriter_init) (T : BlockWriterCls K C) : Mkx P w K mg base "BlockWriter" C 1 ["self", "interval"] (sp_W_init C) := by
  refine D.mx sc_BlockWriter_init (fun _ _ _ _ _ _ us hl => by obtain ⟨_, _, rfl⟩ := ln2 hl; rfl) (fun vs H Q E h => ?_) (fun f cdv A outer s H vs Q E hr h => ?_)
  · obtain ⟨p, dx, iv, G, rfl, _⟩ := h
    rfl
  · obtain ⟨p, dx, iv, G, rfl, hp, sg, gp, q⟩ := h
    refine ⟨_, (pss_cons (ps_fld (pv 0) (pv 1) rfl)
      (pss_cons (ps_fld (pv 0) (pe_lst pa_nil) rfl)
      (pss_cons (ps_fld (pv 0) (pe_lst (pa_cons pe_int pa_nil)) rfl)
      (pss_cons (ps_fld (pv 0) pe_int rfl)
      (pss_one (ps_fld (pv 0) (pe_lst pa_nil) rfl)))))), ?_⟩
    try dsimp only [cxOf]
    refine ⟨_, rfl, _, rfl, rfs hp T.cl T.nI (by show 0 < 1000; decide) ?_⟩
    refine ⟨Nat.zero_le _, fun lb hlb => ?_⟩
    have nb : p ≠ lb := ne_of_none upd_same hlb
    refine ⟨_, rfl, rfs (by rw [upd_ne nb]; exact upd_same) T.cl T.nB (by show 1 < 1000; decide) ?_⟩
    refine ⟨(by show 1 ≤ sizeLine; decide), fun lr hlr => ?_⟩
    have nr : p ≠ lr := ne_of_none upd_same hlr
    have nbr : lb ≠ lr := ne_of_none (by rw [upd_ne nb.symm]; exact upd_same) hlr
    refine ⟨_, rfl, rfs (by rw [upd_ne nr]; exact upd_same) T.cl T.nR (by show 2 < 1000; decide) ?_⟩
    refine ⟨_, rfl, rfs upd_same T.cl T.nE (by show 3 < 1000; decide) ?_⟩
    refine ⟨Nat.zero_le _, fun lk hlk => ?_⟩
    have nk : p ≠ lk := ne_of_none upd_same hlk
    have nbk : lb ≠ lk := ne_of_none (by rw [upd_ne nb.symm, upd_ne nb.symm, upd_ne nbr, upd_ne nb.symm]; exact upd_same) hlk
    have nrk : lr ≠ lk := ne_of_none (by rw [upd_ne nr.symm, upd_ne nr.symm]; exact upd_same) hlk
    refine ⟨_, rfl, rfs (by rw [upd_ne nk]; exact upd_same) T.cl T.nL (by show 4 < 1000; decide) ?_⟩
    rw [upd_ne nb.symm] at hlb
    rw [upd_ne nr.symm, upd_ne nbr.symm, upd_ne nr.symm] at hlr
    rw [upd_ne nk.symm, upd_ne nk.symm, upd_ne nrk.symm, upd_ne nk.symm, upd_ne nbk.symm, upd_ne nk.symm] at hlk
    have e1 : ∀ {b o}, H b = some o → b ≠ lb ∧ b ≠ lr ∧ b ≠ lk := fun {b o} e => ⟨ne_of_none e hlb, ne_of_none e hlr, ne_of_none e hlk⟩
    have kp : KB [p] H (upd (upd (upd (upd (upd (upd (upd (upd H p (.ins C dx (putF "interval" (.int (iv : Int)) []))) lb (.lst [])) p (.ins C dx (putF "body" (.ref lb) (putF "interval" (.int (iv : Int)) [])))) lr (.lst [V.int 0])) p (.ins C dx (putF "restarts" (.ref lr) (putF "body" (.ref lb) (putF "interval" (.int (iv : Int)) []))))) p (.ins C dx (putF "entries" (.int 0) (putF "restarts" (.ref lr) (putF "body" (.ref lb) (putF "interval" (.int (iv : Int)) [])))))) lk (.lst [])) p (.ins C dx (putF "last_key" (.ref lk) (putF "entries" (.int 0) (putF "restarts" (.ref lr) (putF "body" (.ref lb) (putF "interval" (.int (iv : Int)) []))))))) := by
      intro b o e hb
      have hb : b ≠ p := by simpa using hb
      obtain ⟨n1, n2, n3⟩ := e1 e
      rw [upd_ne hb, upd_ne n3, upd_ne hb, upd_ne hb, upd_ne n2, upd_ne hb, upd_ne n1, upd_ne hb]
      exact e
    have hq := q ⟨p, dx, lb, lr, lk⟩ _ rfl ?_ ?_ kp
    · exact hq
    · have gk : G lk = none := sg.free hlk
      refine ⟨?_, ?_, ?_, upd_same, nbr, ?_, ?_, ?_, ?_⟩
      · show (upd _ p _) p = _
        rw [upd_same, fsW_made]
        rfl
      · show (upd _ p _) lb = _
        rw [upd_ne nb.symm, upd_ne nbk, upd_ne nb.symm, upd_ne nb.symm, upd_ne nbr, upd_ne nb.symm]
        exact upd_same
      · show (upd _ p _) lr = _
        rw [upd_ne nr.symm, upd_ne nrk, upd_ne nr.symm, upd_ne nr.symm]
        exact upd_same
      · show (upd G lk _) p = none
        rw [upd_ne nk]
        exact gp
      · show (upd G lk _) lb = none
        rw [upd_ne nbk]
        exact sg.free hlb
      · show (upd G lk _) lr = none
        rw [upd_ne nrk]
        exact sg.free hlr
      · refine Same.grow (same_kb sg kp fun x hx => ?_) ?_
        · have : x = p := by simpa using hx
          rw [this]
          exact gp
        · show (upd _ p _) lk = _
          rw [upd_ne nk.symm]
          exact upd_same
    · intro x hx
      have hx : x = lb ∨ x = lr ∨ x = lk := by simpa using hx
      rcases hx with rfl | rfl | rfl
      · exact hlb
      · exact hlr
      · exact hlk
def sp_W_size (C : Addr) : Sp := fun vs H Q _ => ∃ (F : WF) (G : Hp) (iv : Nat) (b : My.BW), vs = [.ref F.p] ∧ WAt C G H F iv b ∧ Q (.int ((b.size : Nat) : Int)) H
theorem sc_BlockWriter_size : FnScope ["self"] ["self"] (defScope s_BlockWriter_size) := ⟨rfl, rfl, rfl, by decide +kernel, rfl, by decide +kernel, by decide +kernel⟩
theorem mx_W_size {C : Addr} (D : MethAt K C "size" "BlockWriter.size" s_BlockWriter_size) (T : BlockWriterCls K C) (Cs : Consts K mg) : Mtx P w K mg base C "size" 1 ["self"] (sp_W_size C) := by
  refine D.mx T.cl sc_BlockWriter_size (fun _ _ _ _ _ _ us hl => by obtain ⟨_, rfl⟩ := ln1 hl; rfl) (fun vs H Q E h => ?_) (fun f cdv A outer s H vs Q E hr h => ?_)
  · obtain ⟨F, G, iv, b, rfl, _⟩ := h
    rfl
  · obtain ⟨F, G, iv, b, rfl, W, q⟩ := h
    refine ⟨_, (pss_one (ps_ret (pe_op op_add (pe_callB call_len_seq rfl Cs.nlen PySem.boot_len (pa_cons (pe_fld (pv 0) rfl) pa_nil)) (pe_op op_mul (pe_gint rfl Cs.NUMBER_WIDTH) (pe_op op_add (pe_callB call_len_seq rfl Cs.nlen PySem.boot_len (pa_cons (pe_fld (pv 0) rfl) pa_nil)) pe_int))))), ?_⟩
    try dsimp only [cxOf]
    refine ⟨_, rfl, rfd W.ob T.cl T.nB fsW_body ⟨F.lb, _, rfl, .inl (SqL.of W.hb), _, rfl, rfd W.ob T.cl T.nR fsW_restarts ⟨F.lr, _, rfl, .inl (SqL.of W.hr), _, _, rfl, rfl, _, _, rfl, rfl, .inl ⟨by decide, by decide⟩, _, _, rfl, rfl, ?_⟩⟩⟩
    have e : (((vb b.body).length : Nat) : Int) + 4 * ((((vb b.rs).length : Nat) : Int) + 1) = ((b.size : Nat) : Int) := by
      rw [vb_length, vb_length]
      unfold My.BW.size
      omega
    rw [← e] at q
    exact q
def sp_W_content (C : Addr) : Sp := fun vs H Q _ => ∃ (F : WF) (G : Hp) (iv : Nat) (b : My.BW), vs = [.ref F.p] ∧ WAt C G H F iv b ∧ b.size ≤ 10000000 ∧ newL (vb b.content) H Q
theorem sc_BlockWriter_content : FnScope ["self", "content", "restart"] ["self"] (defScope s_BlockWriter_content) := ⟨rfl, rfl, rfl, by decide +kernel, rfl, by decide +kernel, by decide +kernel⟩
theorem flat_len (l : List Nat) : (l.flatMap (Sv13.little 4)).length = 4 * l.length := by
  induction l with
  | nil => rfl
  | cons x r ih => rw [List.flatMap_cons, List.length_append, ih, My.little_length, List.length_cons]; omega
theorem flat_snoc (l : List Nat) (x : Nat) : (l ++ [x]).flatMap (Sv13.little 4) = l.flatMap (Sv13.little 4) ++ Sv13.little 4 x := by simp
theorem mx_W_content {C : Addr} (D : MethAt K C "content" "BlockWriter.content" s_BlockWriter_content) (T : BlockWriterCls K C) (Cs : Consts K mg) (F_fixed : Fx P w K mg base "fixed" 1 ["number", "width"] sp_fixed) : Mtx P w K mg base C "content" 2 ["self"] (sp_W_content C) := by
  refine D.mx T.cl sc_BlockWriter_content (fun _ _ _ _ _ _ us hl => by obtain ⟨_, rfl⟩ := ln1 hl; rfl) (fun vs H Q E h => ?_) (fun f cdv A outer s H vs Q E hr h => ?_)
  · obtain ⟨F, G, iv, b, rfl, _⟩ := h
    rfl
  · obtain ⟨F, G, iv, b, rfl, W, hsz, q⟩ := h
    have hsz' : b.body.length + 4 * b.rs.length + 4 ≤ 10000000 := hsz
    refine ⟨_, (pss_cons (ps_set (i := 1) sc_BlockWriter_content.nd rfl (Or.inl rfl) (pe_callTy call_list_of rfl Cs.nlist PyProof.Rows.boot_list (pa_cons (pe_fld (pv 0) rfl) pa_nil)))
      (pss_cons (ps_for PassesOwn.never rfl (pi_list (pe_fld (pv 0) rfl)) (pg_name (i := 2) sc_BlockWriter_content.nd rfl (Or.inl rfl)) (pss_one (ps_expr (pe_bm PySem.F.plainAttrs_list PySem.F.slot_list_extend PySem.F.type_list_extend mt_extend (pv 1) (pa_cons (pe_fx F_fixed (hr.mono (by decide)) rfl (pa_cons (pv 2) (pa_cons (pe_gint rfl Cs.NUMBER_WIDTH) pa_nil))) pa_nil)))))
      (pss_cons (ps_expr (pe_bm PySem.F.plainAttrs_list PySem.F.slot_list_extend PySem.F.type_list_extend mt_extend (pv 1) (pa_cons (pe_fx F_fixed (hr.mono (by decide)) rfl (pa_cons (pe_callB call_len_seq rfl Cs.nlen PySem.boot_len (pa_cons (pe_fld (pv 0) rfl) pa_nil)) (pa_cons (pe_gint rfl Cs.NUMBER_WIDTH) pa_nil))) pa_nil)))
      (pss_one (ps_ret (pv 1)))))), ?_⟩
    try dsimp only [cxOf]
    refine ⟨_, rfl, rfd W.ob T.cl T.nB fsW_body ⟨F.lb, _, rfl, .inl (SqL.of W.hb), fun l hl => ?_⟩⟩
    have s0 : Same H (upd H l (.lst (vb b.body))) := Same.new (Same.refl H) hl
    refine ⟨_, rfl, rfd (s0 _ _ W.ob) T.cl T.nR fsW_restarts ⟨F.lr, rfl, ⟨_, SqL.of (s0 _ _ W.hr)⟩, for_list (K := K) (a := F.lr) (xs := vb b.rs) (fun i σ H2 => Same H H2 ∧ H2 l = some (.lst (vb (b.body ++ (b.rs.take i).flatMap (Sv13.little 4)))) ∧ ∃ v, σ = [some (.ref F.p), some (.ref l), v])
      ⟨s0, ?_, none, rfl⟩ (fun i σ H2 _ ⟨hs, _⟩ => SqL.of (hs _ _ W.hr)) ?_ ?_⟩⟩
    · rw [upd_same]
      simp
    · rintro i x σ H2 hx ⟨hs, hl2, v, rfl⟩
      obtain ⟨m, hm, rfl⟩ := vb_get hx
      have hi : i < b.rs.length := (List.getElem?_eq_some_iff.mp hm).1
      refine ⟨_, rfl, .inl ⟨rfl, _, SqL.of hl2⟩, _, rfl, m, 4, rfl, by decide, fun l2 H3 s3 hn h3 => ?_⟩
      refine ⟨l, l2, _, _, rfl, rfl, s3 _ _ hl2, h3, le_size ?_, ?_⟩
      · rw [vb_length, vb_length, My.little_length, List.length_append, flat_len, List.length_take]
        omega
      · refine ⟨Same.upd (hs.trans s3) hl, ?_, _, rfl⟩
        rw [upd_same, ← vb_append, List.take_succ, hm, List.append_assoc, ← flat_snoc]
        rfl
    · rintro σ H2 ⟨hs, hl2, v, rfl⟩
      rw [vb_length, List.take_length] at hl2
      refine ⟨_, rfl, .inl ⟨rfl, _, SqL.of hl2⟩, _, rfl, rfd (hs _ _ W.ob) T.cl T.nR fsW_restarts ⟨F.lr, _, rfl, .inl (SqL.of (hs _ _ W.hr)), b.rs.length, 4, ?_, by decide, fun l2 H3 s3 hn h3 => ?_⟩⟩
      · show [V.int (((vb b.rs).length : Nat) : Int), V.int 4] = _
        rw [vb_length]
        rfl
      · refine ⟨l, l2, _, _, rfl, rfl, s3 _ _ hl2, h3, le_size ?_, _, rfl, ?_⟩
        · rw [vb_length, vb_length, My.little_length, List.length_append, flat_len]
          omega
        · refine q l _ (Same.upd (hs.trans s3) hl) hl ?_
          rw [upd_same, ← vb_append]
          rfl
end
end KL
set_option Elab.async false
set_option linter.all false
set_option maxRecDepth 100000
namespace KL
open PySem PySem.W PyProof.Rows L2
section
variable {P : Program} {w : World} {K : Frag} {mg : Str → Option Value} {base : Heap}
structure PutSt (C : Addr) (F : WF) (iv n : Nat) (H H1 : Hp) (body rs : List Nat) : Prop where
  hp : H1 F.p = some (.ins C F.dx (fsW iv F.lb F.lr n F.lk))
  hb : H1 F.lb = some (.lst (vb body))
  hr : H1 F.lr = some (.lst (vb rs))
  kp : KB F.foot H H1
section
variable {C : Addr} {F : WF} {iv n : Nat} {H H1 H2 : Hp} {body rs mr : List Nat}
theorem PutSt.same (h : PutSt C F iv n H H1 body rs) (s : Same H1 H2) : PutSt C F iv n H H2 body rs := ⟨s _ _ h.hp, s _ _ h.hb, s _ _ h.hr, h.kp.trans (KB.of s)⟩
theorem PutSt.more (h : PutSt C F iv n H H1 body rs) (ne : F.lb ≠ F.lr) : PutSt C F iv n H (upd H1 F.lb (.lst (vb body ++ vb mr))) (body ++ mr) rs := by
  have n1 : F.p ≠ F.lb := ne_of h.hp h.hb (by intro z; cases z)
  exact ⟨by rw [upd_ne n1]; exact h.hp, by rw [upd_same, vb_append], by rw [upd_ne ne.symm]; exact h.hr, KB.upd h.kp (by simp [WF.foot])⟩
end
def sp_W_put (C : Addr) : Sp := fun vs H Q _ => ∃ (F : WF) (G : Hp) (k v : Addr) (iv : Nat) (b : My.BW) (key val : List Nat), vs = [.ref F.p, .ref k, .ref v, .int 0] ∧ WAt C G H F iv b ∧ G k = some (.lst (vb key)) ∧ G v = some (.lst (vb val)) ∧
  0 < iv ∧ b.body.length + key.length + val.length ≤ 10000000 ∧ b.rs.length ≤ 10000000 ∧ b.last.length ≤ 1000000 ∧
  ∀ H', WAt C G H' { F with lk := k } iv (b.put iv key val) → KB F.foot H H' → Q .non H'
theorem sc_BlockWriter_put : FnScope ["self", "key", "value", "known", "shared"] ["self", "key", "value", "known"] (defScope s_BlockWriter_put) := ⟨rfl, rfl, rfl, by decide +kernel, rfl, by decide +kernel, by decide +kernel⟩
theorem pow128 {n : Nat} (h : n ≤ 100000000) : n < 128 ^ 10 := Nat.lt_of_le_of_lt h (by decide)
theorem mx_W_put {C : Addr} (D : MethAt K C "put" "BlockWriter.put" s_BlockWriter_put) (T : BlockWriterCls K C) (Cs : Consts K mg) (F_shared_length : Fx P w K mg base "shared_length" 1 ["one", "other", "known"] (sp_shared_length K)) (F_varint : Fx P w K mg base "varint" 1 ["number"] sp_varint) :
    Mtx P w K mg base C "put" 2 ["self", "key", "value", "known"] (sp_W_put C) := by
  refine D.mx T.cl sc_BlockWriter_put (fun _ _ _ _ _ _ us hl => by obtain ⟨_, _, _, _, rfl⟩ := ln4 hl; rfl) (fun vs H Q E h => ?_) (fun f cdv A outer s H vs Q E hr h => ?_)
  · obtain ⟨F, G, k, v, iv, b, key, val, rfl, _⟩ := h
    rfl
  · obtain ⟨F, G, k, v, iv, b, key, val, rfl, W, hk, hv, hiv, hsz, hrs, hll, q⟩ := h
    refine ⟨_, (pss_cons (ps_set (i := 4) sc_BlockWriter_put.nd rfl (Or.inl rfl) pe_int)
      (pss_cons (ps_if (pt_cmpR op_ne (pe_op op_mod (pe_fld (pv 0) rfl) (pe_fld (pv 0) rfl)) pe_int (nomark _)) (pss_one (ps_set (i := 4) sc_BlockWriter_put.nd rfl (Or.inl rfl) (pe_fx F_shared_length (hr.mono (by decide)) rfl (pa_cons (pe_fld (pv 0) rfl) (pa_cons (pv 1) (pa_cons (pv 3) pa_nil)))))) (pss_one (ps_if (pt_cmpR op_gt (pe_fld (pv 0) rfl) pe_int (nomark _)) (pss_one (ps_expr (pe_bm PySem.F.plainAttrs_list PySem.F.slot_list_append PySem.F.type_list_append mt_append (pe_fld (pv 0) rfl) (pa_cons (pe_callB call_len_seq rfl Cs.nlen PySem.boot_len (pa_cons (pe_fld (pv 0) rfl) pa_nil)) pa_nil)))) pss_nil)))
      (pss_cons (ps_expr (pe_bm PySem.F.plainAttrs_list PySem.F.slot_list_extend PySem.F.type_list_extend mt_extend (pe_fld (pv 0) rfl) (pa_cons (pe_fx F_varint (hr.mono (by decide)) rfl (pa_cons (pv 4) pa_nil)) pa_nil)))
      (pss_cons (ps_expr (pe_bm PySem.F.plainAttrs_list PySem.F.slot_list_extend PySem.F.type_list_extend mt_extend (pe_fld (pv 0) rfl) (pa_cons (pe_fx F_varint (hr.mono (by decide)) rfl (pa_cons (pe_op op_sub (pe_callB call_len_seq rfl Cs.nlen PySem.boot_len (pa_cons (pv 1) pa_nil)) (pv 4)) pa_nil)) pa_nil)))
      (pss_cons (ps_expr (pe_bm PySem.F.plainAttrs_list PySem.F.slot_list_extend PySem.F.type_list_extend mt_extend (pe_fld (pv 0) rfl) (pa_cons (pe_fx F_varint (hr.mono (by decide)) rfl (pa_cons (pe_callB call_len_seq rfl Cs.nlen PySem.boot_len (pa_cons (pv 2) pa_nil)) pa_nil)) pa_nil)))
      (pss_cons (ps_expr (pe_bm PySem.F.plainAttrs_list PySem.F.slot_list_extend PySem.F.type_list_extend mt_extend (pe_fld (pv 0) rfl) (pa_cons (pe_slice sl_list (pv 1) (po_some (pv 4)) po_none) pa_nil)))
      (pss_cons (ps_expr (pe_bm PySem.F.plainAttrs_list PySem.F.slot_list_extend PySem.F.type_list_extend mt_extend (pe_fld (pv 0) rfl) (pa_cons (pv 2) pa_nil)))
      (pss_cons (ps_fldaug (pv 0) pe_int in_add)
      (pss_one (ps_fld (pv 0) (pv 1) rfl)))))))))), ?_⟩
    try dsimp only [cxOf]
    have npb : F.p ≠ F.lb := ne_of W.ob W.hb (by intro z; cases z)
    have npr : F.p ≠ F.lr := ne_of W.ob W.hr (by intro z; cases z)
    have npk : k ≠ F.p := ne_of_none hk W.gp
    have sk : ∀ {H9 : Hp}, KB F.foot H H9 → Same G H9 := fun kb => same_kb W.sg kb fun x hx => W.gS hx
    have hk3 : ∀ {H9 : Hp}, KB F.foot H H9 → H9 k = some (.lst (vb key)) := fun kb => sk kb _ _ hk
    have hv3 : ∀ {H9 : Hp}, KB F.foot H H9 → H9 v = some (.lst (vb val)) := fun kb => sk kb _ _ hv
    have hshle := My.sh_le iv b key
    refine set_cut ?_
    refine seq_cut (fun σ' H' => σ' = [some (.ref F.p), some (.ref k), some (.ref v), some (.int 0), some (.int ((b.sh iv key : Nat) : Int))] ∧ PutSt C F iv b.n H H' b.body (b.put iv key val).rs) ?_ fun rest => ?_
    · rintro σ' H1 ⟨rfl, S1⟩
      generalize hsh : b.sh iv key = sh at hshle
      have hput : (b.put iv key val).body = b.body ++ Sv13.varint sh ++ Sv13.varint (key.length - sh) ++ Sv13.varint val.length ++ key.drop sh ++ val := by
        rw [← hsh]
        rfl
      generalize hrs' : (b.put iv key val).rs = rs' at S1
      have v1 := My.varint_length sh
      have v2 := My.varint_length (key.length - sh)
      have v3 := My.varint_length val.length
      refine ⟨_, rfl, rfd S1.hp T.cl T.nB fsW_body ⟨.inl ⟨rfl, _, SqL.of S1.hb⟩, _, rfl, sh, rfl, pow128 (by omega), fun l H2 s2 hn h2' => ?_⟩⟩
      have S2 := S1.same s2
      refine ⟨F.lb, l, _, _, rfl, rfl, S2.hb, h2', le_size (by rw [vb_length, vb_length]; omega), ?_⟩
      have S3 := S2.more (mr := Sv13.varint sh) W.ne
      refine ⟨_, rfl, rfd S3.hp T.cl T.nB fsW_body ⟨.inl ⟨rfl, _, SqL.of S3.hb⟩, _, rfl, k, _, rfl, .inl (SqL.of (hk3 S3.kp)), _, rfl, _, _, rfl, rfl, key.length - sh, ?_, pow128 (by omega), fun l2 H4 s4 hn4 h4' => ?_⟩⟩
      · show [V.int ((((vb key).length : Nat) : Int) - (sh : Int))] = _
        rw [vb_length]
        congr 2
        omega
      have S4 := S3.same s4
      refine ⟨F.lb, l2, _, _, rfl, rfl, S4.hb, h4', le_size (by rw [vb_length, vb_length, List.length_append]; omega), ?_⟩
      have S5 := S4.more (mr := Sv13.varint (key.length - sh)) W.ne
      refine ⟨_, rfl, rfd S5.hp T.cl T.nB fsW_body ⟨.inl ⟨rfl, _, SqL.of S5.hb⟩, _, rfl, v, _, rfl, .inl (SqL.of (hv3 S5.kp)), val.length, ?_, pow128 (by omega), fun l3 H6 s6 hn6 h6' => ?_⟩⟩
      · show [V.int (((vb val).length : Nat) : Int)] = _
        rw [vb_length]
      have S6 := S5.same s6
      refine ⟨F.lb, l3, _, _, rfl, rfl, S6.hb, h6', le_size (by rw [vb_length, vb_length, List.length_append, List.length_append]; omega), ?_⟩
      have S7 := S6.more (mr := Sv13.varint val.length) W.ne
      refine ⟨_, rfl, rfd S7.hp T.cl T.nB fsW_body ⟨.inl ⟨rfl, _, SqL.of S7.hb⟩, _, rfl, _, rfl, _, rfl, k, _, rfl, SqL.of (hk3 S7.kp), fun l4 hn8 => ?_⟩⟩
      have e4 : cutV (vb key) (some (sh : Int)) none = vb (key.drop sh) := by rw [cut_from, vb_drop]
      rw [e4]
      have s8 : ∀ {Z : Hp}, Z l4 = none → Same Z (upd Z l4 (.lst (vb (key.drop sh)))) := fun hz => Same.new (Same.refl _) hz
      have S8 := S7.same (s8 hn8)
      refine ⟨F.lb, l4, _, _, rfl, rfl, S8.hb, upd_same, le_size (by rw [vb_length, vb_length, List.length_append, List.length_append, List.length_append, List.length_drop]; omega), ?_⟩
      have S9 := S8.more (mr := key.drop sh) W.ne
      refine ⟨_, rfl, rfd S9.hp T.cl T.nB fsW_body ⟨.inl ⟨rfl, _, SqL.of S9.hb⟩, _, rfl, F.lb, v, _, _, rfl, rfl, S9.hb, hv3 S9.kp, le_size (by rw [vb_length, vb_length, List.length_append, List.length_append, List.length_append, List.length_append, List.length_drop]; omega), ?_⟩⟩
      have S10 := S9.more (mr := val) W.ne
      refine ⟨_, rfl, rfd S10.hp T.cl T.nE fsW_entries ⟨_, _, rfl, rfl, F.dx, _, S10.hp, (by show 5 < 1000; decide), ?_⟩⟩
      have e11 : putF "entries" (V.int ((b.n : Int) + 1)) (fsW iv F.lb F.lr b.n F.lk) = fsW iv F.lb F.lr (b.n + 1) F.lk := putW_entries (by omega)
      have hp11 : ∀ (Z : Hp), (upd Z F.p (.ins C F.dx (putF "entries" (V.int ((b.n : Int) + 1)) (fsW iv F.lb F.lr b.n F.lk)))) F.p = some (.ins C F.dx (fsW iv F.lb F.lr (b.n + 1) F.lk)) := fun Z => by rw [upd_same, e11]
      refine ⟨_, rfl, _, rfl, rfs (hp11 _) T.cl T.nL (by show 5 < 1000; decide) ?_⟩
      · have kE := KB.upd (o := .ins C F.dx (putF "last_key" (.ref k) (fsW iv F.lb F.lr (b.n + 1) F.lk))) (KB.upd (o := .ins C F.dx (putF "entries" (V.int ((b.n : Int) + 1)) (fsW iv F.lb F.lr b.n F.lk))) S10.kp (show F.p ∈ F.foot by simp [WF.foot])) (show F.p ∈ F.foot by simp [WF.foot])
        refine q _ ⟨?_, ?_, ?_, hk, W.ne, W.gp, W.gb, W.gr, sk kE⟩ kE
        · show (upd _ F.p _) F.p = _
          rw [upd_same, putW_last]
          rfl
        · show (upd _ F.p _) F.lb = _
          rw [upd_ne npb.symm, upd_ne npb.symm, S10.hb, hput]
        · show (upd _ F.p _) F.lr = _
          rw [upd_ne npr.symm, upd_ne npr.symm, hrs']
          exact S10.hr
    · refine ⟨_, rfl, rfd W.ob T.cl T.nE fsW_entries ⟨_, rfl, rfd W.ob T.cl T.nI fsW_interval ⟨_, _, rfl, rfl, (by omega), rfl, _, rfl, ?_⟩⟩⟩
      have em : ((b.n : Int) % (iv : Int)) = ((b.n % iv : Nat) : Int) := by omega
      by_cases hm : b.n % iv = 0
      · have c : (!decide (V.int ((b.n : Int) % (iv : Int)) = V.int 0)) = false := by
          rw [em, hm]
          rfl
        rw [c]
        refine iteF ?_
        refine ⟨_, rfl, rfd W.ob T.cl T.nE fsW_entries ⟨_, _, rfl, rfl, _, rfl, ?_⟩⟩
        have esh : b.sh iv key = 0 := by simp [My.BW.sh, hm]
        by_cases hn : 0 < b.n
        · have c2 : decide ((0 : Int) < (b.n : Int)) = true := decide_eq_true (by omega)
          rw [c2]
          refine iteT ?_
          refine ⟨_, rfl, rfd W.ob T.cl T.nR fsW_restarts ⟨.inl ⟨rfl, _, SqL.of W.hr⟩, _, rfl, rfd W.ob T.cl T.nB fsW_body ⟨F.lb, _, rfl, .inl (SqL.of W.hb), F.lr, _, _, rfl, rfl, W.hr, lt_size (by rw [vb_length]; omega), ?_⟩⟩⟩
          refine rest _ _ ⟨?_, ?_⟩
          · rw [esh]
            rfl
          · refine ⟨by rw [upd_ne npr]; exact W.ob, by rw [upd_ne W.ne]; exact W.hb, ?_, KB.upd (KB.refl _ _) (by simp [WF.foot])⟩
            rw [upd_same]
            have e : (b.put iv key val).rs = b.rs ++ [b.body.length] := by simp [My.BW.put, hm, hn]
            rw [e]
            exact vb_snoc _ (by rw [vb_length])
        · have c2 : decide ((0 : Int) < (b.n : Int)) = false := decide_eq_false (by omega)
          rw [c2]
          refine iteF ?_
          refine rest _ _ ⟨?_, ?_⟩
          · rw [esh]
            rfl
          · have e : (b.put iv key val).rs = b.rs := by simp [My.BW.put, hm, hn]
            rw [e]
            exact ⟨W.ob, W.hb, W.hr, KB.refl _ _⟩
      · have c : (!decide (V.int ((b.n : Int) % (iv : Int)) = V.int 0)) = true := by
          rw [em, decide_eq_false]
          · rfl
          · intro e
            injection e with e
            omega
        rw [c]
        refine iteT ?_
        refine ⟨_, rfl, rfd W.ob T.cl T.nL fsW_last ⟨_, rfl, _, rfl, F.lk, k, b.last, key, rfl, SqL.of (W.sg _ _ W.hk), SqL.of (W.sg _ _ hk), hll, fun H1 s1 => ?_⟩⟩
        refine rest _ _ ⟨?_, ?_⟩
        · have esh : b.sh iv key = Sv13.common b.last key := by simp [My.BW.sh, hm]
          rw [esh]
          rfl
        · have e : (b.put iv key val).rs = b.rs := by simp [My.BW.put, hm]
          rw [e]
          exact ⟨s1 _ _ W.ob, s1 _ _ W.hb, s1 _ _ W.hr, KB.of s1⟩
end
end KL
set_option Elab.async false
set_option linter.all false
set_option maxRecDepth 100000
namespace KL
open PySem PySem.W PyProof.Rows L2
section
variable {P : Program} {w : World} {K : Frag} {mg : Str → Option Value} {base : Heap}
structure HandleCls (K : Frag) (C : Addr) : Prop where
  cl : Cls K C
  nB : NoAttr K C "begin"
  nL : NoAttr K C "length"
def fsH (h : Sv13.Handle) : List (Str × V) := [("begin", .int (h.at_ : Int)), ("length", .int (h.size : Int))]
theorem fsH_begin {h : Sv13.Handle} : (fsH h).lookup ("begin" : Str) = some (.int (h.at_ : Int)) := lk_here
theorem fsH_length {h : Sv13.Handle} : (fsH h).lookup ("length" : Str) = some (.int (h.size : Int)) := lk_next (by decide +kernel) lk_here
theorem fsH_behind {h : Sv13.Handle} : (fsH h).lookup ("behind" : Str) = none := lk_next (by decide +kernel) (lk_next (by decide +kernel) lk_nil)
theorem fsH_packed {h : Sv13.Handle} : (fsH h).lookup ("packed" : Str) = none := lk_next (by decide +kernel) (lk_next (by decide +kernel) lk_nil)
def sp_Handle_init (C : Addr) : Sp := fun vs H Q _ => ∃ (p dx : Addr) (h : Sv13.Handle), vs = [.ref p, .int (h.at_ : Int), .int (h.size : Int)] ∧ H p = some (.ins C dx []) ∧ Q .non (upd H p (.ins C dx (fsH h)))
theorem sc_Handle_init : FnScope ["self", "begin", "length"] ["self", "begin", "length"] (defScope s_Handle_init) := ⟨rfl, rfl, rfl, by decide +kernel, rfl, by decide +kernel, by decide +kernel⟩
theorem mx_Handle_init {C : Addr} (D : MakeAt K mg "Handle" C "Handle.__init__" s_Handle_init) (T : HandleCls K C) : Mkx P w K mg base "Handle" C 1 ["self", "begin", "length"] (sp_Handle_init C) := by
  refine D.mx sc_Handle_init (fun _ _ _ _ _ _ us hl => by obtain ⟨_, _, _, rfl⟩ := ln3 hl; rfl) (fun vs H Q E h => ?_) (fun f cdv A outer s H vs Q E hr h => ?_)
  · obtain ⟨p, dx, h, rfl, _⟩ := h
    rfl
  · obtain ⟨p, dx, h, rfl, hp, q⟩ := h
    refine ⟨_, (pss_cons (ps_fld (pv 0) (pv 1) rfl)
      (pss_one (ps_fld (pv 0) (pv 2) rfl))), ?_⟩
    try dsimp only [cxOf]
    refine ⟨_, rfl, _, rfl, rfs hp T.cl T.nB (by show 0 < 1000; decide) ?_⟩
    refine ⟨_, rfl, _, rfl, rfs upd_same T.cl T.nL (by show 1 < 1000; decide) ?_⟩
    rw [upd_upd]
    have e1 : putF "length" (V.int (h.size : Int)) (putF "begin" (V.int (h.at_ : Int)) []) = fsH h := by
      unfold fsH
      simp (disch := decide +kernel) only [pf_nil, pf_here, pf_next]
    show Q .non (upd H p (.ins C dx (putF "length" (V.int (h.size : Int)) (putF "begin" (V.int (h.at_ : Int)) []))))
    rw [e1]
    exact q
def sp_behind (C : Addr) : Sp := fun vs H Q _ => ∃ (p dx : Addr) (h : Sv13.Handle), vs = [.ref p] ∧ H p = some (.ins C dx (fsH h)) ∧ Q (.int ((h.at_ + h.size + 5 : Nat) : Int)) H
theorem sc_Handle_behind : FnScope ["self"] ["self"] (defScope s_Handle_behind) := ⟨rfl, rfl, rfl, by decide +kernel, rfl, by decide +kernel, by decide +kernel⟩
theorem mx_behind {C : Addr} (D : MethAt K C "behind" "Handle.behind" s_Handle_behind) (T : HandleCls K C) (Cs : Consts K mg) : Mtx P w K mg base C "behind" 1 ["self"] (sp_behind C) := by
  refine D.mx T.cl sc_Handle_behind (fun _ _ _ _ _ _ us hl => by obtain ⟨_, rfl⟩ := ln1 hl; rfl) (fun vs H Q E h => ?_) (fun f cdv A outer s H vs Q E hr h => ?_)
  · obtain ⟨p, dx, h, rfl, _⟩ := h
    rfl
  · obtain ⟨p, dx, h, rfl, hp, q⟩ := h
    refine ⟨_, (pss_one (ps_ret (pe_op op_add (pe_op op_add (pe_fld (pv 0) rfl) (pe_fld (pv 0) rfl)) (pe_gint rfl Cs.SEAL_WIDTH)))), ?_⟩
    try dsimp only [cxOf]
    refine ⟨_, rfl, rfd hp T.cl T.nB fsH_begin ⟨_, rfl, rfd hp T.cl T.nL fsH_length ⟨_, _, rfl, rfl, _, _, rfl, rfl, ?_⟩⟩⟩
    have e : (h.at_ : Int) + (h.size : Int) + 5 = ((h.at_ + h.size + 5 : Nat) : Int) := by omega
    rw [← e] at q
    exact q
def sp_packed (C : Addr) : Sp := fun vs H Q _ => ∃ (p dx : Addr) (h : Sv13.Handle), vs = [.ref p] ∧ H p = some (.ins C dx (fsH h)) ∧ h.at_ ≤ 100000000 ∧ h.size ≤ 100000000 ∧ newL (vb h.bytes) H Q
theorem sc_Handle_packed : FnScope ["self"] ["self"] (defScope s_Handle_packed) := ⟨rfl, rfl, rfl, by decide +kernel, rfl, by decide +kernel, by decide +kernel⟩
theorem mx_packed {C : Addr} (D : MethAt K C "packed" "Handle.packed" s_Handle_packed) (T : HandleCls K C) (F_varint : Fx P w K mg base "varint" 1 ["number"] sp_varint) : Mtx P w K mg base C "packed" 2 ["self"] (sp_packed C) := by
  refine D.mx T.cl sc_Handle_packed (fun _ _ _ _ _ _ us hl => by obtain ⟨_, rfl⟩ := ln1 hl; rfl) (fun vs H Q E h => ?_) (fun f cdv A outer s H vs Q E hr h => ?_)
  · obtain ⟨p, dx, h, rfl, _⟩ := h
    rfl
  · obtain ⟨p, dx, h, rfl, hp, h1, h2, q⟩ := h
    refine ⟨_, (pss_one (ps_ret (pe_op op_cat (pe_fx F_varint (hr.mono (by decide)) rfl (pa_cons (pe_fld (pv 0) rfl) pa_nil)) (pe_fx F_varint (hr.mono (by decide)) rfl (pa_cons (pe_fld (pv 0) rfl) pa_nil))))), ?_⟩
    try dsimp only [cxOf]
    refine ⟨_, rfl, rfd hp T.cl T.nB fsH_begin ⟨h.at_, rfl, pow128 h1, fun l1 H1 s1 hl1 g1 => ?_⟩⟩
    refine ⟨_, rfl, rfd (s1 _ _ hp) T.cl T.nL fsH_length ⟨h.size, rfl, pow128 h2, fun l2 H2 s2 hl2 g2 => ?_⟩⟩
    have v1 := My.varint_length h.at_
    have v2 := My.varint_length h.size
    refine ⟨l1, l2, _, _, rfl, rfl, s2 _ _ g1, g2, le_size (by rw [vb_length, vb_length]; omega), fun l3 hl3 => ?_⟩
    refine q l3 _ (Same.new (s1.trans s2) hl3) ((s1.trans s2).free hl3) ?_
    rw [upd_same, ← vb_append]
    rfl
def sp_seal_of (K : Frag) : Sp := fun vs H Q _ => ∃ (a : Addr) (c : List Nat), vs = [.ref a] ∧ SqL K H a (vb c) ∧ isByte c ∧ newL (vb (0 :: Sv13.little 4 (Sv13.masked (Sv13.crc (c ++ [0]) 0)))) H Q
theorem sc_seal_of : FnScope ["content"] ["content"] (defScope s_seal_of) := ⟨rfl, rfl, rfl, by decide +kernel, rfl, by decide +kernel, by decide +kernel⟩
theorem fx_seal_of (D : DefAt K mg "seal_of" s_seal_of) (Cs : Consts K mg) (F_fixed : Fx P w K mg base "fixed" 1 ["number", "width"] sp_fixed) (F_masked : Fx P w K mg base "masked" 1 ["number"] sp_masked) (F_sum_from : Fx P w K mg base "sum_from" 1 ["start", "data"] (sp_sum_from K)) :
    Fx P w K mg base "seal_of" 2 ["content"] (sp_seal_of K) := by
  refine D.fx sc_seal_of (fun _ _ _ _ _ _ us hl => by obtain ⟨_, rfl⟩ := ln1 hl; rfl) (fun vs H Q E h => ?_) (fun f cdv A outer s H vs Q E hr h => ?_)
  · obtain ⟨a, c, rfl, _⟩ := h
    rfl
  · obtain ⟨a, c, rfl, ha, hby, q⟩ := h
    refine ⟨_, (pss_one (ps_ret (pe_op op_cat (pe_lst (pa_cons pe_int pa_nil)) (pe_fx F_fixed (hr.mono (by decide)) rfl (pa_cons (pe_fx F_masked (hr.mono (by decide)) rfl (pa_cons (pe_fx F_sum_from (hr.mono (by decide)) rfl (pa_cons (pe_fx F_sum_from (hr.mono (by decide)) rfl (pa_cons pe_int (pa_cons (pv 0) pa_nil))) (pa_cons (pe_lst (pa_cons pe_int pa_nil)) pa_nil))) pa_nil)) (pa_cons pe_int pa_nil)))))), ?_⟩
    try dsimp only [cxOf]
    have h0 : isByte [0] := fun x hx => by rw [List.mem_singleton.mp hx]; decide
    refine ⟨(by show 1 ≤ sizeLine; decide), fun l1 hl1 => ?_⟩
    have s1 : Same H (upd H l1 (.lst [V.int 0])) := Same.new (Same.refl H) hl1
    refine ⟨_, rfl, 0, a, c, rfl, s1.seq ha, hby, ?_⟩
    refine ⟨(by show 1 ≤ sizeLine; decide), fun l2 hl2 => ?_⟩
    have s2 := Same.new s1 (o := .lst [V.int 0]) hl2
    refine ⟨Sv13.crc c 0, l2, [0], rfl, SqL.of upd_same, h0, ?_⟩
    have e : Sv13.crc (c ++ [0]) 0 = Sv13.crc [0] (Sv13.crc c 0) := My.crc_on c [0] 0
    rw [e] at q
    refine ⟨_, rfl, My.crc_lt (My.crc_lt (by decide) hby) h0, ?_⟩
    refine ⟨_, 4, rfl, by decide, fun l3 H3 s3 hl3 h3 => ?_⟩
    have n12 : l1 ≠ l2 := ne_of_none upd_same hl2
    refine ⟨l1, l3, _, _, rfl, rfl, s3 _ _ (by rw [upd_ne n12]; exact upd_same), h3, le_size (by simp only [vb_length, My.little_length, List.length_cons, List.length_nil]; omega), fun l4 hl4 => ?_⟩
    exact q l4 _ (Same.new (s2.trans s3) hl4) ((s2.trans s3).free hl4) upd_same
end
end KL
set_option Elab.async false
set_option linter.all false
set_option maxRecDepth 100000
namespace KL
open PySem PySem.W PyProof.Rows L2
section
variable {P : Program} {w : World} {K : Frag} {mg : Str → Option Value} {base : Heap}
theorem lc_zip4 {K : Frag} {a b c d : Addr} {w1 w2 w3 w4 : List V} {g : TG} {tt : TT} {te : TE} {vs : List Nat} {σ : L2.St} {H1 : Hp} {D : Addr} {Qd : Hp → Prop} (Pv : Nat → Hp → Prop) (h0 : Pv 0 (upd H1 D (.lst [])))
    (hn : w4.length ≤ w1.length ∧ w4.length ≤ w2.length ∧ w4.length ≤ w3.length) (hl : ∀ i H, Pv i H → SqL K H a w1 ∧ SqL K H b w2 ∧ SqL K H c w3 ∧ SqL K H d w4)
    (hs : ∀ i x1 x2 x3 x4 T H, w1[i]? = some x1 → w2[i]? = some x2 → w3[i]? = some x3 → w4[i]? = some x4 → H T = none → Pv i H → g (.ref T) (wipe σ vs) (upd H T (.tup [x1, x2, x3, x4])) fun σ2 H2 => wipe σ2 vs = wipe σ vs ∧ tt σ2 H2 fun b H3 =>
      if b = true then te σ2 H3 fun y H4 => ∃ acc, H4 D = some (.lst acc) ∧ acc.length < sizeLine ∧ Pv (i + 1) (upd H4 D (.lst (acc ++ [y]))) else Pv (i + 1) H3) (hd : ∀ H, Pv w4.length H → Qd H) :
    ∃ W : Nat → Nat → Hp → Prop, (∃ m, W 0 m (upd H1 D (.lst []))) ∧ ∀ i m H, W i m H →
      ((Itz4 K a b c d).stop i H ∧ Qd H) ∨ ((Itz4 K a b c d).go i H ∧ ∃ Nx : Hp → Prop, (∀ H', Nx H' → ∃ m', m' < m ∧ W (i + 1) m' H') ∧ ∀ y H', (Itz4 K a b c d).yld i H y H' → g y (wipe σ vs) H' fun σ2 H2 => wipe σ2 vs = wipe σ vs ∧ tt σ2 H2 fun b H3 =>
        if b = true then te σ2 H3 fun y H4 => ∃ acc, H4 D = some (.lst acc) ∧ acc.length < sizeLine ∧ Nx (upd H4 D (.lst (acc ++ [y]))) else Nx H3) := by
  refine ⟨fun i m H => m = w4.length - i ∧ i ≤ w4.length ∧ Pv i H, ⟨w4.length, by simp, Nat.zero_le _, h0⟩, ?_⟩
  rintro i m H ⟨rfl, hi, p⟩
  obtain ⟨q1, q2, q3, q4⟩ := hl i H p
  by_cases hlt : i < w4.length
  · obtain ⟨n1, n2, n3⟩ := hn
    refine .inr ⟨⟨w1, w2, w3, w4, _, _, _, _, ⟨q1, List.getElem?_eq_getElem (Nat.lt_of_lt_of_le hlt n1)⟩, ⟨q2, List.getElem?_eq_getElem (Nat.lt_of_lt_of_le hlt n2)⟩, ⟨q3, List.getElem?_eq_getElem (Nat.lt_of_lt_of_le hlt n3)⟩, ⟨q4, List.getElem?_eq_getElem hlt⟩⟩,
      Pv (i + 1), fun H' p' => ⟨w4.length - (i + 1), by omega, rfl, hlt, p'⟩, fun y H' hy => ?_⟩
    obtain ⟨T, x1, x2, x3, x4, rfl, hT, rfl, e1, e2, e3, e4⟩ := hy
    exact hs i x1 x2 x3 x4 T H (e1 _ q1) (e2 _ q2) (e3 _ q3) (e4 _ q4) hT p
  · have e : i = w4.length := by omega
    subst e
    exact .inl ⟨⟨w1, w2, w3, w4, q1, q2, q3, q4, .inr (.inr (.inr (Nat.le_refl _)))⟩, hd H p⟩
def wordsOf (x : List Nat) : List Nat := (List.range (x.length / 4)).map fun i => Sv13.ofLittle (Sv13.slice x (4 * i) 4)
theorem wordsOf_length (x : List Nat) : (wordsOf x).length = x.length / 4 := by simp [wordsOf]
theorem wordsOf_get {x : List Nat} {i : Nat} (h : i < x.length / 4) : (wordsOf x)[i]? = some (Sv13.ofLittle (Sv13.slice x (4 * i) 4)) := by simp [wordsOf, h]
theorem slice_four {x : List Nat} {i a b c d : Nat} (ha : x[i]? = some a) (hb : x[i + 1]? = some b) (hc : x[i + 2]? = some c) (hd : x[i + 3]? = some d) : Sv13.slice x i 4 = [a, b, c, d] := by
  have e0 : Sv13.slice x i 0 = [] := by simp [Sv13.slice]
  rw [My.slice_succ (n := 3) hd, My.slice_succ (n := 2) hc, My.slice_succ (n := 1) hb, My.slice_succ (n := 0) ha, e0]
  rfl
theorem word_is {x : List Nat} {i a b c d : Nat} (hx : isByte x) (ha : x[i]? = some a) (hb : x[i + 1]? = some b) (hc : x[i + 2]? = some c) (hd : x[i + 3]? = some d) :
    (((a : Int) + (b : Int) * 2 ^ (8 : Int).toNat) + (c : Int) * 2 ^ (16 : Int).toNat) + (d : Int) * 2 ^ (24 : Int).toNat = ((Sv13.ofLittle (Sv13.slice x i 4) : Nat) : Int) := by
  rw [slice_four ha hb hc hd, My.ofLittle4 (hx _ (List.mem_of_getElem? ha)) (hx _ (List.mem_of_getElem? hb)) (hx _ (List.mem_of_getElem? hc)) (hx _ (List.mem_of_getElem? hd))]
  show (((a : Int) + (b : Int) * 256) + (c : Int) * 65536) + (d : Int) * 16777216 = ((a + 256 * b + 65536 * c + 16777216 * d : Nat) : Int)
  omega
def sp_begun : Sp := fun vs H Q _ => ∃ n : Nat, vs = [.int (n : Int)] ∧ n ≤ 1000000 ∧ Q (.int ((Nat.xor 0xBC9F1D34 (Sv13.word (n * 0xC6A4A793)) : Nat) : Int)) H
theorem sc_begun : FnScope ["length"] ["length"] (defScope s_begun) := ⟨rfl, rfl, rfl, by decide +kernel, rfl, by decide +kernel, by decide +kernel⟩
theorem fx_begun (D : DefAt K mg "begun" s_begun) (C : Consts K mg) : Fx P w K mg base "begun" 1 ["length"] sp_begun := by
  refine D.fx sc_begun (fun _ _ _ _ _ _ us hl => by obtain ⟨_, rfl⟩ := ln1 hl; rfl) (fun vs H Q E h => ?_) (fun f cdv A outer s H vs Q E hr h => ?_)
  · obtain ⟨n, rfl, _⟩ := h
    rfl
  · obtain ⟨n, rfl, hn, q⟩ := h
    refine ⟨_, (pss_one (ps_ret (pe_op op_xor (pe_gint rfl C.HASH_BEGIN) (pe_op op_and (pe_op op_mul (pv 0) (pe_gint rfl C.HASH_FACTOR)) (pe_gint rfl C.WORD))))), ?_⟩
    try dsimp only [cxOf]
    refine ⟨_, rfl, _, _, rfl, rfl, .inl ⟨by omega, by omega⟩, _, _, rfl, rfl, _, _, rfl, rfl, ?_⟩
    have e : (n : Int) * 3332679571 = ((n * 3332679571 : Nat) : Int) := by
      rw [Int.natCast_mul]
      rfl
    show Q (V.int (Builtin.bitXor 3164544308 (Builtin.bitAnd ((n : Int) * 3332679571) 4294967295))) H
    rw [e, and32]
    exact (xor_nat 3164544308 (Sv13.word (n * 0xC6A4A793))).symm ▸ q
def sp_words_of (K : Frag) : Sp := fun vs H Q _ => ∃ (a : Addr) (x : List Nat), vs = [.ref a] ∧ SqL K H a (vb x) ∧ isByte x ∧ x.length ≤ 1000000 ∧ newL (vb (wordsOf x)) H Q
theorem sc_words_of : FnScope ["data", "a", "b", "c", "d"] ["data"] (defScope s_words_of) := ⟨rfl, rfl, rfl, by decide +kernel, rfl, by decide +kernel, by decide +kernel⟩
theorem blk_words : BlkOk ["data", "a", "b", "c", "d"] (defScope s_words_of) { kind := .function, names := [(".0", .local), ("a", .local), ("b", .local), ("c", .local), ("d", .local)], isGenerator := false, isCoroutine := false } [("a", 1), ("b", 2), ("c", 3), ("d", 4)] := blkOk_by (by decide +kernel)
theorem fx_words_of (D : DefAt K mg "words_of" s_words_of) (C : Consts K mg) : Fx P w K mg base "words_of" 1 ["data"] (sp_words_of K) := by
  refine D.fx sc_words_of (fun _ _ _ _ _ _ us hl => by obtain ⟨_, rfl⟩ := ln1 hl; rfl) (fun vs H Q E h => ?_) (fun f cdv A outer s H vs Q E hr h => ?_)
  · obtain ⟨a, x, rfl, _⟩ := h
    rfl
  · obtain ⟨a, x, rfl, ha, hby, hxl, q⟩ := h
    refine ⟨_, (pss_one (ps_ret (pe_lc (own := [("a", 1), ("b", 2), ("c", 3), ("d", 4)]) (g := gTup K 4 (gCons (gName 1) (gCons (gName 2) (gCons (gName 3) (gCons (gName 4) gNil))))) rfl sc_words_of.nd (pi_zip4 rfl C.nzip (pa_cons (pe_slice4 (pv 0) (po_some pe_int) (po_some pe_int)) (pa_cons (pe_slice4 (pv 0) (po_some pe_int) (po_some pe_int)) (pa_cons (pe_slice4 (pv 0) (po_some pe_int) (po_some pe_int)) (pa_cons (pe_slice4 (pv 0) (po_some pe_int) (po_some pe_int)) pa_nil))))) blk_words
      (fun _ _ _ _ _ => pg_tup rfl (pgs_cons (pg_name (i := 1) sc_words_of.nd rfl (Or.inl rfl)) (pgs_cons (pg_name (i := 2) sc_words_of.nd rfl (Or.inl rfl)) (pgs_cons (pg_name (i := 3) sc_words_of.nd rfl (Or.inl rfl)) (pgs_cons (pg_name (i := 4) sc_words_of.nd rfl (Or.inl rfl)) pgs_nil))))) (fun _ _ _ _ _ => pts_nil)
      (fun _ _ _ _ _ => pe_op op_add (pe_op op_add (pe_op op_add (pv 1) (pe_op op_shl (pv 2) pe_int)) (pe_op op_shl (pv 3) pe_int)) (pe_op op_shl (pv 4) pe_int))))), ?_⟩
    try dsimp only [cxOf]
    refine ⟨_, rfl, _, rfl, _, rfl, 0, a, _, rfl, rfl, rfl, ha, fun p1 h1 => ?_⟩
    have s1 : Same H (upd H p1 (.lst (stp 0 (vb x)))) := Same.new (Same.refl H) h1
    refine ⟨_, rfl, _, rfl, _, rfl, 1, a, _, rfl, rfl, rfl, s1.seq ha, fun p2 h2 => ?_⟩
    have s2 := Same.new (o := .lst (stp 1 (vb x))) s1 h2
    refine ⟨_, rfl, _, rfl, _, rfl, 2, a, _, rfl, rfl, rfl, s2.seq ha, fun p3 h3 => ?_⟩
    have s3 := Same.new (o := .lst (stp 2 (vb x))) s2 h3
    refine ⟨_, rfl, _, rfl, _, rfl, 3, a, _, rfl, rfl, rfl, s3.seq ha, fun p4 h4 => ?_⟩
    have s4 := Same.new (o := .lst (stp 3 (vb x))) s3 h4
    have g1 := ((Same.new (Same.new (Same.new (o := .lst (stp 1 (vb x))) (Same.refl _) h2) h3) h4) : Same _ (upd (upd (upd (upd H p1 (.lst (stp 0 (vb x)))) p2 (.lst (stp 1 (vb x)))) p3 (.lst (stp 2 (vb x)))) p4 (.lst (stp 3 (vb x))))) p1 _ upd_same
    have g2 := ((Same.new (Same.new (o := .lst (stp 2 (vb x))) (Same.refl _) h3) h4) : Same _ (upd (upd (upd (upd H p1 (.lst (stp 0 (vb x)))) p2 (.lst (stp 1 (vb x)))) p3 (.lst (stp 2 (vb x)))) p4 (.lst (stp 3 (vb x))))) p2 _ upd_same
    have g3 := ((Same.new (o := .lst (stp 3 (vb x))) (Same.refl _) h4) : Same _ (upd (upd (upd (upd H p1 (.lst (stp 0 (vb x)))) p2 (.lst (stp 1 (vb x)))) p3 (.lst (stp 2 (vb x)))) p4 (.lst (stp 3 (vb x))))) p3 _ upd_same
    have g4 : (upd (upd (upd (upd H p1 (.lst (stp 0 (vb x)))) p2 (.lst (stp 1 (vb x)))) p3 (.lst (stp 2 (vb x)))) p4 (.lst (stp 3 (vb x)))) p4 = some (.lst (stp 3 (vb x))) := upd_same
    show ∃ a b c d w1 w2 w3 w4, _
    generalize upd (upd (upd (upd H p1 (.lst (stp 0 (vb x)))) p2 (.lst (stp 1 (vb x)))) p3 (.lst (stp 2 (vb x)))) p4 (.lst (stp 3 (vb x))) = G at s4 g1 g2 g3 g4 ⊢
    clear s1 s2 s3 h1 h2 h3 h4
    refine ⟨p1, p2, p3, p4, _, _, _, _, rfl, SqL.of g1, SqL.of g2, SqL.of g3, SqL.of g4, fun ln hD => ?_⟩
    refine lc_zip4 (K := K) (w1 := stp 0 (vb x)) (w2 := stp 1 (vb x)) (w3 := stp 2 (vb x)) (w4 := stp 3 (vb x)) (fun i H8 => Same G H8 ∧ H8 ln = some (.lst (vb ((wordsOf x).take i)))) ⟨Same.new (Same.refl _) hD, upd_same⟩ ?_ (fun i H8 ⟨s8, _⟩ => ⟨SqL.of (s8 _ _ g1), SqL.of (s8 _ _ g2), SqL.of (s8 _ _ g3), SqL.of (s8 _ _ g4)⟩) ?_ ?_
    · rw [stp_length, stp_length, stp_length, stp_length]
      omega
    · rintro i x1 x2 x3 x4 T H8 e1 e2 e3 e4 hT ⟨s8, h8⟩
      rw [stp_get] at e1 e2 e3 e4
      obtain ⟨m1, f1, rfl⟩ := vb_get e1
      obtain ⟨m2, f2, rfl⟩ := vb_get e2
      obtain ⟨m3, f3, rfl⟩ := vb_get e3
      obtain ⟨m4, f4, rfl⟩ := vb_get e4
      have b2 := hby _ (List.mem_of_getElem? f2)
      have b3 := hby _ (List.mem_of_getElem? f3)
      have b4 := hby _ (List.mem_of_getElem? f4)
      have hi : i < x.length / 4 := by
        have := (List.getElem?_eq_some_iff.mp f4).1
        omega
      have s9 : Same H8 (upd H8 T (.tup [V.int (m1 : Int), V.int (m2 : Int), V.int (m3 : Int), V.int (m4 : Int)])) := Same.new (Same.refl _) hT
      refine ⟨T, _, rfl, .inl (.inl upd_same), rfl, _, _, rfl, _, _, rfl, _, _, rfl, _, _, rfl, rfl, rfl, ?_⟩
      refine ⟨_, rfl, _, rfl, _, _, rfl, rfl, ⟨by decide, by decide, by rw [Int.natAbs_natCast]; omega⟩, _, _, rfl, rfl, _, rfl, _, _, rfl, rfl, ⟨by decide, by decide, by rw [Int.natAbs_natCast]; omega⟩, _, _, rfl, rfl, _, rfl, _, _, rfl, rfl, ⟨by decide, by decide, by rw [Int.natAbs_natCast]; omega⟩, _, _, rfl, rfl, ?_⟩
      refine ⟨_, s9 _ _ h8, lt_size ?_, Same.upd (s8.trans s9) hD, ?_⟩
      · rw [vb_length, List.length_take]
        omega
      · rw [upd_same, List.take_succ, wordsOf_get hi]
        refine vb_snoc _ ?_
        have e0 : 0 + 4 * i = 4 * i := by omega
        have e1 : 1 + 4 * i = 4 * i + 1 := by omega
        have e2 : 2 + 4 * i = 4 * i + 2 := by omega
        have e3 : 3 + 4 * i = 4 * i + 3 := by omega
        rw [e0] at f1
        rw [e1] at f2
        rw [e2] at f3
        rw [e3] at f4
        exact word_is hby f1 f2 f3 f4
    · rintro H8 ⟨s8, h8⟩
      have hl : (stp 3 (vb x)).length = (wordsOf x).length := by
        rw [stp_length, wordsOf_length, vb_length]
        omega
      rw [hl, List.take_length] at h8
      exact q ln H8 (s4.trans s8) (s4.free hD) h8
end
end KL
set_option Elab.async false
set_option linter.all false
set_option maxRecDepth 100000
namespace KL
open PySem PySem.W PyProof.Rows L2
section
variable {P : Program} {w : World} {K : Frag} {mg : Str → Option Value} {base : Heap}
theorem mul_and (h x : Nat) : Builtin.bitAnd ((((h : Nat) : Int) + ((x : Nat) : Int)) * 3332679571) 4294967295 = ((Sv13.word ((h + x) * 0xC6A4A793) : Nat) : Int) := by
  have e : (((h : Nat) : Int) + ((x : Nat) : Int)) * 3332679571 = (((h + x) * 3332679571 : Nat) : Int) := by
    rw [Int.natCast_mul, Int.natCast_add]
    rfl
  rw [e, and32]
  rfl
theorem xsh16 (y : Nat) : Builtin.bitXor ((y : Nat) : Int) (((y : Nat) : Int) / 2 ^ (16 : Int).toNat) = ((Nat.xor y (y / 2 ^ 16) : Nat) : Int) := by
  have e : ((y : Nat) : Int) / 2 ^ (16 : Int).toNat = ((y / 2 ^ 16 : Nat) : Int) := by
    show ((y : Nat) : Int) / 65536 = _
    omega
  rw [e, xor_nat]
  rfl
theorem xsh24 (y : Nat) : Builtin.bitXor ((y : Nat) : Int) (((y : Nat) : Int) / 2 ^ (24 : Int).toNat) = ((Nat.xor y (y / 2 ^ 24) : Nat) : Int) := by
  have e : ((y : Nat) : Int) / 2 ^ (24 : Int).toNat = ((y / 2 ^ 24 : Nat) : Int) := by
    show ((y : Nat) : Int) / 16777216 = _
    omega
  rw [e, xor_nat]
  rfl
def HF (x : List Nat) (h0 j h : Nat) : Prop := Sv13.hashFrom h0 x = Sv13.hashFrom h (x.drop (4 * j)) ∧ h < 2 ^ 32
theorem hf_step {x : List Nat} {h0 j h : Nat} (hb : isByte x) (hl : 4 * j + 4 ≤ x.length) (q : HF x h0 j h) : HF x h0 (j + 1) (Sv13.mixed h (Sv13.ofLittle (Sv13.slice x (4 * j) 4))) := by
  refine ⟨?_, My.mixed_lt _ _⟩
  rw [q.1, My.hash_step (fun y hy => hb y (List.mem_of_mem_drop hy)) (by rw [List.length_drop]; omega), List.drop_drop]
  rfl
theorem hf_end0 {x : List Nat} {h0 j h : Nat} (hl : x.length ≤ 4 * j) (q : HF x h0 j h) : Sv13.hashFrom h0 x = h := by
  rw [q.1, List.drop_eq_nil_of_le hl]
  rfl
theorem hf_end {x : List Nat} {h0 j h : Nat} (h1 : 4 * j < x.length) (h4 : x.length < 4 * j + 4) (q : HF x h0 j h) :
    Sv13.hashFrom h0 x = Nat.xor (Sv13.word ((h + Sv13.ofLittle (Sv13.slice x (4 * j) (x.length - 4 * j))) * 0xC6A4A793)) (Sv13.word ((h + Sv13.ofLittle (Sv13.slice x (4 * j) (x.length - 4 * j))) * 0xC6A4A793) / 2 ^ 24) := by
  have e : Sv13.slice x (4 * j) (x.length - 4 * j) = x.drop (4 * j) := by
    unfold Sv13.slice
    rw [List.take_of_length_le (by rw [List.length_drop]; omega)]
  rw [q.1, My.hash_over (by rw [List.length_drop]; omega) (by rw [List.length_drop]; omega), e]
def sp_mixed_on (K : Frag) : Sp := fun vs H Q _ => ∃ (h : Nat) (a : Addr) (x : List Nat), vs = [.int (h : Int), .ref a] ∧ SqL K H a (vb x) ∧ isByte x ∧ x.length ≤ 1000000 ∧ h < 2 ^ 32 ∧ ∀ H', Same H H' → Q (.int ((Sv13.hashFrom h x : Nat) : Int)) H'
theorem sc_mixed_on : FnScope ["mixed", "rest", "word", "over"] ["mixed", "rest"] (defScope s_mixed_on) := ⟨rfl, rfl, rfl, by decide +kernel, rfl, by decide +kernel, by decide +kernel⟩
theorem fx_mixed_on (D : DefAt K mg "mixed_on" s_mixed_on) (C : Consts K mg) (F_number_at : Fx P w K mg base "number_at" 1 ["data", "begin", "width"] (sp_number_at K)) (F_words_of : Fx P w K mg base "words_of" 1 ["data"] (sp_words_of K)) : Fx P w K mg base "mixed_on" 2 ["mixed", "rest"] (sp_mixed_on K) := by
  refine D.fx sc_mixed_on (fun _ _ _ _ _ _ us hl => by obtain ⟨_, _, rfl⟩ := ln2 hl; rfl) (fun vs H Q E h => ?_) (fun f cdv A outer s H vs Q E hr h => ?_)
  · obtain ⟨h, a, x, rfl, _⟩ := h
    rfl
  · obtain ⟨h, a, x, rfl, ha, hby, hxl, hh, q⟩ := h
    refine ⟨_, (pss_cons (ps_for PassesOwn.never rfl (pi_list (pe_fx F_words_of (hr.mono (by decide)) rfl (pa_cons (pv 1) pa_nil))) (pg_name (i := 2) sc_mixed_on.nd rfl (Or.inl rfl)) (pss_cons (ps_set (i := 0) sc_mixed_on.nd rfl (Or.inl rfl) (pe_op op_and (pe_op op_mul (pe_op op_add (pv 0) (pv 2)) (pe_gint rfl C.HASH_FACTOR)) (pe_gint rfl C.WORD)))
      (pss_one (ps_set (i := 0) sc_mixed_on.nd rfl (Or.inl rfl) (pe_op op_xor (pv 0) (pe_op op_shr (pv 0) pe_int))))))
      (pss_cons (ps_set (i := 3) sc_mixed_on.nd rfl (Or.inl rfl) (pe_op op_mod (pe_callB call_len_seq rfl C.nlen PySem.boot_len (pa_cons (pv 1) pa_nil)) pe_int))
      (pss_cons (ps_if (pt_cmpR op_gt (pv 3) pe_int (nomark _)) (pss_cons (ps_set (i := 0) sc_mixed_on.nd rfl (Or.inl rfl) (pe_op op_and (pe_op op_mul (pe_op op_add (pv 0) (pe_fx F_number_at (hr.mono (by decide)) rfl (pa_cons (pv 1) (pa_cons (pe_op op_sub (pe_callB call_len_seq rfl C.nlen PySem.boot_len (pa_cons (pv 1) pa_nil)) (pv 3)) (pa_cons (pv 3) pa_nil))))) (pe_gint rfl C.HASH_FACTOR)) (pe_gint rfl C.WORD)))
      (pss_one (ps_set (i := 0) sc_mixed_on.nd rfl (Or.inl rfl) (pe_op op_xor (pv 0) (pe_op op_shr (pv 0) pe_int))))) pss_nil)
      (pss_one (ps_ret (pv 0)))))), ?_⟩
    try dsimp only [cxOf]
    have hlen : (vb x).length = x.length := vb_length x
    refine ⟨_, rfl, a, x, rfl, ha, hby, hxl, fun l H1 s1 hl h1 => ?_⟩
    refine ⟨l, rfl, ⟨_, SqL.of h1⟩, for_list (K := K) (a := l) (xs := vb (wordsOf x)) (fun i σ H2 => Same H1 H2 ∧ ∃ (hh : Nat) (v : Option V), HF x h i hh ∧ σ = [some (.int (hh : Int)), some (.ref a), v, none])
      ⟨Same.refl _, h, none, ⟨rfl, hh⟩, rfl⟩ (fun i σ H2 _ p => SqL.of (p.1 _ _ h1)) ?_ ?_⟩
    · rintro i wv σ H2 hw ⟨s2, hv, v, hq, rfl⟩
      obtain ⟨m, hm, rfl⟩ := vb_get hw
      have hi : i < x.length / 4 := by
        have := (List.getElem?_eq_some_iff.mp hm).1
        rw [wordsOf_length] at this
        exact this
      rw [wordsOf_get hi] at hm
      cases hm
      refine ⟨_, rfl, _, rfl, _, _, rfl, rfl, _, _, rfl, rfl, .inr ⟨by decide, by decide⟩, _, _, rfl, rfl, ?_⟩
      refine ⟨_, rfl, _, rfl, _, _, rfl, rfl, (by show (0 : Int) ≤ 16; decide), _, _, rfl, rfl, ?_⟩
      refine ⟨s2, _, some (V.int ((Sv13.ofLittle (Sv13.slice x (4 * i) 4) : Nat) : Int)), hf_step hby (by omega) hq, ?_⟩
      show [some (V.int (Builtin.bitXor (Builtin.bitAnd ((((hv : Nat) : Int) + ((Sv13.ofLittle (Sv13.slice x (4 * i) 4) : Nat) : Int)) * 3332679571) 4294967295) ((Builtin.bitAnd ((((hv : Nat) : Int) + ((Sv13.ofLittle (Sv13.slice x (4 * i) 4) : Nat) : Int)) * 3332679571) 4294967295) / 2 ^ (16 : Int).toNat))), some (V.ref a), some (V.int ((Sv13.ofLittle (Sv13.slice x (4 * i) 4) : Nat) : Int)), none] = _
      rw [mul_and, xsh16]
      rfl
    · rintro σ H2 ⟨s2, hv, v, hq, rfl⟩
      have s12 := s1.trans s2
      have ha2 := s12.seq ha
      rw [vb_length, wordsOf_length] at hq
      have e1 : ((((vb x).length : Nat) : Int) % 4) = ((x.length % 4 : Nat) : Int) := by rw [hlen]; omega
      refine ⟨_, rfl, a, _, rfl, .inl ha2, _, _, rfl, rfl, (by show (0 : Int) < 4; decide), ?_⟩
      refine ⟨_, rfl, _, _, rfl, rfl, _, rfl, ?_⟩
      rw [e1]
      by_cases h0 : 0 < x.length % 4
      · have c : decide ((0 : Int) < ((x.length % 4 : Nat) : Int)) = true := decide_eq_true (by omega)
        rw [c]
        refine iteT ?_
        have e2 : (((vb x).length : Nat) : Int) - ((((vb x).length : Nat) : Int) % 4) = ((4 * (x.length / 4) : Nat) : Int) := by rw [hlen]; omega
        refine ⟨_, rfl, _, rfl, _, rfl, a, _, rfl, .inl ha2, _, rfl, _, _, rfl, rfl, _, rfl, a, x, 4 * (x.length / 4), x.length % 4, ?_, ha2, hby, by omega, by omega, _, _, rfl, rfl, _, _, rfl, rfl, .inr ⟨by decide, by decide⟩, _, _, rfl, rfl, ?_⟩
        · show [V.ref a, V.int ((((vb x).length : Nat) : Int) - ((((vb x).length : Nat) : Int) % 4)), V.int ((((vb x).length : Nat) : Int) % 4)] = _
          rw [e2, e1]
        refine ⟨_, rfl, _, rfl, _, _, rfl, rfl, (by show (0 : Int) ≤ 24; decide), _, _, rfl, rfl, _, rfl, ?_⟩
        have e5 : x.length - 4 * (x.length / 4) = x.length % 4 := by omega
        have e6 := hf_end (by omega) (by omega) hq
        rw [e5] at e6
        have q := q H2 s12
        show Q (V.int (Builtin.bitXor (Builtin.bitAnd ((((hv : Nat) : Int) + ((Sv13.ofLittle (Sv13.slice x (4 * (x.length / 4)) (x.length % 4)) : Nat) : Int)) * 3332679571) 4294967295) ((Builtin.bitAnd ((((hv : Nat) : Int) + ((Sv13.ofLittle (Sv13.slice x (4 * (x.length / 4)) (x.length % 4)) : Nat) : Int)) * 3332679571) 4294967295) / 2 ^ (24 : Int).toNat))) H2
        rw [mul_and, xsh24, ← e6]
        exact q
      · have c : decide ((0 : Int) < ((x.length % 4 : Nat) : Int)) = false := decide_eq_false (by omega)
        rw [c]
        refine iteF ?_
        refine ⟨_, rfl, ?_⟩
        have q := q H2 s12
        rw [hf_end0 (by omega) hq] at q
        exact q
def marksH (p n h : Nat) : List Nat := (List.range p).map fun j => My.markAt h j n
theorem marksH_succ (p n h : Nat) : marksH (p + 1) n h = marksH p n h ++ [My.markAt h p n] := by simp [marksH, List.range_succ]
theorem marksH_length (p n h : Nat) : (marksH p n h).length = p := by simp [marksH]
def sp_bit_places : Sp := fun vs H Q _ => ∃ (h p n : Nat), vs = [.int (h : Int), .int (p : Int), .int (n : Int)] ∧ h < 2 ^ 32 ∧ p ≤ 255 ∧ 0 < n ∧ newL (vb (marksH p n h)) H Q
theorem sc_bit_places : FnScope ["mixed", "probes", "total", "place", "step", "places", "probe"] ["mixed", "probes", "total"] (defScope s_bit_places) := ⟨rfl, rfl, rfl, by decide +kernel, rfl, by decide +kernel, by decide +kernel⟩
theorem fx_bit_places (D : DefAt K mg "bit_places" s_bit_places) (C : Consts K mg) : Fx P w K mg base "bit_places" 1 ["mixed", "probes", "total"] sp_bit_places := by
  refine D.fx sc_bit_places (fun _ _ _ _ _ _ us hl => by obtain ⟨_, _, _, rfl⟩ := ln3 hl; rfl) (fun vs H Q E h => ?_) (fun f cdv A outer s H vs Q E hr h => ?_)
  · obtain ⟨h, p, n, rfl, _⟩ := h
    rfl
  · obtain ⟨h, p, n, rfl, hlt, hp, hn, q⟩ := h
    refine ⟨_, (pss_cons (ps_set (i := 3) sc_bit_places.nd rfl (Or.inl rfl) (pv 0))
      (pss_cons (ps_set (i := 4) sc_bit_places.nd rfl (Or.inl rfl) (pe_op op_or (pe_op op_shr (pv 0) pe_int) (pe_op op_and (pe_op op_shl (pv 0) pe_int) (pe_gint rfl C.WORD))))
      (pss_cons (ps_set (i := 5) sc_bit_places.nd rfl (Or.inl rfl) (pe_lst pa_nil))
      (pss_cons (ps_for PassesOwn.never rfl (pi_range1 rfl C.nrange (pa_cons (pv 1) pa_nil)) (pg_name (i := 6) sc_bit_places.nd rfl (Or.inl rfl)) (pss_cons (ps_expr (pe_bm PySem.F.plainAttrs_list PySem.F.slot_list_append PySem.F.type_list_append mt_append (pv 5) (pa_cons (pe_op op_mod (pv 3) (pv 2)) pa_nil)))
      (pss_one (ps_set (i := 3) sc_bit_places.nd rfl (Or.inl rfl) (pe_op op_and (pe_op op_add (pv 3) (pv 4)) (pe_gint rfl C.WORD))))))
      (pss_one (ps_ret (pv 5))))))), ?_⟩
    try dsimp only [cxOf]
    refine ⟨_, rfl, ?_⟩
    refine ⟨_, rfl, _, _, rfl, rfl, (by show (0 : Int) ≤ 17; decide), _, rfl, _, _, rfl, rfl, ⟨by decide, by decide, by rw [Int.natAbs_natCast]; omega⟩, _, _, rfl, rfl, _, _, rfl, rfl, ?_⟩
    refine ⟨Nat.zero_le _, fun l hl => ?_⟩
    have es : Builtin.bitOr ((h : Int) / 2 ^ (17 : Int).toNat) (Builtin.bitAnd ((h : Int) * 2 ^ (15 : Int).toNat) 4294967295) = ((My.stride h : Nat) : Int) := by
      have e1 : (h : Int) / 2 ^ (17 : Int).toNat = ((h / 2 ^ 17 : Nat) : Int) := by
        show (h : Int) / 131072 = _
        omega
      have e2 : (h : Int) * 2 ^ (15 : Int).toNat = ((h * 2 ^ 15 : Nat) : Int) := by
        show (h : Int) * 32768 = _
        omega
      rw [e1, e2, and32, or_nat, My.stride_eq hlt]
    refine ⟨_, rfl, (p : Int), rfl, by omega, by omega, for_range (n := (p : Int).toNat) (fun i σ H2 => Same H H2 ∧ H2 l = some (.lst (vb (marksH i n h))) ∧ ∃ v, σ = [some (.int (h : Int)), some (.int (p : Int)), some (.int (n : Int)), some (.int ((Sv13.word (h + i * My.stride h) : Nat) : Int)), some (.int ((My.stride h : Nat) : Int)), some (.ref l), v])
      ⟨Same.new (Same.refl H) hl, ?_, none, ?_⟩ ?_ ?_⟩
    · rw [upd_same]
      rfl
    · have ew : Sv13.word (h + 0 * My.stride h) = h := by
        rw [Nat.zero_mul, Nat.add_zero]
        exact Nat.mod_eq_of_lt hlt
      rw [ew, ← es]
      rfl
    · rintro i σ H2 hi ⟨hs, h2, v, rfl⟩
      have hi : i < p := hi
      refine ⟨_, rfl, .inl ⟨rfl, _, SqL.of h2⟩, _, rfl, _, rfl, _, _, rfl, rfl, (by omega), l, _, _, rfl, rfl, h2, lt_size (by rw [vb_length, marksH_length]; omega), ?_⟩
      refine ⟨_, rfl, _, rfl, _, _, rfl, rfl, _, _, rfl, rfl, ?_⟩
      refine ⟨Same.upd hs hl, ?_, some (V.int (0 + (i : Int))), ?_⟩
      · rw [upd_same, marksH_succ]
        refine vb_snoc _ ?_
        show ((Sv13.word (h + i * My.stride h) : Nat) : Int) % (n : Int) = ((Sv13.word (h + i * My.stride h) % n : Nat) : Int)
        omega
      · have e : Builtin.bitAnd (((Sv13.word (h + i * My.stride h) : Nat) : Int) + ((My.stride h : Nat) : Int)) 4294967295 = ((Sv13.word (h + (i + 1) * My.stride h) : Nat) : Int) := by
          have e' : ((Sv13.word (h + i * My.stride h) : Nat) : Int) + ((My.stride h : Nat) : Int) = ((Sv13.word (h + i * My.stride h) + My.stride h : Nat) : Int) := by omega
          rw [e', and32, My.word_step]
        show [some (V.int (h : Int)), some (V.int (p : Int)), some (V.int (n : Int)), some (V.int (Builtin.bitAnd (((Sv13.word (h + i * My.stride h) : Nat) : Int) + ((My.stride h : Nat) : Int)) 4294967295)), some (V.int ((My.stride h : Nat) : Int)), some (V.ref l), some (V.int (0 + (i : Int)))] = _
        rw [e]
    · rintro σ H2 ⟨hs, h2, v, rfl⟩
      exact ⟨_, rfl, q l H2 hs hl h2⟩
end
end KL
set_option Elab.async false
set_option linter.all false
set_option maxRecDepth 100000
namespace KL
open PySem PySem.W PyProof.Rows L2
section
variable {P : Program} {w : World} {K : Frag} {mg : Str → Option Value} {base : Heap}
def begunH (n : Nat) : Nat := Nat.xor 0xBC9F1D34 (Sv13.word (n * 0xC6A4A793))
theorem begunH_is (n : Nat) : Nat.xor 0xBC9F1D34 (Sv13.word (n * 0xC6A4A793)) = begunH n := by unfold begunH; rfl
theorem begunH_lt (n : Nat) : begunH n < 2 ^ 32 := by
  unfold begunH
  exact My.xor_lt (by decide) (My.word_lt _)
def lanesAt (ls ws : List Nat) : List Nat := ls.map fun n => ws.foldl Sv13.mixed (begunH n)
theorem fold_lt : ∀ (ws : List Nat) (h : Nat), h < 2 ^ 32 → ws.foldl Sv13.mixed h < 2 ^ 32
  | [], h, hh => hh
  | w :: r, h, _ => fold_lt r _ (My.mixed_lt _ _)
theorem lanesAt_lt {ls ws : List Nat} : ∀ x ∈ lanesAt ls ws, x < 2 ^ 32 := by
  intro x hx
  obtain ⟨n, _, rfl⟩ := List.mem_map.mp hx
  exact fold_lt ws _ (begunH_lt n)
theorem lanesAt_snoc (ls ws : List Nat) (w : Nat) : lanesAt ls (ws ++ [w]) = (lanesAt ls ws).map fun h => Sv13.mixed h w := by
  unfold lanesAt
  rw [List.map_map]
  refine List.map_congr_left fun n _ => ?_
  rw [List.foldl_append]
  rfl
theorem lanesAt_one (l : List Nat) (n : Nat) : lanesAt (l ++ [n]) [] = lanesAt l [] ++ [begunH n] := by
  unfold lanesAt
  rw [List.map_append, List.map_cons, List.map_nil, List.foldl_nil]
theorem lanesAt_length (ls ws : List Nat) : (lanesAt ls ws).length = ls.length := List.length_map _
theorem words_lt {x : List Nat} : ∀ w ∈ wordsOf x, w < 2 ^ 32 := by
  intro w hw
  obtain ⟨i, _, rfl⟩ := List.mem_map.mp hw
  have h := My.ofLittle_lt (Sv13.slice x (4 * i) 4)
  have h2 : (Sv13.slice x (4 * i) 4).length ≤ 4 := by unfold Sv13.slice; rw [List.length_take]; omega
  exact Nat.lt_of_lt_of_le h (Nat.pow_le_pow_right (by decide) h2)
theorem laneMul_int {l : List Nat} {w n : Nat} (hn : l.length = n) : Builtin.bitAnd ((((My.pack l : Nat) : Int) + (w : Int) * ((My.onesN n : Nat) : Int)) * 3332679571) ((My.onesN n * 4294967295 : Nat) : Int) = ((My.laneMul l w : Nat) : Int) := by
  have e : (((My.pack l : Nat) : Int) + (w : Int) * ((My.onesN n : Nat) : Int)) * 3332679571 = (((My.pack l + w * My.onesN n) * 3332679571 : Nat) : Int) := by
    rw [Int.natCast_mul, Int.natCast_add, Int.natCast_mul]
    rfl
  rw [e, and_nat]
  subst hn
  rfl
theorem laneXor_int {n x : Nat} : Builtin.bitXor ((x : Nat) : Int) (Builtin.bitAnd (((x : Nat) : Int) / 2 ^ (16 : Int).toNat) ((My.onesN n * 65535 : Nat) : Int)) = ((My.laneXor n x : Nat) : Int) := by
  have e : ((x : Nat) : Int) / 2 ^ (16 : Int).toNat = ((x / 2 ^ 16 : Nat) : Int) := by
    show ((x : Nat) : Int) / 65536 = _
    omega
  rw [e, and_nat, xor_nat]
  rfl
theorem pow66 (i : Nat) : (2 : Int) ^ ((66 : Int) * (i : Int)).toNat = ((2 ^ (66 * i) : Nat) : Int) := by
  have e : ((66 : Int) * (i : Int)).toNat = 66 * i := by omega
  rw [e, Int.natCast_pow]
  rfl
theorem lane_out {l : List Nat} {i x : Nat} (h : ∀ x ∈ l, x < 2 ^ 32) (hx : l[i]? = some x) : Builtin.bitAnd (((My.pack l : Nat) : Int) / 2 ^ ((66 : Int) * (i : Int)).toNat) 4294967295 = ((x : Nat) : Int) := by
  rw [pow66, ← Int.natCast_ediv, and32, My.pack_at h hx]
def sp_mixed_together (K : Frag) : Sp := fun vs H Q _ => ∃ (a b : Addr) (ls x : List Nat), vs = [.ref a, .ref b] ∧ SqL K H a (vb ls) ∧ SqL K H b (vb x) ∧ isByte x ∧ (∀ n ∈ ls, n ≤ 1000000) ∧ ls.length ≤ 128 ∧ x.length ≤ 1000000 ∧ newL (vb (lanesAt ls (wordsOf x))) H Q
theorem sc_mixed_together : FnScope ["lengths", "beginning", "ones", "lanes", "i", "length", "words", "half_words", "word"] ["lengths", "beginning"] (defScope s_mixed_together) := ⟨rfl, rfl, rfl, by decide +kernel, rfl, by decide +kernel, by decide +kernel⟩
theorem blk_lanes : BlkOk ["lengths", "beginning", "ones", "lanes", "i", "length", "words", "half_words", "word"] (defScope s_mixed_together) { kind := .function, names := [(".0", .local), ("i", .local), ("LANE", .globalImplicit), ("WORD", .globalImplicit), ("lanes", .free)], isGenerator := false, isCoroutine := false } [("i", 4)] := blkOk_by (by decide +kernel)
theorem fx_mixed_together (D : DefAt K mg "mixed_together" s_mixed_together) (C : Consts K mg) (F_begun : Fx P w K mg base "begun" 1 ["length"] sp_begun) (F_words_of : Fx P w K mg base "words_of" 1 ["data"] (sp_words_of K)) : Fx P w K mg base "mixed_together" 2 ["lengths", "beginning"] (sp_mixed_together K) := by
  refine D.fx sc_mixed_together (fun _ _ _ _ _ _ us hl => by obtain ⟨_, _, rfl⟩ := ln2 hl; rfl) (fun vs H Q E h => ?_) (fun f cdv A outer s H vs Q E hr h => ?_)
  · obtain ⟨a, b, ls, x, rfl, _⟩ := h
    rfl
  · obtain ⟨a, b, ls, x, rfl, ha, hb, hby, hls, hll, hxl, q⟩ := h
    refine ⟨_, (pss_cons (ps_set (i := 2) sc_mixed_together.nd rfl (Or.inl rfl) pe_int)
      (pss_cons (ps_set (i := 3) sc_mixed_together.nd rfl (Or.inr rfl) pe_int)
      (pss_cons (ps_for PassesOwn.never rfl (pi_enum rfl C.nenumerate (pa_cons (pv 0) pa_nil)) (pg_tup rfl (pgs_cons (pg_name (i := 4) sc_mixed_together.nd rfl (Or.inl rfl)) (pgs_cons (pg_name (i := 5) sc_mixed_together.nd rfl (Or.inl rfl)) pgs_nil))) (pss_cons (ps_aug (i := 2) sc_mixed_together.nd rfl (Or.inl rfl) (pe_op op_shl pe_int (pe_op op_mul (pe_gint rfl C.LANE) (pv 4))) ip_add)
      (pss_one (ps_aug (i := 3) sc_mixed_together.nd rfl (Or.inr rfl) (pe_op op_shl (pe_fx F_begun (hr.mono (by decide)) rfl (pa_cons (pv 5) pa_nil)) (pe_op op_mul (pe_gint rfl C.LANE) (pv 4))) ip_add))))
      (pss_cons (ps_set (i := 6) sc_mixed_together.nd rfl (Or.inl rfl) (pe_op op_mul (pv 2) (pe_gint rfl C.WORD)))
      (pss_cons (ps_set (i := 7) sc_mixed_together.nd rfl (Or.inl rfl) (pe_op op_mul (pv 2) (pe_gint rfl C.HALF_WORD)))
      (pss_cons (ps_for PassesOwn.never rfl (pi_list (pe_fx F_words_of (hr.mono (by decide)) rfl (pa_cons (pv 1) pa_nil))) (pg_name (i := 8) sc_mixed_together.nd rfl (Or.inl rfl)) (pss_cons (ps_set (i := 3) sc_mixed_together.nd rfl (Or.inr rfl) (pe_op op_and (pe_op op_mul (pe_op op_add (pv 3) (pe_op op_mul (pv 8) (pv 2))) (pe_gint rfl C.HASH_FACTOR)) (pv 6)))
      (pss_one (ps_set (i := 3) sc_mixed_together.nd rfl (Or.inr rfl) (pe_op op_xor (pv 3) (pe_op op_and (pe_op op_shr (pv 3) pe_int) (pv 7)))))))
      (pss_one (ps_ret (pe_lc (own := [("i", 4)]) rfl sc_mixed_together.nd (pi_range1 rfl C.nrange (pa_cons (pe_callB call_len_seq rfl C.nlen PySem.boot_len (pa_cons (pv 0) pa_nil)) pa_nil)) blk_lanes (fun _ _ _ _ _ => pg_name (i := 4) sc_mixed_together.nd rfl (Or.inl rfl)) (fun _ _ _ _ _ => pts_nil)
        (fun _ _ _ _ _ => pe_op op_and (pe_op op_shr (pv 3) (pe_op op_mul (pe_gint rfl C.LANE) (pv 4))) (pe_gint rfl C.WORD))))))))))), ?_⟩
    try dsimp only [cxOf]
    have hlen : (vb ls).length = ls.length := vb_length ls
    refine ⟨_, rfl, a, _, rfl, ha, for_enum (K := K) (a := a) (xs := vb ls) (fun i σ H2 => Same H H2 ∧ ∃ v u, σ = [some (.ref a), some (.ref b), some (.int ((My.onesN i : Nat) : Int)), some (.int ((My.pack (lanesAt (ls.take i) []) : Nat) : Int)), v, u, none, none, none])
      ⟨Same.refl H, none, none, rfl⟩ (fun i σ H2 ⟨hs, _⟩ => hs.seq ha) ?_ ?_⟩
    · rintro i v T σ H2 hv hT ⟨hs, v4, v5, rfl⟩
      obtain ⟨n, hn, rfl⟩ := vb_get hv
      have hi : i < ls.length := (List.getElem?_eq_some_iff.mp hn).1
      have hnl := hls n (List.mem_of_getElem? hn)
      refine ⟨T, _, rfl, .inl (.inl upd_same), rfl, _, _, rfl, _, _, rfl, rfl, ?_⟩
      refine ⟨_, rfl, _, rfl, _, _, rfl, rfl, .inl ⟨by decide, by decide⟩, _, _, rfl, rfl, ⟨by omega, by omega, by decide⟩, _, _, rfl, rfl, ?_⟩
      have hbl := begunH_lt n
      refine ⟨_, rfl, _, rfl, n, rfl, hnl, ?_⟩
      rw [begunH_is]
      refine ⟨_, rfl, _, _, rfl, rfl, .inl ⟨by decide, by decide⟩, _, _, rfl, rfl, ⟨by omega, by omega, ?_⟩, _, _, rfl, rfl, ?_⟩
      · show (((begunH n : Nat) : Int)).natAbs < 2 ^ 64
        rw [Int.natAbs_natCast]
        omega
      refine ⟨Same.new hs hT, some (V.int (i : Int)), some (V.int (n : Int)), ?_⟩
      have e1 : ((My.onesN i : Nat) : Int) + 1 * 2 ^ ((66 : Int) * (i : Int)).toNat = ((My.onesN (i + 1) : Nat) : Int) := by
        rw [pow66, My.onesN_succ, Int.one_mul, Int.natCast_add]
      have e2 : ((My.pack (lanesAt (ls.take i) []) : Nat) : Int) + ((begunH n : Nat) : Int) * 2 ^ ((66 : Int) * (i : Int)).toNat = ((My.pack (lanesAt (ls.take (i + 1)) []) : Nat) : Int) := by
        rw [pow66, List.take_succ, hn]
        show _ = ((My.pack (lanesAt (ls.take i ++ [n]) []) : Nat) : Int)
        rw [lanesAt_one, My.pack_snoc, lanesAt_length, List.length_take, Nat.min_eq_left (by omega), Int.natCast_add, Int.natCast_mul]
      show [some (V.ref a), some (V.ref b), some (V.int (((My.onesN i : Nat) : Int) + 1 * 2 ^ ((66 : Int) * (i : Int)).toNat)), some (V.int (((My.pack (lanesAt (ls.take i) []) : Nat) : Int) + ((begunH n : Nat) : Int) * 2 ^ ((66 : Int) * (i : Int)).toNat)), some (V.int (i : Int)), some (V.int (n : Int)), none, none, none] = _
      rw [e1, e2]
    · rintro σ H2 ⟨hs, v4, v5, rfl⟩
      rw [hlen, List.take_length]
      refine ⟨_, rfl, _, _, rfl, rfl, .inr ⟨by decide, by decide⟩, ?_⟩
      refine ⟨_, rfl, _, _, rfl, rfl, .inr ⟨by decide, by decide⟩, ?_⟩
      refine ⟨_, rfl, b, x, rfl, hs.seq hb, hby, hxl, fun l H3 s3 hl h3 => ?_⟩
      have e1 : ((My.onesN ls.length : Nat) : Int) * 4294967295 = ((My.onesN ls.length * 4294967295 : Nat) : Int) := by
        rw [Int.natCast_mul]
        rfl
      have e2 : ((My.onesN ls.length : Nat) : Int) * 65535 = ((My.onesN ls.length * 65535 : Nat) : Int) := by
        rw [Int.natCast_mul]
        rfl
      refine ⟨l, rfl, ⟨_, SqL.of h3⟩, for_list (K := K) (a := l) (xs := vb (wordsOf x)) (fun i σ H4 => Same H3 H4 ∧ ∃ v, σ = [some (.ref a), some (.ref b), some (.int ((My.onesN ls.length : Nat) : Int)), some (.int ((My.pack (lanesAt ls ((wordsOf x).take i)) : Nat) : Int)), v4, v5, some (.int ((My.onesN ls.length * 4294967295 : Nat) : Int)), some (.int ((My.onesN ls.length * 65535 : Nat) : Int)), v])
        ⟨Same.refl _, none, ?_⟩ (fun i σ H4 _ p => SqL.of (p.1 _ _ h3)) ?_ ?_⟩
      · show [some (V.ref a), some (V.ref b), some (V.int ((My.onesN ls.length : Nat) : Int)), some (V.int ((My.pack (lanesAt ls []) : Nat) : Int)), v4, v5, some (V.int (((My.onesN ls.length : Nat) : Int) * 4294967295)), some (V.int (((My.onesN ls.length : Nat) : Int) * 65535)), none] = _
        rw [e1, e2, List.take_zero]
      · rintro i wv σ H4 hw ⟨s4, v8, rfl⟩
        obtain ⟨wd, hwd, rfl⟩ := vb_get hw
        have hwl := words_lt wd (List.mem_of_getElem? hwd)
        refine ⟨_, rfl, _, rfl, _, rfl, _, _, rfl, rfl, .inl ⟨by omega, by omega⟩, _, _, rfl, rfl, _, _, rfl, rfl, .inr ⟨by decide, by decide⟩, _, rfl, _, _, rfl, rfl, ?_⟩
        refine ⟨_, rfl, _, rfl, _, _, rfl, rfl, (by show (0 : Int) ≤ 16; decide), _, rfl, _, _, rfl, rfl, _, _, rfl, rfl, ?_⟩
        refine ⟨s4, some (V.int (wd : Int)), ?_⟩
        have hst : My.laneXor ls.length (My.laneMul (lanesAt ls ((wordsOf x).take i)) wd) = My.pack (lanesAt ls ((wordsOf x).take (i + 1))) := by
          have := My.lane_step (l := lanesAt ls ((wordsOf x).take i)) (w := wd) lanesAt_lt hwl
          rw [lanesAt_length] at this
          rw [this, List.take_succ, hwd]
          show _ = My.pack (lanesAt ls ((wordsOf x).take i ++ [wd]))
          rw [lanesAt_snoc]
        show [some (V.ref a), some (V.ref b), some (V.int ((My.onesN ls.length : Nat) : Int)), some (V.int (Builtin.bitXor (Builtin.bitAnd ((((My.pack (lanesAt ls ((wordsOf x).take i)) : Nat) : Int) + (wd : Int) * ((My.onesN ls.length : Nat) : Int)) * 3332679571) ((My.onesN ls.length * 4294967295 : Nat) : Int)) (Builtin.bitAnd ((Builtin.bitAnd ((((My.pack (lanesAt ls ((wordsOf x).take i)) : Nat) : Int) + (wd : Int) * ((My.onesN ls.length : Nat) : Int)) * 3332679571) ((My.onesN ls.length * 4294967295 : Nat) : Int)) / 2 ^ (16 : Int).toNat) ((My.onesN ls.length * 65535 : Nat) : Int)))), v4, v5, some (V.int ((My.onesN ls.length * 4294967295 : Nat) : Int)), some (V.int ((My.onesN ls.length * 65535 : Nat) : Int)), some (V.int (wd : Int))] = _
        rw [laneMul_int (lanesAt_length _ _), laneXor_int, hst]
      · rintro σ H4 ⟨s4, v8, rfl⟩
        rw [vb_length, List.take_length]
        have s5 := (hs.trans s3).trans s4
        have hL : (lanesAt ls (wordsOf x)).length = ls.length := lanesAt_length _ _
        have hLl : ∀ z ∈ lanesAt ls (wordsOf x), z < 2 ^ 32 := lanesAt_lt
        generalize lanesAt ls (wordsOf x) = L at q hL hLl
        refine ⟨_, rfl, a, _, rfl, .inl (s5.seq ha), ((ls.length : Nat) : Int), (by rw [hlen]), by omega, by omega, fun lD hD => ?_⟩
        refine lc_range (n := (((ls.length : Nat) : Int)).toNat) (fun i H8 => Same H H8 ∧ H8 lD = some (.lst (vb (L.take i)))) ⟨Same.new s5 hD, upd_same⟩ ?_ ?_
        · rintro i H8 hi ⟨s8, h8⟩
          rw [Int.toNat_natCast] at hi
          have hg : L[i]? = some L[i] := List.getElem?_eq_getElem (by omega)
          refine ⟨rfl, _, rfl, _, rfl, _, _, rfl, rfl, .inl ⟨by decide, by decide⟩, _, _, rfl, rfl, (by omega), _, _, rfl, rfl, _, h8, lt_size ?_, Same.upd s8 (s5.free hD), ?_⟩
          · rw [vb_length, List.length_take]
            omega
          · rw [upd_same, List.take_succ, hg]
            refine vb_snoc _ ?_
            show Builtin.bitAnd (((My.pack L : Nat) : Int) / 2 ^ ((66 : Int) * (0 + (i : Int))).toNat) 4294967295 = _
            rw [Int.zero_add]
            exact lane_out hLl hg
        · rintro H8 ⟨s8, h8⟩
          rw [Int.toNat_natCast, ← hL, List.take_length] at h8
          exact q lD H8 s8 (s5.free hD) h8
end
end KL
set_option Elab.async false
set_option linter.all false
set_option maxRecDepth 100000
namespace KL
open PySem PySem.W PyProof.Rows L2
section
variable {P : Program} {w : World} {K : Frag} {mg : Str → Option Value} {base : Heap}
theorem call_len_seqK {X : Cx} (K : Frag) (h : X.K = K) : CallR X (Value.builtin "len") fun xs H Q => ∃ p ys, xs = [V.ref p] ∧ (SqL K H p ys ∨ SqT K H p ys) ∧ Q (V.int ((ys.length : Nat) : Int)) H := by
  subst h
  exact call_len_seq
theorem sl_listK {X : Cx} (K : Frag) (h : X.K = K) : SlR X (rSlL K) := by
  subst h
  exact sl_list
theorem lc_zip {K : Frag} {a b : Addr} {w1 w2 : List V} {g : TG} {tt : TT} {te : TE} {vs : List Nat} {σ : L2.St} {H1 : Hp} {D : Addr} {Qd : Hp → Prop} (Pv : Nat → Hp → Prop) (h0 : Pv 0 (upd H1 D (.lst [])))
    (hn : w1.length = w2.length) (hl : ∀ i H, Pv i H → SqL K H a w1 ∧ SqL K H b w2)
    (hs : ∀ i x1 x2 T H, w1[i]? = some x1 → w2[i]? = some x2 → H T = none → Pv i H → g (.ref T) (wipe σ vs) (upd H T (.tup [x1, x2])) fun σ2 H2 => wipe σ2 vs = wipe σ vs ∧ tt σ2 H2 fun b H3 =>
      if b = true then te σ2 H3 fun y H4 => ∃ acc, H4 D = some (.lst acc) ∧ acc.length < sizeLine ∧ Pv (i + 1) (upd H4 D (.lst (acc ++ [y]))) else Pv (i + 1) H3) (hd : ∀ H, Pv w1.length H → Qd H) :
    ∃ W : Nat → Nat → Hp → Prop, (∃ m, W 0 m (upd H1 D (.lst []))) ∧ ∀ i m H, W i m H →
      ((Itz K a b).stop i H ∧ Qd H) ∨ ((Itz K a b).go i H ∧ ∃ Nx : Hp → Prop, (∀ H', Nx H' → ∃ m', m' < m ∧ W (i + 1) m' H') ∧ ∀ y H', (Itz K a b).yld i H y H' → g y (wipe σ vs) H' fun σ2 H2 => wipe σ2 vs = wipe σ vs ∧ tt σ2 H2 fun b H3 =>
        if b = true then te σ2 H3 fun y H4 => ∃ acc, H4 D = some (.lst acc) ∧ acc.length < sizeLine ∧ Nx (upd H4 D (.lst (acc ++ [y]))) else Nx H3) := by
  refine ⟨fun i m H => m = w1.length - i ∧ i ≤ w1.length ∧ Pv i H, ⟨w1.length, by simp, Nat.zero_le _, h0⟩, ?_⟩
  rintro i m H ⟨rfl, hi, p⟩
  obtain ⟨q1, q2⟩ := hl i H p
  by_cases hlt : i < w1.length
  · refine .inr ⟨⟨w1, w2, _, _, q1, q2, List.getElem?_eq_getElem hlt, List.getElem?_eq_getElem (by omega)⟩, Pv (i + 1), fun H' p' => ⟨w1.length - (i + 1), by omega, rfl, hlt, p'⟩, fun y H' hy => ?_⟩
    obtain ⟨T, x1, x2, rfl, hT, rfl, e1, e2⟩ := hy
    exact hs i x1 x2 T H (e1 _ q1) (e2 _ q2) hT p
  · have e : i = w1.length := by omega
    subst e
    exact .inl ⟨⟨w1, w2, q1, q2, .inl (Nat.le_refl _)⟩, hd H p⟩
def KeysAt (H : Hp) (rs : List Addr) (ks : List (List Nat)) : Prop := rs.length = ks.length ∧ ∀ (i : Nat) (r : Addr) (k : List Nat), rs[i]? = some r → ks[i]? = some k → H r = some (.lst (vb k))
theorem KeysAt.same {H H' : Hp} {rs : List Addr} {ks : List (List Nat)} (k : KeysAt H rs ks) (s : Same H H') : KeysAt H' rs ks := ⟨k.1, fun i r x h1 h2 => s _ _ (k.2 i r x h1 h2)⟩
theorem KeysAt.snoc {H : Hp} {rs : List Addr} {ks : List (List Nat)} {r : Addr} {x : List Nat} (k : KeysAt H rs ks) (h : H r = some (.lst (vb x))) : KeysAt H (rs ++ [r]) (ks ++ [x]) := by
  refine ⟨by rw [List.length_append, List.length_append, k.1]; rfl, fun i a y h1 h2 => ?_⟩
  by_cases hi : i < rs.length
  · rw [List.getElem?_append_left hi] at h1
    rw [List.getElem?_append_left (by rw [← k.1]; exact hi)] at h2
    exact k.2 i a y h1 h2
  · have hi' : rs.length ≤ i := by omega
    rw [List.getElem?_append_right hi'] at h1
    rw [List.getElem?_append_right (by rw [← k.1]; exact hi'), ← k.1] at h2
    cases hz : i - rs.length with
    | zero =>
      rw [hz] at h1 h2
      cases h1
      cases h2
      exact h
    | succ n =>
      rw [hz] at h1
      cases h1
theorem KeysAt.nil {H : Hp} : KeysAt H [] [] := ⟨rfl, fun i r k h => by cases h⟩
theorem ref_get {rs : List Addr} {i : Nat} {v : V} (h : (rs.map V.ref)[i]? = some v) : ∃ r, rs[i]? = some r ∧ v = V.ref r := by
  rw [List.getElem?_map] at h
  cases e : rs[i]? with
  | none => rw [e] at h; cases h
  | some r => rw [e] at h; exact ⟨r, rfl, (Option.some.inj h).symm⟩
theorem wordsL_is (x : List Nat) : My.wordsL x = wordsOf x := by
  unfold My.wordsL wordsOf
  rfl
theorem hash_by {ks : List (List Nat)} (hp : ks.Pairwise fun x y => Sv13.before x y = true) {a c k : List Nat} {sh : Nat} (ha : ks.head? = some a) (hc : ks.getLast? = some c) (hk : k ∈ ks) (hb : isByte k) (hs : sh = Sv13.common a c / 4 * 4) :
    Sv13.hashFrom ((wordsOf (a.take sh)).foldl Sv13.mixed (begunH k.length)) (k.drop sh) = Sv13.hash k := by
  obtain ⟨b1, b2⟩ := My.rise_mid hp ha hc hk
  have hle : sh ≤ Sv13.common a c := by omega
  obtain ⟨t1, t2, t3⟩ := My.common_take a c sh hle
  obtain ⟨m1, m2⟩ := My.mid_take a k c sh t1 t2 t3 b1 b2
  have e4 : sh = 4 * (Sv13.common a c / 4) := by omega
  rw [e4] at m1 m2 ⊢
  rw [My.hash_split hb m2, m1, begunH_is, wordsL_is]
def sp_key_hashes (K : Frag) : Sp := fun vs H Q _ => ∃ (a : Addr) (rs : List Addr) (ks : List (List Nat)), vs = [.ref a] ∧ SqL K H a (rs.map V.ref) ∧ KeysAt H rs ks ∧ (∀ k ∈ ks, isByte k ∧ k.length ≤ 1000000) ∧ (ks.Pairwise fun x y => Sv13.before x y = true) ∧ ks.length ≤ 128 ∧ newL (vb (ks.map Sv13.hash)) H Q
theorem sc_key_hashes : FnScope ["keys", "shared", "begun_ones", "key", "mixed"] ["keys"] (defScope s_key_hashes) := ⟨rfl, rfl, rfl, by decide +kernel, rfl, by decide +kernel, by decide +kernel⟩
theorem blk_lens : BlkOk ["keys", "shared", "begun_ones", "key", "mixed"] (defScope s_key_hashes) { kind := .function, names := [(".0", .local), ("key", .local), ("len", .globalImplicit)], isGenerator := false, isCoroutine := false } [("key", 3)] := blkOk_by (by decide +kernel)
theorem blk_hash : BlkOk ["keys", "shared", "begun_ones", "key", "mixed"] (defScope s_key_hashes) { kind := .function, names := [(".0", .local), ("mixed", .local), ("key", .local), ("mixed_on", .globalImplicit), ("shared", .free)], isGenerator := false, isCoroutine := false } [("mixed", 4), ("key", 3)] := blkOk_by (by decide +kernel)
theorem fx_key_hashes (D : DefAt K mg "key_hashes" s_key_hashes) (C : Consts K mg) (F_shared_length : Fx P w K mg base "shared_length" 1 ["one", "other", "known"] (sp_shared_length K)) (F_mixed_together : Fx P w K mg base "mixed_together" 2 ["lengths", "beginning"] (sp_mixed_together K)) (F_mixed_on : Fx P w K mg base "mixed_on" 2 ["mixed", "rest"] (sp_mixed_on K)) :
    Fx P w K mg base "key_hashes" 3 ["keys"] (sp_key_hashes K) := by
  refine D.fx sc_key_hashes (fun _ _ _ _ _ _ us hl => by obtain ⟨_, rfl⟩ := ln1 hl; rfl) (fun vs H Q E h => ?_) (fun f cdv A outer s H vs Q E hr h => ?_)
  · obtain ⟨a, rs, ks, rfl, _⟩ := h
    rfl
  · obtain ⟨a, rs, ks, rfl, ha, hk, hby, hrise, hkl, q⟩ := h
    refine ⟨_, (pss_cons (ps_if (pt_cmpR (op_eqE hr.units0) (pv 0) (pe_lst pa_nil) (nomark _)) (pss_one (ps_ret (pe_lst pa_nil))) pss_nil)
      (pss_cons (ps_set (i := 1) sc_key_hashes.nd rfl (Or.inr rfl) (pe_op op_mul (pe_op op_fdiv (pe_fx F_shared_length (hr.mono (by decide)) rfl (pa_cons (pe_ix ix_list (pv 0) pe_int (fun _ _ => rfl)) (pa_cons (pe_ix ix_list (pv 0) (pe_un un_neg pe_int) (fun _ _ => rfl)) (pa_cons pe_int pa_nil)))) pe_int) pe_int))
      (pss_cons (ps_set (i := 2) sc_key_hashes.nd rfl (Or.inl rfl) (pe_fx F_mixed_together (hr.mono (by decide)) rfl (pa_cons (pe_lc (own := [("key", 3)]) rfl sc_key_hashes.nd (pi_list (pv 0)) blk_lens (fun _ _ _ _ _ => pg_name (i := 3) sc_key_hashes.nd rfl (Or.inl rfl)) (fun _ _ _ _ _ => pts_nil) (fun _ _ _ _ _ => pe_callB (call_len_seqK K rfl) rfl C.nlen PySem.boot_len (pa_cons (pv 3) pa_nil))) (pa_cons (pe_slice sl_list (pe_ix ix_list (pv 0) pe_int (fun _ _ => rfl)) po_none (po_some (pv 1))) pa_nil))))
      (pss_one (ps_ret (pe_lc (own := [("mixed", 4), ("key", 3)]) (g := gTup K 2 (gCons (gName 4) (gCons (gName 3) gNil))) rfl sc_key_hashes.nd (pi_zip rfl C.nzip (pa_cons (pv 2) (pa_cons (pv 0) pa_nil))) blk_hash
        (fun _ _ _ _ _ => pg_tup rfl (pgs_cons (pg_name (i := 4) sc_key_hashes.nd rfl (Or.inl rfl)) (pgs_cons (pg_name (i := 3) sc_key_hashes.nd rfl (Or.inl rfl)) pgs_nil))) (fun _ _ _ _ _ => pts_nil)
        (fun _ _ _ _ _ => pe_fx F_mixed_on (hr.mono (by decide)) rfl (pa_cons (pv 4) (pa_cons (pe_slice (sl_listK K rfl) (pv 3) (po_some (pv 1)) po_none) pa_nil))))))))), ?_⟩
    try dsimp only [cxOf]
    have hrl : rs.length = ks.length := hk.1
    refine ⟨_, rfl, Nat.zero_le _, fun l0 hl0 => ?_⟩
    have s0 : Same H (upd H l0 (.lst [])) := Same.new (Same.refl H) hl0
    refine ⟨a, l0, _, rfl, rfl, s0.seq ha, SqL.of upd_same, _, rfl, ?_⟩
    by_cases hks : ks = []
    · have hrs : rs = [] := List.length_eq_zero_iff.mp (by rw [hrl, hks]; rfl)
      subst hrs
      refine iteT ?_
      refine ⟨Nat.zero_le _, fun l1 hl1 => ?_⟩
      refine q l1 _ (s0.trans (Same.new (Same.refl _) hl1)) (s0.free hl1) ?_
      rw [upd_same, hks]
      rfl
    · have hpos : 0 < ks.length := by
        cases ks with
        | nil => exact absurd rfl hks
        | cons => simp
      have c0 : (if false = true then !(rs.map V.ref).isEmpty else (rs.map V.ref).isEmpty) = false := by
        cases rs with
        | nil => rw [← hrl] at hpos; exact absurd hpos (by simp)
        | cons => rfl
      rw [c0]
      refine iteF ?_
      generalize hH1 : upd H l0 (.lst []) = H1 at s0
      obtain ⟨k0, hk0⟩ : ∃ k0, ks.head? = some k0 := by
        cases ks with
        | nil => exact absurd rfl hks
        | cons x r => exact ⟨x, rfl⟩
      obtain ⟨kz, hkz⟩ : ∃ kz, ks.getLast? = some kz := ⟨_, List.getLast?_eq_some_getLast hks⟩
      have hk0' : ks[0]? = some k0 := by rw [← List.head?_eq_getElem?]; exact hk0
      have hkz' : ks[ks.length - 1]? = some kz := by rw [← List.getLast?_eq_getElem?]; exact hkz
      have hr0 : rs[0]? = some rs[0] := List.getElem?_eq_getElem (by omega)
      have hrz : rs.getLast? = some rs[rs.length - 1] := by rw [List.getLast?_eq_getElem?]; exact List.getElem?_eq_getElem (by omega)
      have g0 := hk.2 0 _ _ hr0 hk0'
      have gz : H rs[rs.length - 1] = some (.lst (vb kz)) := hk.2 (rs.length - 1) _ _ (List.getElem?_eq_getElem (by omega)) (by rw [hrl]; exact hkz')
      generalize rs[0] = r0 at hr0 g0
      generalize rs[rs.length - 1] = rz at hrz gz
      have hb0 := hby k0 (List.mem_of_getElem? hk0')
      have ha1 := s0.seq ha
      have at0 : atI (rs.map V.ref) 0 = some (V.ref r0) := atI_nat (j := 0) (by rw [List.getElem?_map, hr0]; rfl)
      have atz : atI (rs.map V.ref) (-1) = some (V.ref rz) := atI_last (by rw [List.getLast?_map, hrz]; rfl)
      refine ⟨_, rfl, a, _, _, V.ref r0, rfl, rfl, ha1, at0, _, rfl, _, rfl, a, _, _, V.ref rz, rfl, rfl, ha1, atz, r0, rz, k0, kz, rfl, SqL.of (s0 _ _ g0), SqL.of (s0 _ _ gz), hb0.2, fun H2 s2 => ?_⟩
      have s02 := s0.trans s2
      have hcl := (My.common_le k0 kz).1
      generalize hsh : Sv13.common k0 kz / 4 * 4 = sh
      have esh : ((Sv13.common k0 kz : Nat) : Int) / 4 * 4 = ((sh : Nat) : Int) := by omega
      refine ⟨_, _, rfl, rfl, ⟨by decide, by decide⟩, _, _, rfl, rfl, .inr ⟨by decide, by decide⟩, ?_⟩
      refine gname_nx ?_
      dsimp only
      rw [esh]
      refine ⟨_, rfl, a, rfl, ⟨_, s02.seq ha⟩, fun ln hD => ?_⟩
      have sD : Same H (upd H2 ln (.lst [])) := s02.trans (Same.new (Same.refl _) hD)
      refine lc_list (K := K) (a := a) (xs := rs.map V.ref) (fun i H8 => Same H H8 ∧ H8 ln = some (.lst (vb ((ks.map List.length).take i)))) ⟨sD, upd_same⟩ (fun i H8 _ p => p.1.seq ha) ?_ ?_
      · rintro i v H8 hv ⟨s8, h8⟩
        obtain ⟨r, hr', rfl⟩ := ref_get hv
        have hi : i < ks.length := by rw [← hrl]; exact (List.getElem?_eq_some_iff.mp hr').1
        have hki : ks[i]? = some ks[i] := List.getElem?_eq_getElem hi
        refine ⟨rfl, _, rfl, r, _, rfl, .inl (SqL.of (s8 _ _ (hk.2 i r _ hr' hki))), _, h8, lt_size ?_, Same.upd s8 (s02.free hD), ?_⟩
        · rw [vb_length, List.length_take]
          omega
        · rw [upd_same, List.take_succ, List.getElem?_map, hki]
          exact vb_snoc _ (by rw [vb_length])
      rintro H8 ⟨s8, h8⟩
      rw [List.length_map, hrl, ← List.length_map (as := ks) List.length, List.take_length] at h8
      refine ⟨_, rfl, a, _, _, V.ref r0, rfl, rfl, s8.seq ha, at0, _, rfl, _, rfl, r0, _, rfl, SqL.of (s8 _ _ g0), fun lp hp => ?_⟩
      rw [cut_to, ← vb_take]
      have s9 : Same H8 (upd H8 lp (.lst (vb (k0.take sh)))) := Same.new (Same.refl _) hp
      refine ⟨ln, lp, ks.map List.length, k0.take sh, rfl, SqL.of (s9 _ _ h8), SqL.of upd_same, fun x hx => hb0.1 x (List.mem_of_mem_take hx), fun n hn => ?_, by rw [List.length_map]; exact hkl, ?_, fun lm HA sA hlm hA => ?_⟩
      · obtain ⟨k, hk', rfl⟩ := List.mem_map.mp hn
        exact (hby k hk').2
      · rw [List.length_take]
        have := hb0.2
        omega
      have sHA := (s8.trans s9).trans sA
      have hml : (lanesAt (ks.map List.length) (wordsOf (k0.take sh))).length = ks.length := by rw [lanesAt_length, List.length_map]
      refine ⟨_, rfl, _, rfl, lm, a, _, _, rfl, SqL.of hA, sHA.seq ha, fun lo ho => ?_⟩
      refine lc_zip (K := K) (a := lm) (b := a) (w1 := vb (lanesAt (ks.map List.length) (wordsOf (k0.take sh)))) (w2 := rs.map V.ref) (fun i HB => Same HA HB ∧ HB lo = some (.lst (vb ((ks.map Sv13.hash).take i)))) ⟨Same.new (Same.refl _) ho, upd_same⟩ ?_ (fun i HB p => ⟨SqL.of (p.1 _ _ hA), (sHA.trans p.1).seq ha⟩) ?_ ?_
      · rw [vb_length, hml, List.length_map, hrl]
      · rintro i x1 x2 T HB e1 e2 hT ⟨sB, hB⟩
        obtain ⟨m, hm, rfl⟩ := vb_get e1
        obtain ⟨r, hr', rfl⟩ := ref_get e2
        have hi : i < ks.length := by rw [← hrl]; exact (List.getElem?_eq_some_iff.mp hr').1
        have hki : ks[i]? = some ks[i] := List.getElem?_eq_getElem hi
        have hkb := hby ks[i] (List.getElem_mem _)
        have hrk := hk.2 i r _ hr' hki
        have hhash := hash_by hrise hk0 hkz (List.getElem_mem hi) hkb.1 hsh.symm
        have hmv : m = (wordsOf (k0.take sh)).foldl Sv13.mixed (begunH ks[i].length) := by
          unfold lanesAt at hm
          rw [List.map_map, List.getElem?_map, hki] at hm
          exact (Option.some.inj hm).symm
        generalize ks[i] = key at hki hkb hrk hhash hmv
        have hlt : m < 2 ^ 32 := lanesAt_lt m (List.mem_of_getElem? hm)
        have sC : Same HB (upd HB T (.tup [V.int (m : Int), V.ref r])) := Same.new (Same.refl _) hT
        refine ⟨T, _, rfl, .inl (.inl upd_same), rfl, _, _, rfl, _, _, rfl, rfl, rfl, ?_⟩
        refine ⟨_, rfl, _, rfl, _, rfl, _, rfl, r, _, rfl, SqL.of ((sHA.trans (sB.trans sC)) _ _ hrk), fun lq hq => ?_⟩
        rw [cut_from, ← vb_drop]
        have sE := Same.new (o := .lst (vb (key.drop sh))) sC hq
        refine ⟨m, lq, key.drop sh, rfl, SqL.of upd_same, fun x hx => hkb.1 x (List.mem_of_mem_drop hx), by rw [List.length_drop]; omega, hlt, fun HF sF => ?_⟩
        refine ⟨_, sF _ _ (sE _ _ hB), lt_size ?_, Same.upd (sB.trans (sE.trans sF)) ho, ?_⟩
        · rw [vb_length, List.length_take]
          omega
        · rw [upd_same, List.take_succ, List.getElem?_map, hki, hmv, hhash]
          exact vb_snoc _ rfl
      · rintro HB ⟨sB, hB⟩
        rw [vb_length, hml, ← List.length_map (as := ks) Sv13.hash, List.take_length] at hB
        exact q lo HB (sHA.trans sB) (sHA.free ho) hB
end
end KL
set_option Elab.async false
set_option linter.all false
set_option maxRecDepth 100000
namespace KL
open PySem PySem.W PyProof.Rows L2
section
variable {P : Program} {w : World} {K : Frag} {mg : Str → Option Value} {base : Heap}
def sp_probes_for : Sp := fun vs H Q _ => ∃ b : Nat, vs = [.int (b : Int)] ∧ Q (.int ((Sv13.probes b : Nat) : Int)) H
theorem sc_probes_for : FnScope ["bits"] ["bits"] (defScope s_probes_for) := ⟨rfl, rfl, rfl, by decide +kernel, rfl, by decide +kernel, by decide +kernel⟩
theorem fx_probes_for (D : DefAt K mg "probes_for" s_probes_for) (C : Consts K mg) : Fx P w K mg base "probes_for" 1 ["bits"] sp_probes_for := by
  refine D.fx sc_probes_for (fun _ _ _ _ _ _ us hl => by obtain ⟨_, rfl⟩ := ln1 hl; rfl) (fun vs H Q E h => ?_) (fun f cdv A outer s H vs Q E hr h => ?_)
  · obtain ⟨b, rfl, _⟩ := h
    rfl
  · obtain ⟨b, rfl, q⟩ := h
    refine ⟨_, (pss_one (ps_ret (pe_callB (call_min2 rfl) rfl C.nmin boot_min (pa_cons (pe_callB (call_max2 rfl) rfl C.nmax boot_max (pa_cons (pe_op op_fdiv (pe_op op_mul pe_int (pv 0)) pe_int) (pa_cons pe_int pa_nil))) (pa_cons (pe_gint rfl C.MOST_PROBES) pa_nil))))), ?_⟩
    try dsimp only [cxOf]
    refine ⟨_, rfl, _, _, rfl, rfl, .inl ⟨by decide, by decide⟩, _, _, rfl, rfl, ⟨by decide, by decide⟩, _, _, rfl, _, _, rfl, ?_⟩
    have e : (if (30 : Int) < (if (1 : Int) > (69 : Int) * (b : Int) / 100 then (1 : Int) else (69 : Int) * (b : Int) / 100) then (30 : Int) else (if (1 : Int) > (69 : Int) * (b : Int) / 100 then (1 : Int) else (69 : Int) * (b : Int) / 100)) = ((Sv13.probes b : Nat) : Int) := by
      have h1 : Sv13.probes b = max 1 (min 30 (69 * b / 100)) := rfl
      rw [h1]
      split <;> split <;> omega
    rw [← e] at q
    exact q
def sp_piece_of (K : Frag) : Sp := fun vs H Q _ => ∃ (a : Addr) (ks : List (List Nat)) (b : Nat), vs = [.ref a, .int (b : Int)] ∧ SqL K H a (vb (ks.map Sv13.hash)) ∧ (∀ k ∈ ks, isByte k) ∧ ks.length ≤ 1000000 ∧ b ≤ 20 ∧ newL (vb (My.pc b ks)) H Q
theorem sc_piece_of : FnScope ["hashes", "bits", "size", "probes", "piece", "mixed", "place"] ["hashes", "bits"] (defScope s_piece_of) := ⟨rfl, rfl, rfl, by decide +kernel, rfl, by decide +kernel, by decide +kernel⟩
theorem vb_setBit (piece : List Nat) (m : Nat) : vb (My.setBit piece m) = (vb piece).set (m / 8) (V.int ((piece.getD (m / 8) 0 ||| 2 ^ (m % 8) : Nat) : Int)) := by
  unfold My.setBit vb
  rw [List.map_set]
theorem marks_snoc (b n : Nat) (ks : List (List Nat)) (k : List Nat) : My.allMarks b n (ks ++ [k]) = My.allMarks b n ks ++ Sv13.marks (Sv13.probes b) n k := by
  simp [My.allMarks]
theorem marksH_is (p n : Nat) (k : List Nat) : marksH p n (Sv13.hash k) = Sv13.marks p n k := by
  rw [My.marks_eq]
  unfold marksH
  rfl
theorem fx_piece_of (D : DefAt K mg "piece_of" s_piece_of) (C : Consts K mg) (F_probes_for : Fx P w K mg base "probes_for" 1 ["bits"] sp_probes_for) (F_bit_places : Fx P w K mg base "bit_places" 1 ["mixed", "probes", "total"] sp_bit_places) :
    Fx P w K mg base "piece_of" 2 ["hashes", "bits"] (sp_piece_of K) := by
  refine D.fx sc_piece_of (fun _ _ _ _ _ _ us hl => by obtain ⟨_, _, rfl⟩ := ln2 hl; rfl) (fun vs H Q E h => ?_) (fun f cdv A outer s H vs Q E hr h => ?_)
  · obtain ⟨a, ks, b, rfl, _⟩ := h
    rfl
  · obtain ⟨a, ks, b, rfl, ha, hby, hkl, hb, q⟩ := h
    refine ⟨_, (pss_cons (ps_if (pt_cmpR (op_eqE hr.units0) (pv 0) (pe_lst pa_nil) (nomark _)) (pss_one (ps_ret (pe_lst pa_nil))) pss_nil)
      (pss_cons (ps_set (i := 2) sc_piece_of.nd rfl (Or.inl rfl) (pe_op op_fdiv (pe_op op_add (pe_callB (call_max2 rfl) rfl C.nmax boot_max (pa_cons pe_int (pa_cons (pe_op op_mul (pe_callB call_len_seq rfl C.nlen PySem.boot_len (pa_cons (pv 0) pa_nil)) (pv 1)) pa_nil))) pe_int) pe_int))
      (pss_cons (ps_set (i := 3) sc_piece_of.nd rfl (Or.inl rfl) (pe_fx F_probes_for (hr.mono (by decide)) rfl (pa_cons (pv 1) pa_nil)))
      (pss_cons (ps_set (i := 4) sc_piece_of.nd rfl (Or.inl rfl) (pe_op op_rep (pe_lst (pa_cons pe_int pa_nil)) (pv 2)))
      (pss_cons (ps_for PassesOwn.never rfl (pi_list (pv 0)) (pg_name (i := 5) sc_piece_of.nd rfl (Or.inl rfl)) (pss_one (ps_for PassesOwn.never rfl (pi_list (pe_fx F_bit_places (hr.mono (by decide)) rfl (pa_cons (pv 5) (pa_cons (pv 3) (pa_cons (pe_op op_mul pe_int (pv 2)) pa_nil))))) (pg_name (i := 6) sc_piece_of.nd rfl (Or.inl rfl)) (pss_one (ps_asg (pe_op op_or (pe_ix ix_list (pv 4) (pe_op op_fdiv (pv 6) pe_int) (fun _ _ => rfl)) (pe_op op_shl pe_int (pe_op op_mod (pv 6) pe_int))) (pg_sub (pv 4) (pe_op op_fdiv (pv 6) pe_int) set_list))))))
      (pss_cons (ps_expr (pe_bm PySem.F.plainAttrs_list PySem.F.slot_list_append PySem.F.type_list_append mt_append (pv 4) (pa_cons (pv 3) pa_nil)))
      (pss_one (ps_ret (pv 4))))))))), ?_⟩
    try dsimp only [cxOf]
    have hrl : (vb (ks.map Sv13.hash)).length = ks.length := by rw [vb_length, List.length_map]
    refine ⟨_, rfl, Nat.zero_le _, fun l0 hl0 => ?_⟩
    have s0 : Same H (upd H l0 (.lst [])) := Same.new (Same.refl H) hl0
    refine ⟨a, l0, _, rfl, rfl, s0.seq ha, SqL.of upd_same, _, rfl, ?_⟩
    by_cases hks : ks = []
    · subst hks
      refine iteT ?_
      refine ⟨Nat.zero_le _, fun l1 hl1 => ?_⟩
      refine q l1 _ (s0.trans (Same.new (Same.refl _) hl1)) (s0.free hl1) ?_
      rw [upd_same]
      unfold My.pc
      rw [if_pos rfl]
      rfl
    · have c0 : (if false = true then !(vb (ks.map Sv13.hash)).isEmpty else (vb (ks.map Sv13.hash)).isEmpty) = false := by
        cases ks with
        | nil => exact absurd rfl hks
        | cons => rfl
      rw [c0]
      refine iteF ?_
      have e1 : (if (((vb (ks.map Sv13.hash)).length : Nat) : Int) * (b : Int) > 64 then (((vb (ks.map Sv13.hash)).length : Nat) : Int) * (b : Int) else 64) = ((max 64 (ks.length * b) : Nat) : Int) := by
        rw [hrl]
        have e : ((ks.length : Nat) : Int) * (b : Int) = ((ks.length * b : Nat) : Int) := (Int.natCast_mul _ _).symm
        rw [e]
        generalize ks.length * b = z
        split <;> omega
      have e2 : ((max 64 (ks.length * b) : Nat) : Int) + 7 = ((max 64 (ks.length * b) + 7 : Nat) : Int) := by omega
      have e3 : ((max 64 (ks.length * b) + 7 : Nat) : Int) / 8 = ((My.pieceSize b ks : Nat) : Int) := by
        unfold My.pieceSize
        omega
      have e4 : ((if (((vb (ks.map Sv13.hash)).length : Nat) : Int) * (b : Int) > 64 then (((vb (ks.map Sv13.hash)).length : Nat) : Int) * (b : Int) else 64) + 7) / 8 = ((My.pieceSize b ks : Nat) : Int) := by
        rw [e1, e2, e3]
      have hsz := My.pieceSize_le hb ks
      have hpos := My.pieceSize_pos b ks
      generalize hz : My.pieceSize b ks = z at e4 hsz hpos
      refine ⟨_, rfl, a, _, rfl, .inl (s0.seq ha), _, rfl, _, _, rfl, rfl, .inl ⟨by rw [hrl]; omega, by rw [hrl]; omega⟩, _, _, rfl, _, _, rfl, rfl, _, _, rfl, rfl, ⟨by decide, by decide⟩, ?_⟩
      refine ⟨_, rfl, b, rfl, ?_⟩
      refine ⟨(by show 1 ≤ sizeLine; decide), fun l1 hl1 => ?_⟩
      have s1 : Same H (upd (upd H l0 (.lst [])) l1 (.lst [V.int 0])) := s0.trans (Same.new (Same.refl _) hl1)
      refine ⟨_, rfl, l1, (z : Int), _, rfl, ?_, upd_same, by omega, by omega, le_size ?_, fun p hp => ?_⟩
      · show V.int (((if (((vb (ks.map Sv13.hash)).length : Nat) : Int) * (b : Int) > 64 then (((vb (ks.map Sv13.hash)).length : Nat) : Int) * (b : Int) else 64) + 7) / 8) = _
        rw [e4]
      · show 1 * (z : Int).toNat ≤ _
        omega
      have hz2 : (z : Int).toNat = z := Int.toNat_natCast z
      rw [hz2, rep_zero]
      have hpH : H p = none := s1.free hp
      have s2 : Same H (upd (upd (upd H l0 (.lst [])) l1 (.lst [V.int 0])) p (.lst (vb (List.replicate z 0)))) := s1.trans (Same.new (Same.refl _) hp)
      refine ⟨_, rfl, a, rfl, ⟨_, s2.seq ha⟩, for_list (K := K) (a := a) (xs := vb (ks.map Sv13.hash)) (fun i σ H2 => Same H H2 ∧ H2 p = some (.lst (vb ((My.allMarks b (8 * z) (ks.take i)).foldl My.setBit (List.replicate z 0)))) ∧
        ∃ v u, σ = [some (.ref a), some (.int (b : Int)), some (.int (z : Int)), some (.int ((Sv13.probes b : Nat) : Int)), some (.ref p), v, u])
        ⟨s2, upd_same, none, none, ?_⟩ (fun i σ H2 _ ⟨hs, _⟩ => hs.seq ha) ?_ ?_⟩
      · show [some (V.ref a), some (V.int (b : Int)), some (V.int (((if (((vb (ks.map Sv13.hash)).length : Nat) : Int) * (b : Int) > 64 then (((vb (ks.map Sv13.hash)).length : Nat) : Int) * (b : Int) else 64) + 7) / 8)), some (V.int ((Sv13.probes b : Nat) : Int)), some (V.ref p), none, none] = _
        rw [e4]
      · rintro i x σ H2 hx ⟨hs, h2, v, u, rfl⟩
        obtain ⟨hv, hhv, rfl⟩ := vb_get hx
        rw [List.getElem?_map] at hhv
        obtain ⟨key, hkey, rfl⟩ := Option.map_eq_some_iff.mp hhv
        have hkb := hby key (List.mem_of_getElem? hkey)
        have e8 : (8 : Int) * (z : Int) = ((8 * z : Nat) : Int) := by omega
        refine ⟨_, rfl, _, rfl, _, rfl, _, _, rfl, rfl, .inl ⟨by decide, by decide⟩, Sv13.hash key, Sv13.probes b, 8 * z, ?_, My.hash_lt hkb, ?_, by omega, ?_⟩
        · show [V.int ((Sv13.hash key : Nat) : Int), V.int ((Sv13.probes b : Nat) : Int), V.int ((8 : Int) * (z : Int))] = _
          rw [e8]
        · have : Sv13.probes b = max 1 (min 30 (69 * b / 100)) := rfl
          omega
        · intro lm H3 s3 hlm h3
          rw [marksH_is] at h3
          have npm : p ≠ lm := ne_of_none h2 hlm
          have hmk : ∀ m ∈ Sv13.marks (Sv13.probes b) (8 * z) key, m < 8 * z := My.marks_lt (by omega)
          generalize hcur : (My.allMarks b (8 * z) (ks.take i)).foldl My.setBit (List.replicate z 0) = cur at h2
          have hcl : cur.length = z := by rw [← hcur, My.setBits_length, List.length_replicate]
          have hnext : (My.allMarks b (8 * z) (ks.take (i + 1))).foldl My.setBit (List.replicate z 0) = (Sv13.marks (Sv13.probes b) (8 * z) key).foldl My.setBit cur := by
            rw [List.take_succ, hkey]
            show (My.allMarks b (8 * z) (ks.take i ++ [key])).foldl My.setBit _ = _
            rw [marks_snoc, List.foldl_append, hcur]
          generalize Sv13.marks (Sv13.probes b) (8 * z) key = ms at h3 hmk hnext
          refine ⟨lm, rfl, ⟨_, SqL.of h3⟩, for_list (K := K) (a := lm) (xs := vb ms) (fun j σ H4 => Same H H4 ∧ H4 lm = some (.lst (vb ms)) ∧ H4 p = some (.lst (vb ((ms.take j).foldl My.setBit cur))) ∧
            ∃ u, σ = [some (.ref a), some (.int (b : Int)), some (.int (z : Int)), some (.int ((Sv13.probes b : Nat) : Int)), some (.ref p), some (.int ((Sv13.hash key : Nat) : Int)), u])
            ⟨hs.trans s3, h3, s3 _ _ h2, u, rfl⟩ (fun j σ H4 _ ⟨_, h4, _⟩ => SqL.of h4) ?_ ?_⟩
          · rintro j x σ H4 hx ⟨hs4, h4, h5, u, rfl⟩
            obtain ⟨m, hm, rfl⟩ := vb_get hx
            have hml : m < 8 * z := hmk m (List.mem_of_getElem? hm)
            generalize hc2 : (ms.take j).foldl My.setBit cur = c2 at h5
            have hc2l : c2.length = z := by rw [← hc2, My.setBits_length, hcl]
            have hidx : m / 8 < c2.length := by omega
            have hg : c2[m / 8]? = some (c2.getD (m / 8) 0) := by simp [List.getD, hidx]
            have ed : (m : Int) / 8 = ((m / 8 : Nat) : Int) := by omega
            have em : (m : Int) % 8 = ((m % 8 : Nat) : Int) := by omega
            have ev : Builtin.bitOr ((c2.getD (m / 8) 0 : Nat) : Int) (1 * 2 ^ ((m : Int) % 8).toNat) = ((c2.getD (m / 8) 0 ||| 2 ^ (m % 8) : Nat) : Int) := by
              have e : (1 : Int) * 2 ^ ((m : Int) % 8).toNat = ((2 ^ (m % 8) : Nat) : Int) := by
                rw [em, Int.toNat_natCast, Int.one_mul]
                simp
              rw [e, or_nat]
            refine ⟨_, rfl, _, rfl, _, _, rfl, rfl, ⟨by decide, by decide⟩, p, _, _, _, rfl, rfl, SqL.of h5, at_of ed (by unfold vb; rw [List.getElem?_map, hg]; rfl), _, rfl, _, _, rfl, rfl, (by show (0 : Int) < 8; decide), _, _, rfl, rfl, ⟨by omega, by omega, by decide⟩, _, _, rfl, rfl, ?_⟩
            refine ⟨_, rfl, _, rfl, _, _, rfl, rfl, ⟨by decide, by decide⟩, p, _, _, m / 8, rfl, rfl, h5, ?_, ?_⟩
            · unfold ixN
              rw [if_pos (by omega), if_pos (by rw [vb_length]; omega)]
              congr 1
            · refine ⟨Same.upd hs4 hpH, by rw [upd_ne npm.symm]; exact h4, ?_, some (V.int (m : Int)), rfl⟩
              rw [upd_same, List.take_succ, hm]
              show _ = some (HO.lst (vb ((ms.take j ++ [m]).foldl My.setBit cur)))
              rw [List.foldl_append, hc2]
              show _ = some (HO.lst (vb (My.setBit c2 m)))
              rw [vb_setBit]
              show some (HO.lst ((vb c2).set (m / 8) (V.int (Builtin.bitOr ((c2.getD (m / 8) 0 : Nat) : Int) (1 * 2 ^ ((m : Int) % 8).toNat))))) = _
              rw [ev]
          · rintro σ H4 ⟨hs4, h4, h5, u, rfl⟩
            rw [vb_length, List.take_length] at h5
            refine ⟨hs4, ?_, _, _, rfl⟩
            rw [hnext]
            exact h5
      · rintro σ H2 ⟨hs, h2, v, u, rfl⟩
        rw [hrl, List.take_length] at h2
        have hpl : (My.pieceBits b ks).length = z := by rw [My.pieceBits_length, hz]
        have hpb : (My.allMarks b (8 * z) ks).foldl My.setBit (List.replicate z 0) = My.pieceBits b ks := by
          unfold My.pieceBits
          rw [hz]
        rw [hpb] at h2
        refine ⟨_, rfl, .inl ⟨rfl, _, SqL.of h2⟩, _, rfl, p, _, _, rfl, rfl, h2, lt_size (by rw [vb_length, hpl]; omega), _, rfl, ?_⟩
        refine q p _ (Same.upd hs hpH) hpH ?_
        rw [upd_same]
        unfold My.pc
        rw [if_neg hks, My.filter_eq]
        exact vb_snoc _ rfl
end
end KL
set_option Elab.async false
set_option linter.all false
set_option maxRecDepth 100000
namespace KL
open PySem PySem.W PyProof.Rows L2
section
variable {P : Program} {w : World} {K : Frag} {mg : Str → Option Value} {base : Heap}
structure FilterWriterCls (K : Frag) (C : Addr) : Prop where
  cl : Cls K C
  nB : NoAttr K C "bits"
  nU : NoAttr K C "unhashed"
  nH : NoAttr K C "hashes"
  nK : NoAttr K C "blocks"
def fsF (bits : Nat) (lu lh lb : Addr) : List (Str × V) := [("bits", .int (bits : Int)), ("unhashed", .ref lu), ("hashes", .ref lh), ("blocks", .ref lb)]
section
variable {bits : Nat} {lu lh lb : Addr}
theorem fsF_bits : (fsF bits lu lh lb).lookup ("bits" : Str) = some (.int (bits : Int)) := lk_here
theorem fsF_unhashed : (fsF bits lu lh lb).lookup ("unhashed" : Str) = some (.ref lu) := lk_next (by decide +kernel) lk_here
theorem fsF_hashes : (fsF bits lu lh lb).lookup ("hashes" : Str) = some (.ref lh) := lk_next (by decide +kernel) (lk_next (by decide +kernel) lk_here)
theorem fsF_blocks : (fsF bits lu lh lb).lookup ("blocks" : Str) = some (.ref lb) := lk_next (by decide +kernel) (lk_next (by decide +kernel) (lk_next (by decide +kernel) lk_here))
theorem fsF_no {m : Str} (h : ∀ x ∈ (["bits", "unhashed", "hashes", "blocks"] : List Str), (m == x) = false) : (fsF bits lu lh lb).lookup m = none :=
  lk_next (h _ (by simp)) (lk_next (h _ (by simp)) (lk_next (h _ (by simp)) (lk_next (h _ (by simp)) lk_nil)))
theorem fsF_put : (fsF bits lu lh lb).lookup ("put" : Str) = none := fsF_no (by decide +kernel)
theorem fsF_hash : (fsF bits lu lh lb).lookup ("hash_keys" : Str) = none := fsF_no (by decide +kernel)
theorem fsF_end : (fsF bits lu lh lb).lookup ("end_block" : Str) = none := fsF_no (by decide +kernel)
theorem fsF_pieces : (fsF bits lu lh lb).lookup ("hashes_by_piece" : Str) = none := fsF_no (by decide +kernel)
theorem fsF_content : (fsF bits lu lh lb).lookup ("content" : Str) = none := fsF_no (by decide +kernel)
theorem putF_unhashed {lu' : Addr} : putF "unhashed" (.ref lu') (fsF bits lu lh lb) = fsF bits lu' lh lb := by
  unfold fsF
  simp (disch := decide +kernel) only [pf_nil, pf_here, pf_next]
theorem fsF_made : putF "blocks" (.ref lb) (putF "hashes" (.ref lh) (putF "unhashed" (.ref lu) (putF "bits" (.int (bits : Int)) []))) = fsF bits lu lh lb := by
  unfold fsF
  simp (disch := decide +kernel) only [pf_nil, pf_here, pf_next]
end
structure FS where
  done : List (List Nat)
  un : List (List Nat)
  bl : List (Nat × Nat)
def FS.hash (f : FS) : FS := ⟨f.done ++ f.un, [], f.bl⟩
def FS.put (f : FS) (k : List Nat) : FS := if (f.un ++ [k]).length = 128 then ⟨f.done ++ (f.un ++ [k]), [], f.bl⟩ else ⟨f.done, f.un ++ [k], f.bl⟩
def FS.endb (f : FS) (b : Nat) : FS := ⟨f.done, f.un, f.bl ++ [(b, f.done.length + f.un.length)]⟩
structure FF where
  p : Addr
  dx : Addr
  lu : Addr
  lh : Addr
  lb : Addr
  us : List Addr
  ts : List Addr
def FF.foot (F : FF) : List Addr := [F.p, F.lu, F.lh, F.lb]
def TupsAt (G : Hp) (ts : List Addr) (bl : List (Nat × Nat)) : Prop := ts.length = bl.length ∧ ∀ (i : Nat) (t : Addr) (x : Nat × Nat), ts[i]? = some t → bl[i]? = some x → G t = some (.tup [.int (x.1 : Int), .int (x.2 : Int)])
theorem TupsAt.same {G G' : Hp} {ts : List Addr} {bl : List (Nat × Nat)} (k : TupsAt G ts bl) (s : Same G G') : TupsAt G' ts bl := ⟨k.1, fun i r x h1 h2 => s _ _ (k.2 i r x h1 h2)⟩
theorem TupsAt.snoc {G : Hp} {ts : List Addr} {bl : List (Nat × Nat)} {t : Addr} {x : Nat × Nat} (k : TupsAt G ts bl) (h : G t = some (.tup [.int (x.1 : Int), .int (x.2 : Int)])) : TupsAt G (ts ++ [t]) (bl ++ [x]) := by
  refine ⟨by rw [List.length_append, List.length_append, k.1]; rfl, fun i a y h1 h2 => ?_⟩
  by_cases hi : i < ts.length
  · rw [List.getElem?_append_left hi] at h1
    rw [List.getElem?_append_left (by rw [← k.1]; exact hi)] at h2
    exact k.2 i a y h1 h2
  · have hi' : ts.length ≤ i := by omega
    rw [List.getElem?_append_right hi'] at h1
    rw [List.getElem?_append_right (by rw [← k.1]; exact hi'), ← k.1] at h2
    cases hz : i - ts.length with
    | zero =>
      rw [hz] at h1 h2
      cases h1
      cases h2
      exact h
    | succ n =>
      rw [hz] at h1
      cases h1
structure FAt (C : Addr) (G H : Hp) (F : FF) (bits : Nat) (f : FS) : Prop where
  ob : H F.p = some (.ins C F.dx (fsF bits F.lu F.lh F.lb))
  hu : H F.lu = some (.lst (F.us.map V.ref))
  hh : H F.lh = some (.lst (vb (f.done.map Sv13.hash)))
  hb : H F.lb = some (.lst (F.ts.map V.ref))
  ku : KeysAt G F.us f.un
  tb : TupsAt G F.ts f.bl
  n1 : F.lu ≠ F.lh
  n2 : F.lu ≠ F.lb
  n3 : F.lh ≠ F.lb
  gp : G F.p = none
  gu : G F.lu = none
  gh : G F.lh = none
  gb : G F.lb = none
  sg : Same G H
section
variable {C : Addr} {G H H' : Hp} {F : FF} {bits : Nat} {f : FS}
theorem FAt.isS (W : FAt C G H F bits f) {x : Addr} (hx : x ∈ F.foot) : H x ≠ none := by
  have h : x = F.p ∨ x = F.lu ∨ x = F.lh ∨ x = F.lb := by simpa [FF.foot] using hx
  rcases h with rfl | rfl | rfl | rfl
  · rw [W.ob]; simp
  · rw [W.hu]; simp
  · rw [W.hh]; simp
  · rw [W.hb]; simp
theorem FAt.gS (W : FAt C G H F bits f) {x : Addr} (hx : x ∈ F.foot) : G x = none := by
  have h : x = F.p ∨ x = F.lu ∨ x = F.lh ∨ x = F.lb := by simpa [FF.foot] using hx
  rcases h with rfl | rfl | rfl | rfl
  · exact W.gp
  · exact W.gu
  · exact W.gh
  · exact W.gb
theorem FAt.kb (W : FAt C G H F bits f) {T : List Addr} (k : KB T H H') (d : ∀ x ∈ F.foot, x ∉ T) (s : Same G H') : FAt C G H' F bits f :=
  ⟨k _ _ W.ob (d _ (by simp [FF.foot])), k _ _ W.hu (d _ (by simp [FF.foot])), k _ _ W.hh (d _ (by simp [FF.foot])), k _ _ W.hb (d _ (by simp [FF.foot])), W.ku, W.tb, W.n1, W.n2, W.n3, W.gp, W.gu, W.gh, W.gb, s⟩
theorem FAt.same (W : FAt C G H F bits f) (s : Same H H') : FAt C G H' F bits f := ⟨s _ _ W.ob, s _ _ W.hu, s _ _ W.hh, s _ _ W.hb, W.ku, W.tb, W.n1, W.n2, W.n3, W.gp, W.gu, W.gh, W.gb, W.sg.trans s⟩
theorem FAt.frz (W : FAt C G H F bits f) {l : Addr} {o : HO} (hl : H l = some o) (gl : G l = none) (n : l ∉ F.foot) : FAt C (upd G l o) H F bits f := by
  have q : ∀ x ∈ F.foot, (upd G l o) x = none := fun x hx => by
    rw [upd_ne (fun z => n (by rw [← z]; exact hx))]
    exact W.gS hx
  have s : Same G (upd G l o) := Same.new (Same.refl G) gl
  exact ⟨W.ob, W.hu, W.hh, W.hb, W.ku.same s, W.tb.same s, W.n1, W.n2, W.n3, q _ (by simp [FF.foot]), q _ (by simp [FF.foot]), q _ (by simp [FF.foot]), q _ (by simp [FF.foot]), Same.grow W.sg hl⟩
theorem FAt.fresh (W : FAt C G H F bits f) {l : Addr} (hl : H l = none) : l ∉ F.foot := fun z => W.isS z hl
end
def sp_F_init (C : Addr) : Sp := fun vs H Q _ => ∃ (p dx : Addr) (bits : Nat) (G : Hp), vs = [.ref p, .int (bits : Int)] ∧ H p = some (.ins C dx []) ∧ Same G H ∧ G p = none ∧
  ∀ (F : FF) (H' : Hp), F.p = p → FAt C G H' F bits ⟨[], [], []⟩ → (∀ x ∈ [F.lu, F.lh, F.lb], H x = none) → KB [p] H H' → Q .non H'
theorem sc_FilterWriter_init : FnScope ["self", "bits"] ["self", "bits"] (defScope s_FilterWriter_init) := ⟨rfl, rfl, rfl, by decide +kernel, rfl, by decide +kernel, by decide +kernel⟩
theorem mx_F_init {C : Addr} (D : MakeAt K mg "FilterWriter" C "FilterWriter.__init__" s_FilterWriter_init) (T : FilterWriterCls K C) : Mkx P w K mg base "FilterWriter" C 1 ["self", "bits"] (sp_F_init C) := by
  refine D.mx sc_FilterWriter_init (fun _ _ _ _ _ _ us hl => by obtain ⟨_, _, rfl⟩ := ln2 hl; rfl) (fun vs H Q E h => ?_) (fun f cdv A outer s H vs Q E hr h => ?_)
  · obtain ⟨p, dx, bits, G, rfl, _⟩ := h
    rfl
  · obtain ⟨p, dx, bits, G, rfl, hp, sg, gp, q⟩ := h
    refine ⟨_, (pss_cons (ps_fld (pv 0) (pv 1) rfl)
      (pss_cons (ps_fld (pv 0) (pe_lst pa_nil) rfl)
      (pss_cons (ps_fld (pv 0) (pe_lst pa_nil) rfl)
      (pss_one (ps_fld (pv 0) (pe_lst pa_nil) rfl))))), ?_⟩
    try dsimp only [cxOf]
    refine ⟨_, rfl, _, rfl, rfs hp T.cl T.nB (by show 0 < 1000; decide) ?_⟩
    refine ⟨Nat.zero_le _, fun lu hlu => ?_⟩
    have nu : p ≠ lu := ne_of_none upd_same hlu
    refine ⟨_, rfl, rfs (by rw [upd_ne nu]; exact upd_same) T.cl T.nU (by show 1 < 1000; decide) ?_⟩
    refine ⟨Nat.zero_le _, fun lh hlh => ?_⟩
    have nh : p ≠ lh := ne_of_none upd_same hlh
    have nuh : lu ≠ lh := ne_of_none (by rw [upd_ne nu.symm]; exact upd_same) hlh
    refine ⟨_, rfl, rfs (by rw [upd_ne nh]; exact upd_same) T.cl T.nH (by show 2 < 1000; decide) ?_⟩
    refine ⟨Nat.zero_le _, fun lb hlb => ?_⟩
    have nb : p ≠ lb := ne_of_none upd_same hlb
    have nub : lu ≠ lb := ne_of_none (by rw [upd_ne nu.symm, upd_ne nuh, upd_ne nu.symm]; exact upd_same) hlb
    have nhb : lh ≠ lb := ne_of_none (by rw [upd_ne nh.symm]; exact upd_same) hlb
    refine ⟨_, rfl, rfs (by rw [upd_ne nb]; exact upd_same) T.cl T.nK (by show 3 < 1000; decide) ?_⟩
    rw [upd_ne nu.symm] at hlu
    rw [upd_ne nh.symm, upd_ne nuh.symm, upd_ne nh.symm] at hlh
    rw [upd_ne nb.symm, upd_ne nhb.symm, upd_ne nb.symm, upd_ne nub.symm, upd_ne nb.symm] at hlb
    have e1 : ∀ {b o}, H b = some o → b ≠ lu ∧ b ≠ lh ∧ b ≠ lb := fun {b o} e => ⟨ne_of_none e hlu, ne_of_none e hlh, ne_of_none e hlb⟩
    have kp : KB [p] H (upd (upd (upd (upd (upd (upd (upd H p (.ins C dx (putF "bits" (.int (bits : Int)) []))) lu (.lst [])) p (.ins C dx (putF "unhashed" (.ref lu) (putF "bits" (.int (bits : Int)) [])))) lh (.lst [])) p (.ins C dx (putF "hashes" (.ref lh) (putF "unhashed" (.ref lu) (putF "bits" (.int (bits : Int)) []))))) lb (.lst [])) p (.ins C dx (putF "blocks" (.ref lb) (putF "hashes" (.ref lh) (putF "unhashed" (.ref lu) (putF "bits" (.int (bits : Int)) [])))))) := by
      intro b o e hb
      have hb : b ≠ p := by simpa using hb
      obtain ⟨n1, n2, n3⟩ := e1 e
      rw [upd_ne hb, upd_ne n3, upd_ne hb, upd_ne n2, upd_ne hb, upd_ne n1, upd_ne hb]
      exact e
    have hq := q ⟨p, dx, lu, lh, lb, [], []⟩ _ rfl ?_ ?_ kp
    · exact hq
    · refine ⟨?_, ?_, ?_, ?_, KeysAt.nil, ⟨rfl, fun i t x h => by cases h⟩, nuh, nub, nhb, gp, sg.free hlu, sg.free hlh, sg.free hlb, same_kb sg kp fun x hx => ?_⟩
      · show (upd _ p _) p = _
        rw [upd_same, fsF_made]
      · show (upd _ p _) lu = _
        rw [upd_ne nu.symm, upd_ne nub, upd_ne nu.symm, upd_ne nuh, upd_ne nu.symm]
        exact upd_same
      · show (upd _ p _) lh = _
        rw [upd_ne nh.symm, upd_ne nhb, upd_ne nh.symm]
        exact upd_same
      · show (upd _ p _) lb = _
        rw [upd_ne nb.symm]
        exact upd_same
      · have : x = p := by simpa using hx
        rw [this]
        exact gp
    · intro x hx
      have hx : x = lu ∨ x = lh ∨ x = lb := by simpa using hx
      rcases hx with rfl | rfl | rfl
      · exact hlu
      · exact hlh
      · exact hlb
structure KeysOk (ks : List (List Nat)) : Prop where
  by_ : ∀ k ∈ ks, isByte k ∧ k.length ≤ 1000000
  up : ks.Pairwise fun x y => Sv13.before x y = true
  le : ks.length ≤ 128
def Gr (H H' : Hp) : Prop := ∀ x, H' x = none → H x = none
theorem Gr.of {H H' : Hp} (s : Same H H') : Gr H H' := fun x h => s.free h
theorem Gr.trans {H H1 H2 : Hp} (a : Gr H H1) (b : Gr H1 H2) : Gr H H2 := fun x h => a x (b x h)
theorem Gr.upd {H H' : Hp} {l : Addr} {o : HO} (a : Gr H H') : Gr H (L2.upd H' l o) := fun x h => by
  have n : x ≠ l := fun z => by rw [z, upd_same] at h; cases h
  rw [upd_ne n] at h
  exact a x h
theorem gr_kb {S : List Addr} {H H' : Hp} (k : KB S H H') (h : ∀ x ∈ S, H' x ≠ none) : Gr H H' := fun x hx => k.free hx fun z => h x z hx
def FNext (C : Addr) (G H : Hp) (F : FF) (bits : Nat) (f : FS) (Q : VK) : Prop := ∀ (F' : FF) (H' : Hp), F'.p = F.p → FAt C G H' F' bits f → (∀ x ∈ F'.foot, x ∈ F.foot ∨ H x = none) → KB F.foot H H' → Gr H H' → Q .non H'
def sp_F_hash (C : Addr) : Sp := fun vs H Q _ => ∃ (F : FF) (G : Hp) (bits : Nat) (f : FS), vs = [.ref F.p] ∧ FAt C G H F bits f ∧ KeysOk f.un ∧ f.done.length ≤ 1000000 ∧ FNext C G H F bits f.hash Q
theorem sc_FilterWriter_hash_keys : FnScope ["self"] ["self"] (defScope s_FilterWriter_hash_keys) := ⟨rfl, rfl, rfl, by decide +kernel, rfl, by decide +kernel, by decide +kernel⟩
theorem mx_F_hash {C : Addr} (D : MethAt K C "hash_keys" "FilterWriter.hash_keys" s_FilterWriter_hash_keys) (T : FilterWriterCls K C) (F_key_hashes : Fx P w K mg base "key_hashes" 3 ["keys"] (sp_key_hashes K)) : Mtx P w K mg base C "hash_keys" 4 ["self"] (sp_F_hash C) := by
  refine D.mx T.cl sc_FilterWriter_hash_keys (fun _ _ _ _ _ _ us hl => by obtain ⟨_, rfl⟩ := ln1 hl; rfl) (fun vs H Q E h => ?_) (fun f cdv A outer s H vs Q E hr h => ?_)
  · obtain ⟨F, G, bits, f, rfl, _⟩ := h
    rfl
  · obtain ⟨F, G, bits, f, rfl, W, ok, hdl, q⟩ := h
    refine ⟨_, (pss_cons (ps_expr (pe_bm PySem.F.plainAttrs_list PySem.F.slot_list_extend PySem.F.type_list_extend mt_extend (pe_fld (pv 0) rfl) (pa_cons (pe_fx F_key_hashes (hr.mono (by decide)) rfl (pa_cons (pe_fld (pv 0) rfl) pa_nil)) pa_nil)))
      (pss_one (ps_fld (pv 0) (pe_lst pa_nil) rfl))), ?_⟩
    try dsimp only [cxOf]
    have hle := ok.le
    refine ⟨_, rfl, rfd W.ob T.cl T.nH fsF_hashes ⟨.inl ⟨rfl, _, SqL.of W.hh⟩, _, rfl, rfd W.ob T.cl T.nU fsF_unhashed ⟨F.lu, F.us, f.un, rfl, SqL.of W.hu, W.ku.same W.sg, ok.by_, ok.up, ok.le, fun l H1 s1 hl h1 => ?_⟩⟩⟩
    have W1 := W.same s1
    refine ⟨F.lh, l, _, _, rfl, rfl, W1.hh, h1, le_size (by rw [vb_length, vb_length, List.length_map, List.length_map]; omega), ?_⟩
    have np : F.p ≠ F.lh := ne_of W.ob W.hh (by intro z; cases z)
    rw [← vb_append, ← List.map_append]
    refine ⟨Nat.zero_le _, fun lu hlu => ?_⟩
    have k1 : KB F.foot H (upd H1 F.lh (.lst (vb ((f.done ++ f.un).map Sv13.hash)))) := KB.upd (KB.of s1) (by simp [FF.foot])
    generalize hH2 : upd H1 F.lh (.lst (vb ((f.done ++ f.un).map Sv13.hash))) = H2 at hlu k1
    have o2 : H2 F.p = some (.ins C F.dx (fsF bits F.lu F.lh F.lb)) := by rw [← hH2, upd_ne np]; exact W1.ob
    have hh2 : H2 F.lh = some (.lst (vb ((f.done ++ f.un).map Sv13.hash))) := by rw [← hH2]; exact upd_same
    have hb2 : H2 F.lb = some (.lst (F.ts.map V.ref)) := by rw [← hH2, upd_ne W.n3.symm]; exact W1.hb
    have n0 : F.p ≠ lu := ne_of_none o2 hlu
    have nuh : lu ≠ F.lh := (ne_of_none hh2 hlu).symm
    have nub : lu ≠ F.lb := (ne_of_none hb2 hlu).symm
    have npb : F.p ≠ F.lb := ne_of W.ob W.hb (by intro z; cases z)
    have hluH : H lu = none := by
      cases e : H lu with
      | none => rfl
      | some o =>
        by_cases hf : lu ∈ F.foot
        · have h : lu = F.p ∨ lu = F.lu ∨ lu = F.lh ∨ lu = F.lb := by simpa [FF.foot] using hf
          have hlu2 : H2 F.lu = some (.lst (F.us.map V.ref)) := by rw [← hH2, upd_ne W.n1]; exact W1.hu
          rcases h with z | z | z | z
          · exact absurd z.symm n0
          · rw [z, hlu2] at hlu; cases hlu
          · exact absurd z nuh
          · exact absurd z nub
        · rw [k1 _ _ e hf] at hlu
          cases hlu
    refine ⟨_, rfl, rfs (by rw [upd_ne n0]; exact o2) T.cl T.nU (by show 4 < 1000; decide) ?_⟩
    rw [putF_unhashed]
    have k2 : KB F.foot H (upd (upd H2 lu (.lst [])) F.p (.ins C F.dx (fsF bits lu F.lh F.lb))) := KB.upd (KB.new k1 hlu) (by simp [FF.foot])
    refine q { F with lu := lu, us := [] } _ rfl ⟨upd_same, ?_, ?_, ?_, KeysAt.nil, W.tb, nuh, nub, W.n3, W.gp, W.sg.free hluH, W.gh, W.gb, same_kb W.sg k2 fun x hx => W.gS hx⟩ (fun x hx => ?_) k2 (Gr.upd (Gr.upd (by rw [← hH2]; exact Gr.upd (Gr.of s1))))
    · show (upd _ F.p _) lu = _
      rw [upd_ne n0.symm]
      exact upd_same
    · show (upd _ F.p _) F.lh = _
      rw [upd_ne np.symm, upd_ne nuh.symm]
      exact hh2
    · show (upd _ F.p _) F.lb = _
      rw [upd_ne npb.symm, upd_ne nub.symm]
      exact hb2
    · have h : x = F.p ∨ x = lu ∨ x = F.lh ∨ x = F.lb := by simpa [FF.foot] using hx
      rcases h with rfl | rfl | rfl | rfl
      · exact .inl (by simp [FF.foot])
      · exact .inr hluH
      · exact .inl (by simp [FF.foot])
      · exact .inl (by simp [FF.foot])
def sp_F_put (C : Addr) : Sp := fun vs H Q _ => ∃ (F : FF) (G : Hp) (bits : Nat) (f : FS) (k : Addr) (key : List Nat), vs = [.ref F.p, .ref k] ∧ FAt C G H F bits f ∧ G k = some (.lst (vb key)) ∧ KeysOk (f.un ++ [key]) ∧ f.done.length ≤ 1000000 ∧ FNext C G H F bits (f.put key) Q
theorem sc_FilterWriter_put : FnScope ["self", "key"] ["self", "key"] (defScope s_FilterWriter_put) := ⟨rfl, rfl, rfl, by decide +kernel, rfl, by decide +kernel, by decide +kernel⟩
theorem mx_F_put {C : Addr} (D : MethAt K C "put" "FilterWriter.put" s_FilterWriter_put) (T : FilterWriterCls K C) (Cs : Consts K mg) (M_hash_keys : Mtx P w K mg base C "hash_keys" 4 ["self"] (sp_F_hash C)) : Mtx P w K mg base C "put" 5 ["self", "key"] (sp_F_put C) := by
  refine D.mx T.cl sc_FilterWriter_put (fun _ _ _ _ _ _ us hl => by obtain ⟨_, _, rfl⟩ := ln2 hl; rfl) (fun vs H Q E h => ?_) (fun f cdv A outer s H vs Q E hr h => ?_)
  · obtain ⟨F, G, bits, f, k, key, rfl, _⟩ := h
    rfl
  · obtain ⟨F, G, bits, f, k, key, rfl, W, hk, ok, hdl, q⟩ := h
    refine ⟨_, (pss_cons (ps_expr (pe_bm PySem.F.plainAttrs_list PySem.F.slot_list_append PySem.F.type_list_append mt_append (pe_fld (pv 0) rfl) (pa_cons (pv 1) pa_nil)))
      (pss_one (ps_if (pt_cmpR op_eq (pe_callB call_len_seq rfl Cs.nlen PySem.boot_len (pa_cons (pe_fld (pv 0) rfl) pa_nil)) (pe_gint rfl Cs.TOGETHER) (nomark _)) (pss_one (ps_expr (pe_mt0 (pv 0) M_hash_keys (hr.mono (by decide)) ))) pss_nil))), ?_⟩
    try dsimp only [cxOf]
    have hle := ok.le
    rw [List.length_append, List.length_singleton] at hle
    have hul : F.us.length = f.un.length := W.ku.1
    refine ⟨_, rfl, rfd W.ob T.cl T.nU fsF_unhashed ⟨.inl ⟨rfl, _, SqL.of W.hu⟩, _, rfl, F.lu, _, _, rfl, rfl, W.hu, lt_size (by rw [List.length_map]; omega), ?_⟩⟩
    have e1 : F.us.map V.ref ++ [V.ref k] = (F.us ++ [k]).map V.ref := by rw [List.map_append]; rfl
    rw [e1]
    have np : F.p ≠ F.lu := ne_of W.ob W.hu (by intro z; cases z)
    have k1 : KB F.foot H (upd H F.lu (.lst ((F.us ++ [k]).map V.ref))) := KB.upd (KB.refl _ _) (by simp [FF.foot])
    have W1 : FAt C G (upd H F.lu (.lst ((F.us ++ [k]).map V.ref))) { F with us := F.us ++ [k] } bits ⟨f.done, f.un ++ [key], f.bl⟩ := by
      refine ⟨by rw [upd_ne np]; exact W.ob, upd_same, ?_, ?_, W.ku.snoc hk, W.tb, W.n1, W.n2, W.n3, W.gp, W.gu, W.gh, W.gb, same_kb W.sg k1 fun x hx => W.gS hx⟩
      · show (upd _ F.lu _) F.lh = _
        rw [upd_ne W.n1.symm]
        exact W.hh
      · show (upd _ F.lu _) F.lb = _
        rw [upd_ne W.n2.symm]
        exact W.hb
    have g1 : Gr H (upd H F.lu (.lst ((F.us ++ [k]).map V.ref))) := Gr.upd (fun x h => h)
    generalize upd H F.lu (.lst ((F.us ++ [k]).map V.ref)) = H1 at k1 W1 g1
    refine ⟨_, rfl, rfd W1.ob T.cl T.nU fsF_unhashed ⟨F.lu, _, rfl, .inl (SqL.of W1.hu), rfl, _, rfl, ?_⟩⟩
    have e2 : (((F.us ++ [k]).map V.ref).length) = (f.un ++ [key]).length := by rw [List.length_map]; exact W1.ku.1
    show if decide (V.int ((((F.us ++ [k]).map V.ref).length : Nat) : Int) = V.int 128) = true then _ else _
    rw [e2]
    unfold FS.put at q
    by_cases h128 : (f.un ++ [key]).length = 128
    · rw [h128]
      rw [if_pos h128] at q
      refine iteT ?_
      refine ⟨_, rfl, rmt W1.ob fsF_hash ⟨{ F with us := F.us ++ [k] }, G, bits, _, rfl, W1, ok, hdl, fun F' H' hp W' hf' k' g' => ?_⟩⟩
      refine q F' H' hp W' (fun x hx => ?_) (k1.trans k') (g1.trans g')
      rcases hf' x hx with z | z
      · exact .inl z
      · by_cases hxf : x ∈ F.foot
        · exact .inl hxf
        · exact .inr (k1.free z hxf)
    · rw [decide_eq_false (by intro z; injection z with z; omega)]
      rw [if_neg h128] at q
      exact iteF (q { F with us := F.us ++ [k] } H1 rfl W1 (fun x hx => .inl hx) k1 g1)
def sp_F_end (C : Addr) : Sp := fun vs H Q _ => ∃ (F : FF) (G : Hp) (bits : Nat) (f : FS) (b : Nat), vs = [.ref F.p, .int (b : Int)] ∧ FAt C G H F bits f ∧ f.bl.length ≤ 1000000 ∧
  ∀ (t : Addr) (H' : Hp), H t = none → H' t = some (.tup [.int (b : Int), .int ((f.done.length + f.un.length : Nat) : Int)]) → FAt C (upd G t (.tup [.int (b : Int), .int ((f.done.length + f.un.length : Nat) : Int)])) H' { F with ts := F.ts ++ [t] } bits (f.endb b) → KB F.foot H H' → Q .non H'
theorem sc_FilterWriter_end_block : FnScope ["self", "begin"] ["self", "begin"] (defScope s_FilterWriter_end_block) := ⟨rfl, rfl, rfl, by decide +kernel, rfl, by decide +kernel, by decide +kernel⟩
theorem mx_F_end {C : Addr} (D : MethAt K C "end_block" "FilterWriter.end_block" s_FilterWriter_end_block) (T : FilterWriterCls K C) (Cs : Consts K mg) : Mtx P w K mg base C "end_block" 1 ["self", "begin"] (sp_F_end C) := by
  refine D.mx T.cl sc_FilterWriter_end_block (fun _ _ _ _ _ _ us hl => by obtain ⟨_, _, rfl⟩ := ln2 hl; rfl) (fun vs H Q E h => ?_) (fun f cdv A outer s H vs Q E hr h => ?_)
  · obtain ⟨F, G, bits, f, b, rfl, _⟩ := h
    rfl
  · obtain ⟨F, G, bits, f, b, rfl, W, hbl, q⟩ := h
    refine ⟨_, (pss_one (ps_expr (pe_bm PySem.F.plainAttrs_list PySem.F.slot_list_append PySem.F.type_list_append mt_append (pe_fld (pv 0) rfl) (pa_cons (pe_tup (pa_cons (pv 1) (pa_cons (pe_op op_add (pe_callB call_len_seq rfl Cs.nlen PySem.boot_len (pa_cons (pe_fld (pv 0) rfl) pa_nil)) (pe_callB call_len_seq rfl Cs.nlen PySem.boot_len (pa_cons (pe_fld (pv 0) rfl) pa_nil))) pa_nil))) pa_nil)))), ?_⟩
    try dsimp only [cxOf]
    refine ⟨_, rfl, rfd W.ob T.cl T.nK fsF_blocks ⟨.inl ⟨rfl, _, SqL.of W.hb⟩, _, rfl, _, rfl, rfd W.ob T.cl T.nH fsF_hashes ⟨F.lh, _, rfl, .inl (SqL.of W.hh), _, rfl, rfd W.ob T.cl T.nU fsF_unhashed ⟨F.lu, _, rfl, .inl (SqL.of W.hu), _, _, rfl, rfl, (by show 2 ≤ sizeLine; decide), fun t ht => ?_⟩⟩⟩⟩
    have e0 : V.int ((((vb (f.done.map Sv13.hash)).length : Nat) : Int) + (((F.us.map V.ref).length : Nat) : Int)) = V.int ((f.done.length + f.un.length : Nat) : Int) := by
      rw [vb_length, List.length_map, List.length_map, W.ku.1, Int.natCast_add]
    show ∃ l xs y, _
    dsimp only
    rw [e0]
    have nbt : F.lb ≠ t := ne_of_none W.hb ht
    refine ⟨F.lb, _, _, rfl, rfl, (by rw [upd_ne nbt]; exact W.hb), lt_size (by rw [List.length_map, W.tb.1]; omega), ?_⟩
    have e1 : F.ts.map V.ref ++ [V.ref t] = (F.ts ++ [t]).map V.ref := by rw [List.map_append]; rfl
    rw [e1]
    have s1 : Same H (upd H t (.tup [.int (b : Int), .int ((f.done.length + f.un.length : Nat) : Int)])) := Same.new (Same.refl H) ht
    have W1 := W.same s1
    have gt : G t = none := W.sg.free ht
    have npb : F.p ≠ F.lb := ne_of W.ob W.hb (by intro z; cases z)
    have nft : t ∉ F.foot := W.fresh ht
    have W2 := W1.frz upd_same gt nft
    have k2 : KB F.foot H (upd (upd H t (.tup [.int (b : Int), .int ((f.done.length + f.un.length : Nat) : Int)])) F.lb (.lst ((F.ts ++ [t]).map V.ref))) := KB.upd (KB.of s1) (by simp [FF.foot])
    have ht2 : (upd (upd H t (.tup [.int (b : Int), .int ((f.done.length + f.un.length : Nat) : Int)])) F.lb (.lst ((F.ts ++ [t]).map V.ref))) t = some (.tup [.int (b : Int), .int ((f.done.length + f.un.length : Nat) : Int)]) := by
      rw [upd_ne nbt.symm]
      exact upd_same
    refine q t _ ht ht2 ⟨?_, ?_, ?_, upd_same, W2.ku, W2.tb.snoc upd_same, W.n1, W.n2, W.n3, W2.gp, W2.gu, W2.gh, W2.gb, ?_⟩ k2
    · show (upd _ F.lb _) F.p = _
      rw [upd_ne npb]
      exact W1.ob
    · show (upd _ F.lb _) F.lu = _
      rw [upd_ne W.n2]
      exact W1.hu
    · show (upd _ F.lb _) F.lh = _
      rw [upd_ne W.n3]
      exact W1.hh
    · exact Same.grow (same_kb W.sg k2 fun x hx => W.gS hx) ht2
end
end KL
set_option Elab.async false
set_option linter.all false
set_option maxRecDepth 100000
namespace KL
open PySem PySem.W PyProof.Rows L2
section
variable {P : Program} {w : World} {K : Frag} {mg : Str → Option Value} {base : Heap}
def allK (bk : List (Nat × List (List Nat))) : List (List Nat) := bk.flatMap fun x => x.2
def blOf (n : Nat) : List (Nat × List (List Nat)) → List (Nat × Nat)
  | [] => []
  | x :: r => (x.1, n + x.2.length) :: blOf (n + x.2.length) r
theorem blOf_snoc : ∀ (bk : List (Nat × List (List Nat))) (n b : Nat) (ks : List (List Nat)), blOf n (bk ++ [(b, ks)]) = blOf n bk ++ [(b, n + (allK bk).length + ks.length)]
  | [], n, b, ks => rfl
  | x :: r, n, b, ks => by
    show (x.1, n + x.2.length) :: blOf (n + x.2.length) (r ++ [(b, ks)]) = (x.1, n + x.2.length) :: (blOf (n + x.2.length) r ++ [(b, n + (x.2 ++ allK r).length + ks.length)])
    rw [blOf_snoc r, List.length_append, Nat.add_assoc n x.2.length]
theorem blOf_length : ∀ (bk : List (Nat × List (List Nat))) (n : Nat), (blOf n bk).length = bk.length
  | [], n => rfl
  | x :: r, n => by
    show (blOf (n + x.2.length) r).length + 1 = r.length + 1
    rw [blOf_length r]
theorem blOf_get : ∀ (bk : List (Nat × List (List Nat))) (n i : Nat) (x : Nat × List (List Nat)), bk[i]? = some x → (blOf n bk)[i]? = some (x.1, n + (allK (bk.take i)).length + x.2.length)
  | [], n, i, x, h => by cases h
  | y :: r, n, 0, x, h => by
    cases h
    rfl
  | y :: r, n, i + 1, x, h => by
    show (blOf (n + y.2.length) r)[i]? = some (x.1, n + (y.2 ++ allK (r.take i)).length + x.2.length)
    rw [blOf_get r _ i x h, List.length_append, Nat.add_assoc n y.2.length]
theorem allK_cut : ∀ (bk : List (Nat × List (List Nat))) (i : Nat) (x : Nat × List (List Nat)), bk[i]? = some x → ((allK bk).drop (allK (bk.take i)).length).take x.2.length = x.2
  | [], i, x, h => by cases h
  | y :: r, 0, x, h => by
    cases h
    show ((y.2 ++ allK r).drop 0).take y.2.length = y.2
    rw [List.drop_zero, List.take_append_of_le_length (Nat.le_refl _), List.take_length]
  | y :: r, i + 1, x, h => by
    show ((y.2 ++ allK r).drop (y.2 ++ allK (r.take i)).length).take x.2.length = x.2
    rw [List.length_append, ← List.drop_drop, List.drop_append_of_le_length (Nat.le_refl _), List.drop_length, List.nil_append]
    exact allK_cut r i x h
theorem allK_snoc (bk : List (Nat × List (List Nat))) (b : Nat) (ks : List (List Nat)) : allK (bk ++ [(b, ks)]) = allK bk ++ ks := by
  unfold allK
  rw [List.flatMap_append]
  simp
theorem allK_take (bk : List (Nat × List (List Nat))) (i : Nat) (x : Nat × List (List Nat)) (h : bk[i]? = some x) : allK (bk.take (i + 1)) = allK (bk.take i) ++ x.2 := by
  rw [List.take_succ, h]
  exact allK_snoc _ _ _
theorem allK_len (bk : List (Nat × List (List Nat))) : (allK bk).length = My.keysN bk := by
  unfold allK My.keysN
  rw [List.length_flatMap]
theorem pieceKeys_len : ∀ (bk : List (Nat × List (List Nat))) (j : Nat), (My.pieceKeys bk j).length ≤ My.keysN bk
  | [], j => by simp [My.pieceKeys, My.keysN]
  | x :: r, j => by
    have ih := pieceKeys_len r j
    have e1 : My.pieceKeys (x :: r) j = (if x.1 / 2048 = j then x.2 else []) ++ My.pieceKeys r j := by simp [My.pieceKeys]
    have e2 : My.keysN (x :: r) = x.2.length + My.keysN r := by simp [My.keysN]
    rw [e1, e2, List.length_append]
    split
    · omega
    · simp only [List.length_nil]
      omega
theorem keysN_take (bk : List (Nat × List (List Nat))) (i : Nat) : My.keysN (bk.take i) ≤ My.keysN bk := by
  have h : My.keysN bk = My.keysN (bk.take i) + My.keysN (bk.drop i) := by
    conv => lhs; rw [← List.take_append_drop i bk]
    unfold My.keysN
    rw [List.map_append, List.sum_append]
  omega
theorem range_get {α : Type} {n j : Nat} (f : Nat → α) (h : j < n) : ((List.range n).map f)[j]? = some (f j) := by
  rw [List.getElem?_map, List.getElem?_range h]
  rfl
structure PcSt (lP : Addr) (H H2 : Hp) (prs : List Addr) (kss : List (List Nat)) : Prop where
  s : Same H H2
  hp : H2 lP = some (.lst (prs.map V.ref))
  nd : prs.Nodup
  np : lP ∉ prs
  new : ∀ r ∈ prs, H r = none
  at_ : KeysAt H2 prs kss
theorem PcSt.same {lP : Addr} {H H2 H3 : Hp} {prs : List Addr} {kss : List (List Nat)} (h : PcSt lP H H2 prs kss) (s : Same H2 H3) : PcSt lP H H3 prs kss :=
  ⟨h.s.trans s, s _ _ h.hp, h.nd, h.np, h.new, h.at_.same s⟩
theorem KeysAt.isS {H : Hp} {rs : List Addr} {ks : List (List Nat)} (h : KeysAt H rs ks) {r : Addr} (hr : r ∈ rs) : ∃ x, H r = some (.lst (vb x)) := by
  obtain ⟨i, hi, e⟩ := List.mem_iff_getElem.mp hr
  have hi2 : i < ks.length := by rw [← h.1]; exact hi
  exact ⟨ks[i], h.2 i r ks[i] (by rw [List.getElem?_eq_getElem hi, e]) (List.getElem?_eq_getElem hi2)⟩
theorem PcSt.more {lP p : Addr} {H H2 : Hp} {prs : List Addr} {kss : List (List Nat)} (h : PcSt lP H H2 prs kss) (hl : H lP = none) (hp : H2 p = none) : PcSt lP H (upd (upd H2 p (.lst [])) lP (.lst (prs.map V.ref ++ [.ref p]))) (prs ++ [p]) (kss ++ [[]]) := by
  have npl : lP ≠ p := ne_of_none h.hp hp
  have npp : p ∉ prs := fun z => by
    obtain ⟨x, e⟩ := h.at_.isS z
    rw [hp] at e
    cases e
  have s1 : Same H2 (upd H2 p (.lst [])) := Same.new (Same.refl _) hp
  refine ⟨Same.upd (h.s.trans s1) hl, by rw [upd_same, List.map_append]; rfl, ?_, ?_, ?_, ?_⟩
  · rw [List.nodup_append]
    refine ⟨h.nd, by simp, fun a ha b hb z => ?_⟩
    have : b = p := by simpa using hb
    rw [z, this] at ha
    exact npp ha
  · intro z
    rcases List.mem_append.mp z with q | q
    · exact h.np q
    · exact npl (by simpa using q)
  · intro r hr
    rcases List.mem_append.mp hr with q | q
    · exact h.new r q
    · have : r = p := by simpa using q
      rw [this]
      exact h.s.free hp
  · refine KeysAt.snoc (x := []) ⟨h.at_.1, fun i r k h1 h2 => ?_⟩ ?_
    · have hr : r ∈ prs := List.mem_of_getElem? h1
      have nr : r ≠ lP := fun z => h.np (z ▸ hr)
      rw [upd_ne nr]
      exact s1 _ _ (h.at_.2 i r k h1 h2)
    · rw [upd_ne npl.symm]
      exact upd_same
def sp_F_pieces (C : Addr) : Sp := fun vs H Q _ => ∃ (F : FF) (G : Hp) (bits : Nat) (f : FS) (bk : List (Nat × List (List Nat))) (e N : Nat), vs = [.ref F.p, .int (e : Int)] ∧ FAt C G H F bits f ∧ f.done = allK bk ∧ f.bl = blOf 0 bk ∧
  N = e / 2048 + (if (bk.map fun x => x.1) ≠ [] ∧ (bk.map fun x => x.1).getLastD 0 / 2048 = e / 2048 then 1 else 0) ∧ (∀ x ∈ bk, x.1 / 2048 < N) ∧ e ≤ 15000000 ∧ My.keysN bk ≤ 1000000 ∧
  ∀ (lP : Addr) (prs : List Addr) (H' : Hp), Same H H' → H lP = none → H' lP = some (.lst (prs.map V.ref)) → (∀ r ∈ prs, H r = none) → KeysAt H' prs ((List.range N).map fun j => (My.pieceKeys bk j).map Sv13.hash) → Q (.ref lP) H'
theorem sc_FilterWriter_hashes_by_piece : FnScope ["self", "end", "pieces", "stretch", "first", "begin", "behind"] ["self", "end"] (defScope s_FilterWriter_hashes_by_piece) := ⟨rfl, rfl, rfl, by decide +kernel, rfl, by decide +kernel, by decide +kernel⟩
theorem blk_pieces : BlkOk ["self", "end", "pieces", "stretch", "first", "begin", "behind"] (defScope s_FilterWriter_hashes_by_piece) { kind := .function, names := [(".0", .local), ("stretch", .local)], isGenerator := false, isCoroutine := false } [("stretch", 3)] := blkOk_by (by decide +kernel)
theorem mx_F_pieces {C : Addr} (D : MethAt K C "hashes_by_piece" "FilterWriter.hashes_by_piece" s_FilterWriter_hashes_by_piece) (T : FilterWriterCls K C) (Cs : Consts K mg) : Mtx P w K mg base C "hashes_by_piece" 1 ["self", "end"] (sp_F_pieces C) := by
  refine D.mx T.cl sc_FilterWriter_hashes_by_piece (fun _ _ _ _ _ _ us hl => by obtain ⟨_, _, rfl⟩ := ln2 hl; rfl) (fun vs H Q E h => ?_) (fun f cdv A outer s H vs Q E hr h => ?_)
  · obtain ⟨F, G, bits, f, bk, e, N, rfl, _⟩ := h
    rfl
  · obtain ⟨F, G, bits, f, bk, e, N, rfl, W, hdone, hblk, hN, hlt, he, hkn, q⟩ := h
    refine ⟨_, (pss_cons (ps_setLc (i := 2) (own := [("stretch", 3)]) rfl sc_FilterWriter_hashes_by_piece.nd rfl rfl (sw_true rfl rfl rfl rfl) (pi_range1 rfl Cs.nrange (pa_cons (pe_op op_fdiv (pv 1) (pe_gint rfl Cs.STRETCH)) pa_nil)) blk_pieces (fun _ _ _ _ _ => pg_name (i := 3) sc_FilterWriter_hashes_by_piece.nd rfl (Or.inl rfl)) (fun _ _ _ _ _ => pts_nil) (fun _ _ _ _ _ => pe_lst pa_nil))
      (pss_cons (ps_if (PW.pt (pw_and (pt_cmpR (op_neE hr.units0) (pe_fld (pv 0) rfl) (pe_lst pa_nil) (nomark _)) (pw_and1 (pt_cmpR op_eq (pe_op op_fdiv (pe_ix ix_tup (pe_ix ix_list (pe_fld (pv 0) rfl) (pe_un un_neg pe_int) (fun _ _ => rfl)) pe_int (fun _ _ => rfl)) (pe_gint rfl Cs.STRETCH)) (pe_callB call_len_seq rfl Cs.nlen PySem.boot_len (pa_cons (pv 2) pa_nil)) (nomark _))))) (pss_one (ps_expr (pe_bm PySem.F.plainAttrs_list PySem.F.slot_list_append PySem.F.type_list_append mt_append (pv 2) (pa_cons (pe_lst pa_nil) pa_nil)))) pss_nil)
      (pss_cons (ps_set (i := 4) sc_FilterWriter_hashes_by_piece.nd rfl (Or.inl rfl) pe_int)
      (pss_cons (ps_for PassesOwn.never rfl (pi_list (pe_fld (pv 0) rfl)) (pg_tup rfl (pgs_cons (pg_name (i := 5) sc_FilterWriter_hashes_by_piece.nd rfl (Or.inl rfl)) (pgs_cons (pg_name (i := 6) sc_FilterWriter_hashes_by_piece.nd rfl (Or.inl rfl)) pgs_nil))) (pss_cons (ps_expr (pe_bm PySem.F.plainAttrs_list PySem.F.slot_list_extend PySem.F.type_list_extend mt_extend (pe_ix ix_list (pv 2) (pe_op op_fdiv (pv 5) (pe_gint rfl Cs.STRETCH)) (fun _ _ => rfl)) (pa_cons (pe_slice sl_list (pe_fld (pv 0) rfl) (po_some (pv 4)) (po_some (pv 6))) pa_nil)))
      (pss_one (ps_set (i := 4) sc_FilterWriter_hashes_by_piece.nd rfl (Or.inl rfl) (pv 6)))))
      (pss_one (ps_ret (pv 2))))))), ?_⟩
    try dsimp only [cxOf]
    have ee : (e : Int) / 2048 = ((e / 2048 : Nat) : Int) := by omega
    have htb := W.tb
    rw [hblk] at htb
    have htl : F.ts.length = bk.length := by rw [htb.1, blOf_length]
    refine ⟨_, rfl, _, _, rfl, rfl, ⟨by decide, by decide⟩, ((e / 2048 : Nat) : Int), ?_, by omega, by omega, fun lP hlP => ?_⟩
    · show [V.int ((e : Int) / 2048)] = _
      rw [ee]
    refine lc_range (n := (((e / 2048 : Nat) : Int)).toNat) (fun i H2 => ∃ prs : List Addr, PcSt lP H H2 prs (List.replicate i [])) ⟨[], Same.new (Same.refl H) hlP, upd_same, List.nodup_nil, (fun h => nomatch h), (fun r h => nomatch h), KeysAt.nil⟩ ?_ ?_
    · rintro i H2 hi ⟨prs, S⟩
      rw [Int.toNat_natCast] at hi
      refine ⟨rfl, Nat.zero_le _, fun p hp => ?_⟩
      have npl : lP ≠ p := ne_of_none S.hp hp
      refine ⟨prs.map V.ref, by rw [upd_ne npl]; exact S.hp, lt_size (by rw [List.length_map, S.at_.1, List.length_replicate]; omega), prs ++ [p], ?_⟩
      have := S.more hlP hp
      rw [← List.replicate_succ'] at this
      exact this
    · rintro H2 ⟨prs, S⟩
      rw [Int.toNat_natCast] at S
      refine gname_nx ?_
      dsimp only
      refine seq_cut (t := tIfS _ _ _) (fun σ' H' => (∃ prs : List Addr, PcSt lP H H' prs (List.replicate N [])) ∧ ∃ v, σ' = [some (.ref F.p), some (.int (e : Int)), some (.ref lP), v, none, none, none]) ?_ fun rest => ?_
      · rintro σ' H3 ⟨⟨prs, S3⟩, v3, rfl⟩
        have W3 := W.same S3.s
        refine ⟨_, rfl, rfd W3.ob T.cl T.nK fsF_blocks ⟨F.lb, rfl, ⟨_, SqL.of W3.hb⟩, for_list (K := K) (a := F.lb) (xs := F.ts.map V.ref) (fun i σ H4 => ∃ (v u : Option V), PcSt lP H H4 prs ((List.range N).map fun j => (My.pieceKeys (bk.take i) j).map Sv13.hash) ∧ σ = [some (.ref F.p), some (.int (e : Int)), some (.ref lP), v3, some (.int (((allK (bk.take i)).length : Nat) : Int)), v, u])
          ⟨none, none, ?_, rfl⟩ (fun i σ H4 _ ⟨v, u, S4, _⟩ => SqL.of (S4.s _ _ W.hb)) ?_ ?_⟩⟩
        · have e0 : ((List.range N).map fun j => (My.pieceKeys (bk.take 0) j).map Sv13.hash) = List.replicate N [] := by
            rw [List.take_zero]
            refine List.eq_replicate_iff.mpr ⟨by rw [List.length_map, List.length_range], fun x hx => ?_⟩
            obtain ⟨j, _, rfl⟩ := List.mem_map.mp hx
            rfl
          rw [e0]
          exact S3
        · rintro i x σ H4 hx ⟨v, u, S4, rfl⟩
          obtain ⟨t, ht, rfl⟩ := ref_get hx
          have hi : i < bk.length := by rw [← htl]; exact (List.getElem?_eq_some_iff.mp ht).1
          have hbi : bk[i]? = some bk[i] := List.getElem?_eq_getElem hi
          have hj : bk[i].1 / 2048 < N := hlt _ (List.getElem_mem _)
          generalize bk[i] = x at hbi hj
          have gt := htb.2 i t _ ht (blOf_get bk 0 i x hbi)
          have ht4 := S4.s _ _ (W.sg _ _ gt)
          have hjl : x.1 / 2048 < prs.length := by rw [S4.at_.1, List.length_map, List.length_range]; exact hj
          obtain ⟨r0, hr0⟩ : ∃ r0, prs[x.1 / 2048]? = some r0 := ⟨prs[x.1 / 2048], List.getElem?_eq_getElem hjl⟩
          have c1 := S4.at_.2 _ r0 _ hr0 (range_get _ hj)
          have htk : bk.take (i + 1) = bk.take i ++ [x] := by rw [List.take_succ, hbi]; rfl
          have hlen1 : (My.pieceKeys (bk.take i) (x.1 / 2048)).length + x.2.length ≤ 1000000 := by
            have h1 := pieceKeys_len (bk.take (i + 1)) (x.1 / 2048)
            have h2 := keysN_take bk (i + 1)
            rw [htk, My.pieceKeys_snoc, if_pos rfl, List.length_append, ← htk] at h1
            omega
          have hfb : (allK (bk.take i)).length + x.2.length = (allK (bk.take (i + 1))).length := by rw [allK_take bk i x hbi, List.length_append]
          refine ⟨t, _, rfl, .inl (.inl ht4), rfl, _, _, rfl, _, _, rfl, rfl, ?_⟩
          have hr0m : r0 ∈ prs := List.mem_of_getElem? hr0
          have W4 := W.same S4.s
          refine ⟨_, rfl, _, rfl, _, _, rfl, rfl, ⟨by decide, by decide⟩, lP, _, _, V.ref r0, rfl, rfl, SqL.of S4.hp, at_of (j := x.1 / 2048) (v := V.ref r0) (by omega) (by rw [List.getElem?_map, hr0]; rfl), .inl ⟨rfl, _, SqL.of c1⟩, _, rfl, rfd W4.ob T.cl T.nH fsF_hashes ⟨_, rfl, _, rfl, _, rfl, _, rfl, F.lh, _, rfl, SqL.of W4.hh, fun lq hq => ?_⟩⟩
          have hcut : cutV (vb (f.done.map Sv13.hash)) (some (((allK (bk.take i)).length : Nat) : Int)) (some ((0 + (allK (bk.take i)).length + x.2.length : Nat) : Int)) = vb (x.2.map Sv13.hash) := by
            rw [cut_any (by omega), hdone, ← vb_drop, ← vb_take, ← List.map_drop, ← List.map_take, show 0 + (allK (bk.take i)).length + x.2.length - (allK (bk.take i)).length = x.2.length by omega, allK_cut bk i x hbi]
          rw [hcut]
          have s5 : Same H4 (upd H4 lq (.lst (vb (x.2.map Sv13.hash)))) := Same.new (Same.refl _) hq
          have S5 := S4.same s5
          have nq0 : r0 ≠ lq := ne_of_none c1 hq
          refine ⟨r0, lq, _, _, rfl, rfl, s5 _ _ c1, upd_same, le_size (by rw [vb_length, vb_length, List.length_map, List.length_map]; omega), ?_⟩
          rw [← vb_append, ← List.map_append]
          have nlP : lP ≠ r0 := fun e' => S5.np (e' ▸ hr0m)
          refine ⟨_, rfl, some (.int (x.1 : Int)), some (.int ((0 + (allK (bk.take i)).length + x.2.length : Nat) : Int)), ⟨Same.upd S5.s (S5.new r0 hr0m), by rw [upd_ne nlP]; exact S5.hp, S5.nd, S5.np, S5.new, ?_⟩, ?_⟩
          · refine ⟨by rw [S5.at_.1, List.length_map, List.length_map], fun j r kz h1 h2 => ?_⟩
            have hjN : j < N := by
              have := (List.getElem?_eq_some_iff.mp h2).1
              rw [List.length_map, List.length_range] at this
              exact this
            rw [range_get _ hjN, htk, My.pieceKeys_snoc] at h2
            have ekz := (Option.some.inj h2).symm
            by_cases hjj : x.1 / 2048 = j
            · subst hjj
              rw [hr0] at h1
              cases h1
              rw [upd_same, ekz, if_pos rfl]
            · have d1 := S5.at_.2 j r _ h1 (range_get _ hjN)
              have nrr : r ≠ r0 := fun e' => hjj (nd_ix S5.nd hr0 (e' ▸ h1))
              rw [upd_ne nrr, ekz, if_neg hjj, List.append_nil]
              exact d1
          · show [some (V.ref F.p), some (V.int (e : Int)), some (V.ref lP), v3, some (V.int ((0 + (allK (bk.take i)).length + x.2.length : Nat) : Int)), some (V.int (x.1 : Int)), some (V.int ((0 + (allK (bk.take i)).length + x.2.length : Nat) : Int))] = _
            rw [← hfb, Nat.zero_add]
        · rintro σ H4 ⟨v, u, S4, rfl⟩
          rw [List.length_map, htl, List.take_length] at S4
          exact ⟨_, rfl, q lP prs H4 S4.s hlP S4.hp S4.new S4.at_⟩
      · have hprl : prs.length = e / 2048 := by rw [S.at_.1, List.length_replicate]
        have W2 := W.same S.s
        refine ⟨_, rfl, rfd W2.ob T.cl T.nK fsF_blocks ⟨Nat.zero_le _, fun l0 hl0 => ?_⟩⟩
        have s0 : Same H2 (upd H2 l0 (.lst [])) := Same.new (Same.refl _) hl0
        have S1 := S.same s0
        have W1 := W.same S1.s
        refine ⟨F.lb, l0, _, rfl, rfl, SqL.of W1.hb, SqL.of upd_same, _, rfl, ?_⟩
        by_cases hbe : bk = []
        · have c0 : (if true = true then !(F.ts.map V.ref).isEmpty else (F.ts.map V.ref).isEmpty) = false := by
            have : F.ts = [] := List.length_eq_zero_iff.mp (by rw [htl, hbe]; rfl)
            rw [this]
            rfl
          rw [c0]
          refine iteF (iteF ?_)
          refine rest _ _ ⟨⟨prs, ?_⟩, _, rfl⟩
          rw [hN, if_neg (fun h => h.1 (by rw [hbe]; rfl)), Nat.add_zero]
          exact S1
        · have hbl : 0 < bk.length := by
            cases bk with
            | nil => exact absurd rfl hbe
            | cons => simp
          have c0 : (if true = true then !(F.ts.map V.ref).isEmpty else (F.ts.map V.ref).isEmpty) = true := by
            cases hts : F.ts with
            | nil => rw [hts] at htl; simp at htl; omega
            | cons => rfl
          rw [c0]
          have hz : bk[bk.length - 1]? = some bk[bk.length - 1] := List.getElem?_eq_getElem (by omega)
          have htz : F.ts[bk.length - 1]? = some F.ts[bk.length - 1] := List.getElem?_eq_getElem (by omega)
          have hlast : (bk.map fun x => x.1).getLastD 0 = bk[bk.length - 1].1 := by
            rw [List.getLastD_eq_getLast?, List.getLast?_map, List.getLast?_eq_getElem?, hz]
            rfl
          have hne : (bk.map fun x => x.1) ≠ [] := by
            intro z
            rw [List.map_eq_nil_iff] at z
            exact hbe z
          rw [hlast] at hN
          have hmem : bk[bk.length - 1].1 / 2048 < N := hlt _ (List.getElem_mem _)
          generalize bk[bk.length - 1] = x at hz hN hmem
          generalize htt : F.ts[bk.length - 1] = t at htz
          have gt := htb.2 _ t _ htz (blOf_get bk 0 _ x hz)
          have hlt2 : (F.ts.map V.ref).getLast? = some (V.ref t) := by
            rw [List.getLast?_map, List.getLast?_eq_getElem?, htl, htz]
            rfl
          refine iteT ⟨_, rfl, rfd W1.ob T.cl T.nK fsF_blocks ⟨_, rfl, F.lb, _, _, V.ref t, rfl, rfl, SqL.of W1.hb, atI_last hlt2, t, _, _, V.int (x.1 : Int), rfl, rfl, SqT.of (W1.sg _ _ gt), rfl, _, _, rfl, rfl, ⟨by decide, by decide⟩, _, rfl, lP, _, rfl, .inl (SqL.of S1.hp), rfl, _, rfl, ?_⟩⟩
          by_cases hd : x.1 / 2048 = e / 2048
          · have c1 : decide (V.int ((x.1 : Int) / 2048) = V.int (((prs.map V.ref).length : Nat) : Int)) = true := decide_eq_true (by
              rw [List.length_map, hprl]
              congr 1
              omega)
            rw [c1]
            refine iteT ⟨_, rfl, .inl ⟨rfl, _, SqL.of S1.hp⟩, Nat.zero_le _, fun p hp => ?_⟩
            have npl : lP ≠ p := ne_of_none S1.hp hp
            refine ⟨lP, _, _, rfl, rfl, (by rw [upd_ne npl]; exact S1.hp), lt_size (by rw [List.length_map, hprl]; omega), ?_⟩
            refine rest _ _ ⟨⟨prs ++ [p], ?_⟩, _, rfl⟩
            have := S1.more hlP hp
            rw [← List.replicate_succ'] at this
            rw [hN, if_pos ⟨hne, hd⟩]
            exact this
          · have c1 : decide (V.int ((x.1 : Int) / 2048) = V.int (((prs.map V.ref).length : Nat) : Int)) = false := decide_eq_false (by
              rw [List.length_map, hprl]
              intro z
              injection z with z
              exact hd (by omega))
            rw [c1]
            refine iteF ?_
            refine rest _ _ ⟨⟨prs, ?_⟩, _, rfl⟩
            rw [hN, if_neg (fun h => hd h.2), Nat.add_zero]
            exact S1
end
end KL
set_option Elab.async false
set_option linter.all false
set_option maxRecDepth 100000
namespace KL
open PySem PySem.W PyProof.Rows L2
section
variable {P : Program} {w : World} {K : Frag} {mg : Str → Option Value} {base : Heap}
theorem pieceKeys_mem {bk : List (Nat × List (List Nat))} {j : Nat} {k : List Nat} (h : k ∈ My.pieceKeys bk j) : ∃ x ∈ bk, k ∈ x.2 := by
  unfold My.pieceKeys at h
  obtain ⟨x, hx, hk⟩ := List.mem_flatMap.mp h
  refine ⟨x, hx, ?_⟩
  split at hk
  · exact hk
  · cases hk
def FEnd (C : Addr) (H : Hp) (F : FF) (c : List Nat) (Q : VK) : Prop := ∀ (l : Addr) (H' : Hp), H l = none → H' l = some (.lst (vb c)) → KB F.foot H H' → Gr H H' → Q (.ref l) H'
def sp_F_content (C : Addr) : Sp := fun vs H Q _ => ∃ (F : FF) (G : Hp) (bits : Nat) (f : FS) (bk : List (Nat × List (List Nat))) (e N : Nat), vs = [.ref F.p, .int (e : Int)] ∧ FAt C G H F bits f ∧ KeysOk f.un ∧ f.done ++ f.un = allK bk ∧ f.bl = blOf 0 bk ∧
  N = e / 2048 + (if (bk.map fun x => x.1) ≠ [] ∧ (bk.map fun x => x.1).getLastD 0 / 2048 = e / 2048 then 1 else 0) ∧ (∀ x ∈ bk, x.1 / 2048 < N) ∧ e ≤ 15000000 ∧ My.keysN bk ≤ 1000000 ∧ bits ≤ 20 ∧ (∀ x ∈ bk, ∀ k ∈ x.2, isByte k) ∧
  FEnd C H F (My.filterOf bits bk N) Q
theorem sc_FilterWriter_content : FnScope ["self", "end", "content", "places", "hashes", "places_begin", "place"] ["self", "end"] (defScope s_FilterWriter_content) := ⟨rfl, rfl, rfl, by decide +kernel, rfl, by decide +kernel, by decide +kernel⟩
theorem mx_F_content {C : Addr} (D : MethAt K C "content" "FilterWriter.content" s_FilterWriter_content) (T : FilterWriterCls K C) (Cs : Consts K mg) (M_hash_keys : Mtx P w K mg base C "hash_keys" 4 ["self"] (sp_F_hash C)) (M_hashes_by_piece : Mtx P w K mg base C "hashes_by_piece" 1 ["self", "end"] (sp_F_pieces C))
    (F_piece_of : Fx P w K mg base "piece_of" 2 ["hashes", "bits"] (sp_piece_of K)) (F_fixed : Fx P w K mg base "fixed" 1 ["number", "width"] sp_fixed) : Mtx P w K mg base C "content" 5 ["self", "end"] (sp_F_content C) := by
  refine D.mx T.cl sc_FilterWriter_content (fun _ _ _ _ _ _ us hl => by obtain ⟨_, _, rfl⟩ := ln2 hl; rfl) (fun vs H Q E h => ?_) (fun f cdv A outer s H vs Q E hr h => ?_)
  · obtain ⟨F, G, bits, f, bk, e, N, rfl, _⟩ := h
    rfl
  · obtain ⟨F0, G, bits, f0, bk, e, N, rfl, W0, ok, hdone, hblk, hN, hlt, he, hkn, hbits, hby, q⟩ := h
    refine ⟨_, (pss_cons (ps_expr (pe_mt0 (pv 0) M_hash_keys (hr.mono (by decide)) ))
      (pss_cons (ps_set (i := 2) sc_FilterWriter_content.nd rfl (Or.inl rfl) (pe_lst pa_nil))
      (pss_cons (ps_set (i := 3) sc_FilterWriter_content.nd rfl (Or.inl rfl) (pe_lst pa_nil))
      (pss_cons (ps_for PassesOwn.never rfl (pi_list (pe_mt (pv 0) M_hashes_by_piece (hr.mono (by decide)) (pa_cons (pv 1) pa_nil))) (pg_name (i := 4) sc_FilterWriter_content.nd rfl (Or.inl rfl)) (pss_cons (ps_expr (pe_bm PySem.F.plainAttrs_list PySem.F.slot_list_append PySem.F.type_list_append mt_append (pv 3) (pa_cons (pe_callB call_len_seq rfl Cs.nlen PySem.boot_len (pa_cons (pv 2) pa_nil)) pa_nil)))
      (pss_one (ps_expr (pe_bm PySem.F.plainAttrs_list PySem.F.slot_list_extend PySem.F.type_list_extend mt_extend (pv 2) (pa_cons (pe_fx F_piece_of (hr.mono (by decide)) rfl (pa_cons (pv 4) (pa_cons (pe_fld (pv 0) rfl) pa_nil))) pa_nil))))))
      (pss_cons (ps_set (i := 5) sc_FilterWriter_content.nd rfl (Or.inl rfl) (pe_callB call_len_seq rfl Cs.nlen PySem.boot_len (pa_cons (pv 2) pa_nil)))
      (pss_cons (ps_for PassesOwn.never rfl (pi_list (pe_op op_cat (pv 3) (pe_lst (pa_cons (pv 5) pa_nil)))) (pg_name (i := 6) sc_FilterWriter_content.nd rfl (Or.inl rfl)) (pss_one (ps_expr (pe_bm PySem.F.plainAttrs_list PySem.F.slot_list_extend PySem.F.type_list_extend mt_extend (pv 2) (pa_cons (pe_fx F_fixed (hr.mono (by decide)) rfl (pa_cons (pv 6) (pa_cons (pe_gint rfl Cs.PLACE_WIDTH) pa_nil))) pa_nil)))))
      (pss_cons (ps_expr (pe_bm PySem.F.plainAttrs_list PySem.F.slot_list_append PySem.F.type_list_append mt_append (pv 2) (pa_cons (pe_gint rfl Cs.STRETCH_BITS) pa_nil)))
      (pss_one (ps_ret (pv 2)))))))))), ?_⟩
    try dsimp only [cxOf]
    have hdl : f0.done.length ≤ 1000000 := by
      have h1 := allK_len bk
      rw [← hdone, List.length_append] at h1
      omega
    refine ⟨_, rfl, rmt W0.ob fsF_hash ⟨F0, G, bits, f0, rfl, W0, ok, hdl, fun F H1 hp0 W hf1 k1 g1 => ?_⟩⟩
    have hNle : N ≤ e / 2048 + 1 := by rw [hN]; split <;> omega
    have hres : ∀ i, i ≤ N → (My.res bits bk i).length ≤ 4000000 := fun i hi => by
      have := My.res_bound hbits bk i
      omega
    refine ⟨Nat.zero_le _, fun lc hlc => ?_⟩
    refine ⟨Nat.zero_le _, fun lp hlp => ?_⟩
    have ncp : lc ≠ lp := ne_of_none upd_same hlp
    have sc : Same H1 (upd (upd H1 lc (.lst [])) lp (.lst [])) := (Same.new (Same.refl H1) hlc).trans (Same.new (Same.refl _) hlp)
    have hlp1 : H1 lp = none := by rw [upd_ne ncp.symm] at hlp; exact hlp
    have hc2 : (upd (upd H1 lc (.lst [])) lp (.lst [])) lc = some (.lst []) := by rw [upd_ne ncp]; exact upd_same
    have hp2 : (upd (upd H1 lc (.lst [])) lp (.lst [])) lp = some (.lst []) := upd_same
    have W2 := W.same sc
    have g2 : Gr H (upd (upd H1 lc (.lst [])) lp (.lst [])) := Gr.upd (Gr.upd g1)
    generalize upd (upd H1 lc (.lst [])) lp (.lst []) = H2 at sc hc2 hp2 W2 g2
    have hob2 : H2 F0.p = some (.ins C F.dx (fsF bits F.lu F.lh F.lb)) := by rw [← hp0]; exact W2.ob
    refine ⟨_, rfl, rmt hob2 fsF_pieces ⟨_, rfl, F, G, bits, f0.hash, bk, e, N, by rw [hp0]; rfl, W2, hdone, hblk, hN, hlt, he, hkn, fun lP prs H3 s3 hlP hP3 hnew hprs => ?_⟩⟩
    have hc3 := s3 _ _ hc2
    have hp3 := s3 _ _ hp2
    have hob3 := s3 _ _ hob2
    have nPc : lP ≠ lc := (ne_of_none hc2 hlP).symm
    have nPp : lP ≠ lp := (ne_of_none hp2 hlP).symm
    have n0c : F0.p ≠ lc := ne_of hob2 hc2 (by intro z; cases z)
    have n0p : F0.p ≠ lp := ne_of hob2 hp2 (by intro z; cases z)
    have hprl : (prs.map V.ref).length = N := by rw [List.length_map, hprs.1, List.length_map, List.length_range]
    have kk : ∀ {H4 : Hp} {z : Addr} {o : HO}, KB [lc, lp] H3 H4 → z ≠ lc → z ≠ lp → H3 z = some o → H4 z = some o := fun k n1 n2 h => k _ _ h (by simp [n1, n2])
    have gg : ∀ {H4 : Hp}, KB [lc, lp] H3 H4 → H4 lc ≠ none → H4 lp ≠ none → Gr H H4 := fun k a b => g2.trans ((Gr.of s3).trans (gr_kb k fun x hx => by
      have hx : x = lc ∨ x = lp := by simpa using hx
      rcases hx with rfl | rfl
      · exact a
      · exact b))
    refine ⟨lP, rfl, ⟨_, SqL.of hP3⟩, for_list (K := K) (a := lP) (xs := prs.map V.ref) (fun i σ H4 => KB [lc, lp] H3 H4 ∧ H4 lc = some (.lst (vb (My.res bits bk i))) ∧ H4 lp = some (.lst (vb (My.offs bits bk i))) ∧ ∃ v, σ = [some (.ref F0.p), some (.int (e : Int)), some (.ref lc), some (.ref lp), v, none, none])
      ⟨KB.refl _ _, hc3, hp3, none, rfl⟩ (fun i σ H4 _ ⟨hs, _⟩ => SqL.of (kk hs nPc nPp hP3)) ?_ ?_⟩
    · rintro i x σ H4 hx ⟨hs, h2, h3, v, rfl⟩
      obtain ⟨r, hr9, rfl⟩ := ref_get hx
      have hi : i < N := by
        have := (List.getElem?_eq_some_iff.mp hx).1
        rw [hprl] at this
        exact this
      have c := hprs.2 i r _ hr9 (range_get _ hi)
      have hn := hnew r (List.mem_of_getElem? hr9)
      have nrc : r ≠ lc := (ne_of_none hc2 hn).symm
      have nrp : r ≠ lp := (ne_of_none hp2 hn).symm
      have hl1 := hres i (Nat.le_of_lt hi)
      have hl2 := hres (i + 1) hi
      rw [My.res_succ, List.length_append] at hl2
      refine ⟨_, rfl, .inl ⟨rfl, _, SqL.of h3⟩, _, rfl, lc, _, rfl, .inl (SqL.of h2), lp, _, _, rfl, rfl, h3, lt_size (by rw [vb_length, My.offs_length]; omega), ?_⟩
      have h2' : (upd H4 lp (.lst (vb (My.offs bits bk i) ++ [.int (((vb (My.res bits bk i)).length : Nat) : Int)]))) lc = some (.lst (vb (My.res bits bk i))) := by rw [upd_ne ncp]; exact h2
      have hs' : KB [lc, lp] H3 (upd H4 lp (.lst (vb (My.offs bits bk i) ++ [.int (((vb (My.res bits bk i)).length : Nat) : Int)]))) := KB.upd hs (by simp)
      refine ⟨_, rfl, .inl ⟨rfl, _, SqL.of h2'⟩, _, rfl, _, rfl, rfd (kk hs' n0c n0p hob3) T.cl T.nB fsF_bits ⟨r, My.pieceKeys bk i, bits, rfl, SqL.of (kk hs' nrc nrp c), fun k hk9 => ?_, ?_, hbits, fun l4 H5 s5 hl4 h5 => ?_⟩⟩
      · obtain ⟨z, hz, hkz⟩ := pieceKeys_mem hk9
        exact hby z hz k hkz
      · have := pieceKeys_len bk i
        omega
      · refine ⟨lc, l4, _, _, rfl, rfl, s5 _ _ h2', h5, le_size (by rw [vb_length, vb_length]; omega), ?_⟩
        refine ⟨KB.upd (hs'.trans (KB.of s5)) (by simp), ?_, ?_, _, rfl⟩
        · rw [upd_same, My.res_succ, vb_append]
        · rw [upd_ne ncp.symm]
          refine s5 _ _ ?_
          rw [upd_same, My.offs_succ]
          exact vb_snoc _ (by rw [vb_length])
    · rintro σ H4 ⟨hs, h2, h3, v, rfl⟩
      rw [hprl] at h2 h3
      have hl1 := hres N (Nat.le_refl _)
      refine ⟨_, rfl, lc, _, rfl, .inl (SqL.of h2), ?_⟩
      refine ⟨_, rfl, _, rfl, (by show 1 ≤ sizeLine; decide), fun l1 hl1' => ?_⟩
      have s5 : Same H4 (upd H4 l1 (.lst [.int (((vb (My.res bits bk N)).length : Nat) : Int)])) := Same.new (Same.refl _) hl1'
      refine ⟨lp, l1, _, _, rfl, rfl, s5 _ _ h3, upd_same, le_size (by rw [vb_length, My.offs_length]; simp only [List.length_cons, List.length_nil]; omega), fun lq hlq => ?_⟩
      have ncq : lc ≠ lq := ne_of_none (s5 _ _ h2) hlq
      generalize hall : My.offs bits bk N ++ [(My.res bits bk N).length] = all
      have e6 : vb (My.offs bits bk N) ++ [V.int (((vb (My.res bits bk N)).length : Nat) : Int)] = vb all := by
        rw [← hall, vb_append, vb_length]
        rfl
      rw [e6]
      have s6 := s5.trans (Same.new (o := .lst (vb all)) (Same.refl _) hlq)
      have hallen : all.length = N + 1 := by rw [← hall, List.length_append, My.offs_length]; rfl
      refine ⟨lq, rfl, ⟨_, SqL.of upd_same⟩, for_list (K := K) (a := lq) (xs := vb all) (fun i σ H5 => KB [lc, lp] H3 H5 ∧ H5 lp ≠ none ∧ H5 lq = some (.lst (vb all)) ∧ H5 lc = some (.lst (vb (My.res bits bk N ++ (all.take i).flatMap (Sv13.little 4)))) ∧ ∃ v9, σ = [some (.ref F0.p), some (.int (e : Int)), some (.ref lc), some (.ref lp), v, some (.int (((vb (My.res bits bk N)).length : Nat) : Int)), v9])
        ⟨hs.trans (KB.of s6), (by rw [s6 _ _ h3]; simp), upd_same, ?_, none, rfl⟩ (fun i σ H5 _ ⟨_, _, h6, _⟩ => SqL.of h6) ?_ ?_⟩
      · rw [List.take_zero, List.flatMap_nil, List.append_nil]
        exact s6 _ _ h2
      · rintro i x σ H5 hx ⟨hs3, hpn, h6, h7, v9, rfl⟩
        obtain ⟨m, hm, rfl⟩ := vb_get hx
        have hi : i < all.length := (List.getElem?_eq_some_iff.mp hm).1
        refine ⟨_, rfl, .inl ⟨rfl, _, SqL.of h7⟩, _, rfl, m, 4, rfl, by decide, fun l2 H6 s4 hn h4 => ?_⟩
        refine ⟨lc, l2, _, _, rfl, rfl, s4 _ _ h7, h4, le_size ?_, ?_⟩
        · rw [vb_length, vb_length, My.little_length, List.length_append, flat_len, List.length_take]
          omega
        · refine ⟨KB.upd (hs3.trans (KB.of s4)) (by simp), ?_, by rw [upd_ne ncq.symm]; exact s4 _ _ h6, ?_, _, rfl⟩
          · rw [upd_ne ncp.symm]
            exact fun z => hpn (s4.free z)
          · rw [upd_same, ← vb_append, List.take_succ, hm, List.append_assoc, ← flat_snoc]
            rfl
      · rintro σ H5 ⟨hs3, hpn, h6, h7, v9, rfl⟩
        rw [vb_length, List.take_length] at h7
        refine ⟨_, rfl, .inl ⟨rfl, _, SqL.of h7⟩, lc, _, _, rfl, rfl, h7, lt_size ?_, _, rfl, ?_⟩
        · rw [vb_length, List.length_append, flat_len]
          omega
        · have hcH : H lc = none := g1 _ hlc
          have hpH : H lp = none := g1 _ hlp1
          have hsE : KB [lc, lp] H3 (upd H5 lc (.lst (vb (My.res bits bk N ++ all.flatMap (Sv13.little 4)) ++ [.int 11]))) := KB.upd hs3 (by simp)
          refine q lc _ hcH ?_ ?_ (gg hsE (by rw [upd_same]; simp) (by rw [upd_ne ncp.symm]; exact hpn))
          · rw [upd_same]
            unfold My.filterOf
            rw [hall]
            exact vb_snoc _ rfl
          · have k3 : KB F0.foot H H3 := k1.trans (KB.of (sc.trans s3))
            intro z o hz hn
            exact hsE _ _ (k3 _ _ hz hn) (by
              have a1 : z ≠ lc := fun y => by rw [y, hcH] at hz; cases hz
              have a2 : z ≠ lp := fun y => by rw [y, hpH] at hz; cases hz
              simp [a1, a2])
end
end KL
set_option Elab.async false
set_option linter.all false
set_option maxRecDepth 100000
namespace KL
open PySem PySem.W PyProof.Rows L2
section
variable {P : Program} {w : World} {K : Frag} {mg : Str → Option Value} {base : Heap}
theorem lc_str {x : Str} {g : TG} {tt : TT} {te : TE} {vs : List Nat} {σ : L2.St} {H1 : Hp} {D : Addr} {Qd : Hp → Prop} (Pv : Nat → Hp → Prop) (h0 : Pv 0 (upd H1 D (.lst [])))
    (hs : ∀ i c H, x.cps[i]? = some c → Pv i H → g (.str ⟨#[c]⟩) (wipe σ vs) H fun σ2 H2 => wipe σ2 vs = wipe σ vs ∧ tt σ2 H2 fun b H3 =>
      if b = true then te σ2 H3 fun y H4 => ∃ acc, H4 D = some (.lst acc) ∧ acc.length < sizeLine ∧ Pv (i + 1) (upd H4 D (.lst (acc ++ [y]))) else Pv (i + 1) H3) (hd : ∀ H, Pv x.cps.size H → Qd H) :
    ∃ W : Nat → Nat → Hp → Prop, (∃ m, W 0 m (upd H1 D (.lst []))) ∧ ∀ i m H, W i m H →
      ((Its x).stop i H ∧ Qd H) ∨ ((Its x).go i H ∧ ∃ Nx : Hp → Prop, (∀ H', Nx H' → ∃ m', m' < m ∧ W (i + 1) m' H') ∧ ∀ y H', (Its x).yld i H y H' → g y (wipe σ vs) H' fun σ2 H2 => wipe σ2 vs = wipe σ vs ∧ tt σ2 H2 fun b H3 =>
        if b = true then te σ2 H3 fun y H4 => ∃ acc, H4 D = some (.lst acc) ∧ acc.length < sizeLine ∧ Nx (upd H4 D (.lst (acc ++ [y]))) else Nx H3) := by
  refine ⟨fun i m H => m = x.cps.size - i ∧ i ≤ x.cps.size ∧ Pv i H, ⟨x.cps.size, by simp, Nat.zero_le _, h0⟩, ?_⟩
  rintro i m H ⟨rfl, hi, p⟩
  by_cases hlt : i < x.cps.size
  · refine .inr ⟨hlt, Pv (i + 1), fun H' p' => ⟨x.cps.size - (i + 1), by omega, rfl, hlt, p'⟩, fun y H' hy => ?_⟩
    obtain ⟨rfl, c, hc, rfl⟩ := hy
    exact hs i c _ hc p
  · have e : i = x.cps.size := by omega
    subst e
    exact .inl ⟨Nat.le_refl _, hd H p⟩
def fname : Str := "filter.leveldb.BuiltinBloomFilter2"
theorem fname_cps : fname.cps.toList = Sv13.NAME := by decide +kernel
def sp_filter_key : Sp := fun vs H Q _ => vs = [] ∧ newL (vb Sv13.NAME) H Q
theorem sc_filter_key : FnScope ["sign"] [] (defScope s_filter_key) := ⟨rfl, rfl, rfl, by decide +kernel, rfl, by decide +kernel, by decide +kernel⟩
theorem blk_sign : BlkOk ["sign"] (defScope s_filter_key) { kind := .function, names := [(".0", .local), ("sign", .local), ("ord", .globalImplicit)], isGenerator := false, isCoroutine := false } [("sign", 0)] := blkOk_by (by decide +kernel)
theorem fx_filter_key (D : DefAt K mg "filter_key" s_filter_key) (Cs : Consts K mg) : Fx P w K mg base "filter_key" 1 [] sp_filter_key := by
  refine D.fx sc_filter_key (fun _ _ _ _ _ _ us hl => match us, hl with | [], _ => rfl) (fun vs H Q E h => ?_) (fun f cdv A outer s H vs Q E hr h => ?_)
  · obtain ⟨rfl, _⟩ := h
    rfl
  · obtain ⟨rfl, q⟩ := h
    refine ⟨_, (pss_one (ps_ret (pe_lc (own := [("sign", 0)]) rfl sc_filter_key.nd (pi_str (pe_gstr rfl Cs.FILTER_NAME)) blk_sign (fun _ _ _ _ _ => pg_name (i := 0) sc_filter_key.nd rfl (Or.inl rfl)) (fun _ _ _ _ _ => pts_nil) (fun _ _ _ _ _ => pe_callB call_ord rfl Cs.nord PyProof.Rows.boot_ord (pa_cons (pv 0) pa_nil))))), ?_⟩
    try dsimp only [cxOf]
    refine ⟨fname, rfl, fun ln hln => ?_⟩
    have ncps : fname.cps.size = Sv13.NAME.length := by rw [← fname_cps]; simp
    refine lc_str (x := fname) (fun i H8 => Same H H8 ∧ H8 ln = some (.lst (vb (Sv13.NAME.take i)))) ⟨Same.new (Same.refl _) hln, upd_same⟩ ?_ ?_
    · rintro i ch H8 hch ⟨s8, h8⟩
      have hN : Sv13.NAME[i]? = some ch := by
        rw [← fname_cps]
        simpa using hch
      refine ⟨rfl, _, rfl, ⟨#[ch]⟩, rfl, rfl, _, h8, lt_size ?_, Same.upd s8 hln, ?_⟩
      · rw [vb_length, List.length_take]
        have : Sv13.NAME.length = 34 := by decide
        omega
      · rw [upd_same, List.take_succ, hN]
        exact vb_snoc _ rfl
    · rintro H8 ⟨s8, h8⟩
      rw [ncps, List.take_length] at h8
      exact q ln H8 s8 hln h8
end
end KL
set_option Elab.async false
set_option linter.all false
set_option maxRecDepth 100000
namespace KL
open PySem PySem.W PyProof.Rows L2
section
variable {P : Program} {w : World} {K : Frag} {mg : Str → Option Value} {base : Heap}
def sp_table_end (Ch : Addr) : Sp := fun vs H Q _ => ∃ (a b da db : Addr) (m i : Sv13.Handle), vs = [.ref a, .ref b] ∧ H a = some (.ins Ch da (fsH m)) ∧ H b = some (.ins Ch db (fsH i)) ∧ m.at_ ≤ 100000000 ∧ m.size ≤ 100000000 ∧ i.at_ ≤ 100000000 ∧ i.size ≤ 100000000 ∧ newL (vb (Sv13.footer m i)) H Q
theorem sc_table_end : FnScope ["meta", "index", "content"] ["meta", "index"] (defScope s_table_end) := ⟨rfl, rfl, rfl, by decide +kernel, rfl, by decide +kernel, by decide +kernel⟩
theorem fx_table_end {Ch : Addr} (D : DefAt K mg "table_end" s_table_end) (C : Consts K mg) (M_packed : Mtx P w K mg base Ch "packed" 2 ["self"] (sp_packed Ch)) (F_fixed : Fx P w K mg base "fixed" 1 ["number", "width"] sp_fixed) : Fx P w K mg base "table_end" 3 ["meta", "index"] (sp_table_end Ch) := by
  refine D.fx sc_table_end (fun _ _ _ _ _ _ us hl => by obtain ⟨_, _, rfl⟩ := ln2 hl; rfl) (fun vs H Q E h => ?_) (fun f cdv A outer s H vs Q E hr h => ?_)
  · obtain ⟨a, b, da, db, m, i, rfl, _⟩ := h
    rfl
  · obtain ⟨a, b, da, db, m, i, rfl, ha, hb, b1, b2, b3, b4, q⟩ := h
    refine ⟨_, (pss_cons (ps_set (i := 2) sc_table_end.nd rfl (Or.inl rfl) (pe_op op_cat (pe_mt0 (pv 0) M_packed (hr.mono (by decide)) ) (pe_mt0 (pv 1) M_packed (hr.mono (by decide)) )))
      (pss_cons (ps_expr (pe_bm PySem.F.plainAttrs_list PySem.F.slot_list_extend PySem.F.type_list_extend mt_extend (pv 2) (pa_cons (pe_op op_rep (pe_lst (pa_cons pe_int pa_nil)) (pe_op op_sub (pe_gint rfl C.HANDLES_WIDTH) (pe_callB call_len_seq rfl C.nlen PySem.boot_len (pa_cons (pv 2) pa_nil)))) pa_nil)))
      (pss_cons (ps_expr (pe_bm PySem.F.plainAttrs_list PySem.F.slot_list_extend PySem.F.type_list_extend mt_extend (pv 2) (pa_cons (pe_fx F_fixed (hr.mono (by decide)) rfl (pa_cons (pe_gint rfl C.MAGIC) (pa_cons (pe_gint rfl C.MAGIC_WIDTH) pa_nil))) pa_nil)))
      (pss_one (ps_ret (pv 2)))))), ?_⟩
    try dsimp only [cxOf]
    have l1 := My.handle_length m
    have l2 := My.handle_length i
    refine ⟨_, rfl, rmt ha fsH_packed ⟨a, da, m, rfl, ha, b1, b2, fun la Ha sa hla hva => ?_⟩⟩
    refine ⟨_, rfl, rmt (sa _ _ hb) fsH_packed ⟨b, db, i, rfl, sa _ _ hb, b3, b4, fun lb Hb sb hlb hvb => ?_⟩⟩
    have sab := sa.trans sb
    refine ⟨la, lb, _, _, rfl, rfl, sb _ _ hva, hvb, le_size (by rw [vb_length, vb_length]; omega), fun l hl => ?_⟩
    have s1 : Same H (upd Hb l (.lst (vb m.bytes ++ vb i.bytes))) := sab.trans (Same.new (Same.refl _) hl)
    refine ⟨_, rfl, .inl ⟨rfl, _, SqL.of upd_same⟩, (by show 1 ≤ sizeLine; decide), fun lz hlz => ?_⟩
    have nlz : l ≠ lz := ne_of_none upd_same hlz
    have s2 : Same H (upd (upd Hb l (.lst (vb m.bytes ++ vb i.bytes))) lz (.lst [V.int 0])) := s1.trans (Same.new (Same.refl _) hlz)
    have hl2 : (upd (upd Hb l (.lst (vb m.bytes ++ vb i.bytes))) lz (.lst [V.int 0])) l = some (.lst (vb m.bytes ++ vb i.bytes)) := by rw [upd_ne nlz]; exact upd_same
    have ez : ((40 : Int) - (((vb m.bytes ++ vb i.bytes).length : Nat) : Int)) = ((40 - (m.bytes ++ i.bytes).length : Nat) : Int) := by
      rw [List.length_append, vb_length, vb_length, List.length_append]
      omega
    refine ⟨_, rfl, l, _, rfl, .inl (SqL.of hl2), _, _, rfl, rfl, lz, ((40 - (m.bytes ++ i.bytes).length : Nat) : Int), _, rfl, ?_, upd_same, by omega, by omega, le_size ?_, fun lr hlr => ?_⟩
    · show V.int ((40 : Int) - (((vb m.bytes ++ vb i.bytes).length : Nat) : Int)) = _
      rw [ez]
    · show 1 * (((40 - (m.bytes ++ i.bytes).length : Nat) : Int)).toNat ≤ _
      rw [Int.toNat_natCast]
      omega
    rw [Int.toNat_natCast, rep_zero]
    have nlr : l ≠ lr := ne_of_none hl2 hlr
    have s3 := s2.trans (Same.new (o := .lst (vb (List.replicate (40 - (m.bytes ++ i.bytes).length) 0))) (Same.refl _) hlr)
    refine ⟨l, lr, _, _, rfl, rfl, (by rw [upd_ne nlr]; exact hl2), upd_same, le_size (by rw [List.length_append, vb_length, vb_length, vb_length, List.length_replicate]; omega), ?_⟩
    refine ⟨_, rfl, .inl ⟨rfl, _, SqL.of upd_same⟩, Sv13.MAGIC, 8, rfl, by decide, fun l4 H4 s4 hn4 h4 => ?_⟩
    refine ⟨l, l4, _, _, rfl, rfl, s4 _ _ upd_same, h4, le_size (by rw [List.length_append, List.length_append, vb_length, vb_length, vb_length, vb_length, List.length_replicate, My.little_length]; omega), _, rfl, ?_⟩
    have hlH : H l = none := sab.free hl
    refine q l _ (Same.upd ((Same.upd s3 hlH).trans s4) hlH) hlH ?_
    rw [upd_same]
    unfold Sv13.footer
    simp only [vb_append]
end
end KL
set_option Elab.async false
set_option linter.all false
set_option maxRecDepth 100000
namespace KL
open PySem PySem.W PyProof.Rows L2
section
variable {P : Program} {w : World} {K : Frag} {mg : Str → Option Value} {base : Heap}
structure TableWriterCls (K : Frag) (C : Addr) : Prop where
  cl : Cls K C
  nI : NoAttr K C "interval"
  nT : NoAttr K C "target"
  nF : NoAttr K C "filter_writer"
  nP : NoAttr K C "parts"
  nE : NoAttr K C "end"
  nB : NoAttr K C "block"
  nL : NoAttr K C "last_key"
  nX : NoAttr K C "index_writer"
  nU : NoAttr K C "unlisted"
  nG : NoAttr K C "ending"
def fsM (iv tg : Nat) (fv : V) (lp : Addr) (en : Nat) (pb lk pi : Addr) (uv : V) (le : Addr) : List (Str × V) := [("interval", .int (iv : Int)), ("target", .int (tg : Int)), ("filter_writer", fv), ("parts", .ref lp), ("end", .int (en : Int)), ("block", .ref pb), ("last_key", .ref lk), ("index_writer", .ref pi), ("unlisted", uv), ("ending", .ref le)]
section
variable {iv tg en : Nat} {fv uv : V} {lp pb lk pi le : Addr}
theorem fsM_I : (fsM iv tg fv lp en pb lk pi uv le).lookup ("interval" : Str) = some (.int (iv : Int)) := lk_here
theorem fsM_T : (fsM iv tg fv lp en pb lk pi uv le).lookup ("target" : Str) = some (.int (tg : Int)) := lk_next (by decide +kernel) (lk_here)
theorem fsM_F : (fsM iv tg fv lp en pb lk pi uv le).lookup ("filter_writer" : Str) = some (fv) := lk_next (by decide +kernel) (lk_next (by decide +kernel) (lk_here))
theorem fsM_P : (fsM iv tg fv lp en pb lk pi uv le).lookup ("parts" : Str) = some (.ref lp) := lk_next (by decide +kernel) (lk_next (by decide +kernel) (lk_next (by decide +kernel) (lk_here)))
theorem fsM_E : (fsM iv tg fv lp en pb lk pi uv le).lookup ("end" : Str) = some (.int (en : Int)) := lk_next (by decide +kernel) (lk_next (by decide +kernel) (lk_next (by decide +kernel) (lk_next (by decide +kernel) (lk_here))))
theorem fsM_B : (fsM iv tg fv lp en pb lk pi uv le).lookup ("block" : Str) = some (.ref pb) := lk_next (by decide +kernel) (lk_next (by decide +kernel) (lk_next (by decide +kernel) (lk_next (by decide +kernel) (lk_next (by decide +kernel) (lk_here)))))
theorem fsM_L : (fsM iv tg fv lp en pb lk pi uv le).lookup ("last_key" : Str) = some (.ref lk) := lk_next (by decide +kernel) (lk_next (by decide +kernel) (lk_next (by decide +kernel) (lk_next (by decide +kernel) (lk_next (by decide +kernel) (lk_next (by decide +kernel) (lk_here))))))
theorem fsM_X : (fsM iv tg fv lp en pb lk pi uv le).lookup ("index_writer" : Str) = some (.ref pi) := lk_next (by decide +kernel) (lk_next (by decide +kernel) (lk_next (by decide +kernel) (lk_next (by decide +kernel) (lk_next (by decide +kernel) (lk_next (by decide +kernel) (lk_next (by decide +kernel) (lk_here)))))))
theorem fsM_U : (fsM iv tg fv lp en pb lk pi uv le).lookup ("unlisted" : Str) = some (uv) := lk_next (by decide +kernel) (lk_next (by decide +kernel) (lk_next (by decide +kernel) (lk_next (by decide +kernel) (lk_next (by decide +kernel) (lk_next (by decide +kernel) (lk_next (by decide +kernel) (lk_next (by decide +kernel) (lk_here))))))))
theorem fsM_G : (fsM iv tg fv lp en pb lk pi uv le).lookup ("ending" : Str) = some (.ref le) := lk_next (by decide +kernel) (lk_next (by decide +kernel) (lk_next (by decide +kernel) (lk_next (by decide +kernel) (lk_next (by decide +kernel) (lk_next (by decide +kernel) (lk_next (by decide +kernel) (lk_next (by decide +kernel) (lk_next (by decide +kernel) (lk_here)))))))))
theorem fsM_no {m : Str} (h : ∀ x ∈ (["interval", "target", "filter_writer", "parts", "end", "block", "last_key", "index_writer", "unlisted", "ending"] : List Str), (m == x) = false) : (fsM iv tg fv lp en pb lk pi uv le).lookup m = none :=
  lk_next (h _ (by simp)) (lk_next (h _ (by simp)) (lk_next (h _ (by simp)) (lk_next (h _ (by simp)) (lk_next (h _ (by simp)) (lk_next (h _ (by simp)) (lk_next (h _ (by simp)) (lk_next (h _ (by simp)) (lk_next (h _ (by simp)) (lk_next (h _ (by simp)) (lk_nil))))))))))
theorem fsM_no_put : (fsM iv tg fv lp en pb lk pi uv le).lookup ("put" : Str) = none := fsM_no (by decide +kernel)
theorem fsM_no_add_part : (fsM iv tg fv lp en pb lk pi uv le).lookup ("add_part" : Str) = none := fsM_no (by decide +kernel)
theorem fsM_no_end_block : (fsM iv tg fv lp en pb lk pi uv le).lookup ("end_block" : Str) = none := fsM_no (by decide +kernel)
theorem fsM_no_list_block : (fsM iv tg fv lp en pb lk pi uv le).lookup ("list_block" : Str) = none := fsM_no (by decide +kernel)
theorem fsM_no_finish : (fsM iv tg fv lp en pb lk pi uv le).lookup ("finish" : Str) = none := fsM_no (by decide +kernel)
theorem fsM_no_append_to : (fsM iv tg fv lp en pb lk pi uv le).lookup ("append_to" : Str) = none := fsM_no (by decide +kernel)
theorem putM_en {z : Int} {en' : Nat} (e : z = (en' : Int)) : putF "end" (.int z) (fsM iv tg fv lp en pb lk pi uv le) = fsM iv tg fv lp en' pb lk pi uv le := by
  subst e
  unfold fsM
  simp (disch := decide +kernel) only [pf_nil, pf_here, pf_next]
theorem putM_pb {pb' : Addr} : putF "block" (.ref pb') (fsM iv tg fv lp en pb lk pi uv le) = fsM iv tg fv lp en pb' lk pi uv le := by
  unfold fsM
  simp (disch := decide +kernel) only [pf_nil, pf_here, pf_next]
theorem putM_lk {lk' : Addr} : putF "last_key" (.ref lk') (fsM iv tg fv lp en pb lk pi uv le) = fsM iv tg fv lp en pb lk' pi uv le := by
  unfold fsM
  simp (disch := decide +kernel) only [pf_nil, pf_here, pf_next]
theorem putM_uv {uv' : V} : putF "unlisted" (uv') (fsM iv tg fv lp en pb lk pi uv le) = fsM iv tg fv lp en pb lk pi uv' le := by
  unfold fsM
  simp (disch := decide +kernel) only [pf_nil, pf_here, pf_next]
theorem putM_le {le' : Addr} : putF "ending" (.ref le') (fsM iv tg fv lp en pb lk pi uv le) = fsM iv tg fv lp en pb lk pi uv le' := by
  unfold fsM
  simp (disch := decide +kernel) only [pf_nil, pf_here, pf_next]
end
structure OF where
  p : Addr
  dx : Addr
  lp : Addr
  pb : Addr
  lk : Addr
  pi : Addr
  le : Addr
  fv : V
  uv : V
  ps : List Addr
def OF.foot (X : OF) : List Addr := [X.p, X.lp]
structure OAt (C : Addr) (G H : Hp) (X : OF) (iv tg : Nat) (parts : List (List Nat)) : Prop where
  ob : H X.p = some (.ins C X.dx (fsM iv tg X.fv X.lp (My.outL parts) X.pb X.lk X.pi X.uv X.le))
  hp : H X.lp = some (.lst (X.ps.map V.ref))
  pa : KeysAt G X.ps parts
  g1 : G X.p = none
  g2 : G X.lp = none
  sg : Same G H
section
variable {C : Addr} {G H H' : Hp} {X : OF} {iv tg : Nat} {parts : List (List Nat)}
theorem OAt.isS (W : OAt C G H X iv tg parts) {x : Addr} (hx : x ∈ X.foot) : H x ≠ none := by
  have h : x = X.p ∨ x = X.lp := by simpa [OF.foot] using hx
  rcases h with rfl | rfl
  · rw [W.ob]; simp
  · rw [W.hp]; simp
theorem OAt.gS (W : OAt C G H X iv tg parts) {x : Addr} (hx : x ∈ X.foot) : G x = none := by
  have h : x = X.p ∨ x = X.lp := by simpa [OF.foot] using hx
  rcases h with rfl | rfl
  · exact W.g1
  · exact W.g2
theorem OAt.ne (W : OAt C G H X iv tg parts) : X.p ≠ X.lp := ne_of W.ob W.hp (by intro z; cases z)
theorem OAt.kb (W : OAt C G H X iv tg parts) {T : List Addr} (k : KB T H H') (d : ∀ x ∈ X.foot, x ∉ T) (s : Same G H') : OAt C G H' X iv tg parts :=
  ⟨k _ _ W.ob (d _ (by simp [OF.foot])), k _ _ W.hp (d _ (by simp [OF.foot])), W.pa, W.g1, W.g2, s⟩
theorem OAt.same (W : OAt C G H X iv tg parts) (s : Same H H') : OAt C G H' X iv tg parts := ⟨s _ _ W.ob, s _ _ W.hp, W.pa, W.g1, W.g2, W.sg.trans s⟩
theorem OAt.frz (W : OAt C G H X iv tg parts) {l : Addr} {o : HO} (hl : H l = some o) (gl : G l = none) (n : l ∉ X.foot) : OAt C (upd G l o) H X iv tg parts := by
  have q : ∀ x ∈ X.foot, (upd G l o) x = none := fun x hx => by
    rw [upd_ne (fun z => n (by rw [← z]; exact hx))]
    exact W.gS hx
  exact ⟨W.ob, W.hp, W.pa.same (Same.new (Same.refl G) gl), q _ (by simp [OF.foot]), q _ (by simp [OF.foot]), Same.grow W.sg hl⟩
theorem OAt.fresh (W : OAt C G H X iv tg parts) {l : Addr} (hl : H l = none) : l ∉ X.foot := fun z => W.isS z hl
theorem OAt.set (W : OAt C G H X iv tg parts) (pb lk : Addr) (uv : V) (le : Addr) : OAt C G (upd H X.p (.ins C X.dx (fsM iv tg X.fv X.lp (My.outL parts) pb lk X.pi uv le))) { X with pb := pb, lk := lk, uv := uv, le := le } iv tg parts :=
  ⟨upd_same, (by show (upd _ X.p _) X.lp = _; rw [upd_ne W.ne.symm]; exact W.hp), W.pa, W.g1, W.g2, Same.upd W.sg W.g1⟩
end
def ANext (C Ch : Addr) (G H : Hp) (X : OF) (iv tg : Nat) (parts : List (List Nat)) (c : Addr) (y : List Nat) (Q : VK) : Prop := ∀ (ph dh : Addr) (H' : Hp), H ph = none → H' ph = some (.ins Ch dh (fsH ⟨My.outL parts, y.length⟩)) →
  OAt C (upd G ph (.ins Ch dh (fsH ⟨My.outL parts, y.length⟩))) H' { X with ps := X.ps ++ [c] } iv tg (parts ++ [y]) → KB X.foot H H' → Gr H H' → Q (.ref ph) H'
def sp_add_part (C Ch : Addr) : Sp := fun vs H Q _ => ∃ (X : OF) (G : Hp) (iv tg : Nat) (parts : List (List Nat)) (c : Addr) (y : List Nat), vs = [.ref X.p, .ref c] ∧ OAt C G H X iv tg parts ∧ G c = some (.lst (vb y)) ∧ parts.length ≤ 1000000 ∧ ANext C Ch G H X iv tg parts c y Q
theorem sc_TableWriter_add_part : FnScope ["self", "content", "handle"] ["self", "content"] (defScope s_TableWriter_add_part) := ⟨rfl, rfl, rfl, by decide +kernel, rfl, by decide +kernel, by decide +kernel⟩
theorem mx_add_part {C Ch : Addr} (D : MethAt K C "add_part" "TableWriter.add_part" s_TableWriter_add_part) (T : TableWriterCls K C) (Cs : Consts K mg) (M_Handle : Mkx P w K mg base "Handle" Ch 1 ["self", "begin", "length"] (sp_Handle_init Ch)) (M_behind : Mtx P w K mg base Ch "behind" 1 ["self"] (sp_behind Ch)) :
    Mtx P w K mg base C "add_part" 3 ["self", "content"] (sp_add_part C Ch) := by
  refine D.mx T.cl sc_TableWriter_add_part (fun _ _ _ _ _ _ us hl => by obtain ⟨_, _, rfl⟩ := ln2 hl; rfl) (fun vs H Q E h => ?_) (fun f cdv A outer s H vs Q E hr h => ?_)
  · obtain ⟨X, G, iv, tg, parts, c, y, rfl, _⟩ := h
    rfl
  · obtain ⟨X, G, iv, tg, parts, c, y, rfl, W, hc, hpl, q⟩ := h
    refine ⟨_, (pss_cons (ps_set (i := 2) sc_TableWriter_add_part.nd rfl (Or.inl rfl) (pe_mx M_Handle (hr.mono (by decide)) rfl (pa_cons (pe_fld (pv 0) rfl) (pa_cons (pe_callB call_len_seq rfl Cs.nlen PySem.boot_len (pa_cons (pv 1) pa_nil)) pa_nil))))
      (pss_cons (ps_expr (pe_bm PySem.F.plainAttrs_list PySem.F.slot_list_append PySem.F.type_list_append mt_append (pe_fld (pv 0) rfl) (pa_cons (pv 1) pa_nil)))
      (pss_cons (ps_fld (pv 0) (pe_mt0 (pv 2) M_behind (hr.mono (by decide)) ) rfl)
      (pss_one (ps_ret (pv 2)))))), ?_⟩
    try dsimp only [cxOf]
    refine ⟨_, rfl, rfd W.ob T.cl T.nE fsM_E ⟨_, rfl, c, _, rfl, .inl (SqL.of (W.sg _ _ hc)), fun ph dh hph hdh hne => ?_⟩⟩
    refine ⟨ph, dh, ⟨My.outL parts, y.length⟩, ?_, upd_same, rfl, ?_⟩
    · rw [vb_length]
      rfl
    rw [upd_upd]
    have s1 : Same H (upd (upd H dh (.own ph)) ph (.ins Ch dh (fsH ⟨My.outL parts, y.length⟩))) := Same.new (Same.new (Same.refl H) hdh) (by rw [upd_ne hne.symm]; exact hph)
    have h1 : (upd (upd H dh (.own ph)) ph (.ins Ch dh (fsH ⟨My.outL parts, y.length⟩))) ph = some (.ins Ch dh (fsH ⟨My.outL parts, y.length⟩)) := upd_same
    generalize upd (upd H dh (.own ph)) ph (.ins Ch dh (fsH ⟨My.outL parts, y.length⟩)) = H1 at s1 h1
    have W1 := W.same s1
    have hpsl : X.ps.length = parts.length := W.pa.1
    refine ⟨_, rfl, rfd W1.ob T.cl T.nP fsM_P ⟨.inl ⟨rfl, _, SqL.of W1.hp⟩, _, rfl, X.lp, _, _, rfl, rfl, W1.hp, lt_size (by rw [List.length_map]; omega), ?_⟩⟩
    have e1 : X.ps.map V.ref ++ [V.ref c] = (X.ps ++ [c]).map V.ref := by rw [List.map_append]; rfl
    rw [e1]
    have nph : ph ≠ X.lp := (ne_of_none W.hp hph).symm
    have npp : ph ≠ X.p := (ne_of_none W.ob hph).symm
    refine ⟨_, rfl, rmt (by rw [upd_ne nph]; exact h1) fsH_behind ⟨ph, dh, _, rfl, (by rw [upd_ne nph]; exact h1), ?_⟩⟩
    refine ⟨_, rfl, rfs (by rw [upd_ne W.ne]; exact W1.ob) T.cl T.nE (by show 10 < 1000; decide) ?_⟩
    have e2 : putF "end" (V.int ((My.outL parts + y.length + 5 : Nat) : Int)) (fsM iv tg X.fv X.lp (My.outL parts) X.pb X.lk X.pi X.uv X.le) = fsM iv tg X.fv X.lp (My.outL (parts ++ [y])) X.pb X.lk X.pi X.uv X.le := putM_en (by rw [My.outL_snoc, Nat.add_assoc])
    refine ⟨_, rfl, ?_⟩
    show Q (.ref ph) (upd (upd H1 X.lp (.lst ((X.ps ++ [c]).map V.ref))) X.p (.ins C X.dx (putF "end" (V.int ((My.outL parts + y.length + 5 : Nat) : Int)) (fsM iv tg X.fv X.lp (My.outL parts) X.pb X.lk X.pi X.uv X.le))))
    rw [e2]
    have kE : KB X.foot H (upd (upd H1 X.lp (.lst ((X.ps ++ [c]).map V.ref))) X.p (.ins C X.dx (fsM iv tg X.fv X.lp (My.outL (parts ++ [y])) X.pb X.lk X.pi X.uv X.le))) := KB.upd (KB.upd (KB.of s1) (by simp [OF.foot])) (by simp [OF.foot])
    have hE : (upd (upd H1 X.lp (.lst ((X.ps ++ [c]).map V.ref))) X.p (.ins C X.dx (fsM iv tg X.fv X.lp (My.outL (parts ++ [y])) X.pb X.lk X.pi X.uv X.le))) ph = some (.ins Ch dh (fsH ⟨My.outL parts, y.length⟩)) := by
      rw [upd_ne npp, upd_ne nph]
      exact h1
    have gph : G ph = none := W.sg.free hph
    have sG : Same G (upd G ph (.ins Ch dh (fsH ⟨My.outL parts, y.length⟩))) := Same.new (Same.refl G) gph
    refine q ph dh _ hph hE ⟨upd_same, ?_, (W.pa.same sG).snoc (sG _ _ hc), ?_, ?_, Same.grow (same_kb W.sg kE fun x hx => W.gS hx) hE⟩ kE (Gr.upd (Gr.upd (Gr.of s1)))
    · show (upd _ X.p _) X.lp = _
      rw [upd_ne W.ne.symm]
      exact upd_same
    · show (upd G ph _) X.p = none
      rw [upd_ne npp.symm]
      exact W.g1
    · show (upd G ph _) X.lp = none
      rw [upd_ne nph.symm]
      exact W.g2
end
end KL
set_option Elab.async false
set_option linter.all false
set_option maxRecDepth 100000
namespace KL
open PySem PySem.W PyProof.Rows L2
section
variable {P : Program} {w : World} {K : Frag} {mg : Str → Option Value} {base : Heap}
def FoAt (Cf : Addr) (G H : Hp) (o : Option FF) (bits : Nat) (f : FS) : Prop := match o with
  | none => True
  | some F => FAt Cf G H F bits f
def ffOf : Option FF → List Addr
  | none => []
  | some F => F.foot
def fvOf : Option FF → V
  | none => .non
  | some F => .ref F.p
section
variable {Cf : Addr} {G H H' : Hp} {o : Option FF} {bits : Nat} {f : FS}
theorem FoAt.same (W : FoAt Cf G H o bits f) (s : Same H H') : FoAt Cf G H' o bits f := by
  cases o with
  | none => trivial
  | some F => exact FAt.same W s
theorem FoAt.kb (W : FoAt Cf G H o bits f) {T : List Addr} (k : KB T H H') (d : ∀ x ∈ ffOf o, x ∉ T) (s : Same G H') : FoAt Cf G H' o bits f := by
  cases o with
  | none => trivial
  | some F => exact FAt.kb W k d s
theorem FoAt.frz (W : FoAt Cf G H o bits f) {l : Addr} {u : HO} (hl : H l = some u) (gl : G l = none) (n : l ∉ ffOf o) : FoAt Cf (upd G l u) H o bits f := by
  cases o with
  | none => trivial
  | some F => exact FAt.frz W hl gl n
theorem FoAt.fresh (W : FoAt Cf G H o bits f) {l : Addr} (hl : H l = none) : l ∉ ffOf o := by
  cases o with
  | none => intro z; cases z
  | some F => exact FAt.fresh W hl
theorem FoAt.gS (W : FoAt Cf G H o bits f) {x : Addr} (hx : x ∈ ffOf o) : G x = none := by
  cases o with
  | none => cases hx
  | some F => exact FAt.gS W hx
end
def UnAt (Ch : Addr) (G : Hp) (uv : V) (u : Option Sv13.Handle) : Prop := (uv = .non ∧ u = none) ∨ ∃ (ph dh : Addr) (h : Sv13.Handle), uv = .ref ph ∧ u = some h ∧ G ph = some (.ins Ch dh (fsH h))
theorem UnAt.same {Ch : Addr} {G G' : Hp} {uv : V} {u : Option Sv13.Handle} (h : UnAt Ch G uv u) (s : Same G G') : UnAt Ch G' uv u := by
  rcases h with h | ⟨ph, dh, h, h1, h2, h3⟩
  · exact .inl h
  · exact .inr ⟨ph, dh, h, h1, h2, s _ _ h3⟩
structure MF where
  O : OF
  B : WF
  I : WF
  F : Option FF
def MF.wI (X : MF) (k : Addr) : MF := ⟨X.O, X.B, { X.I with lk := k }, X.F⟩
def MF.wB (X : MF) (k : Addr) : MF := ⟨X.O, { X.B with lk := k }, X.I, X.F⟩
def MF.wF (X : MF) (F : FF) : MF := ⟨X.O, X.B, X.I, some F⟩
def MF.wO (X : MF) (O : OF) : MF := ⟨O, X.B, X.I, X.F⟩
def MF.wN (X : MF) (B : WF) : MF := ⟨{ X.O with pb := B.p }, B, X.I, X.F⟩
def OF.wS (O : OF) (lk : Addr) (uv : V) (le : Addr) : OF := { O with lk := lk, uv := uv, le := le }
structure MAt (Ct Cw Cf Ch : Addr) (G H : Hp) (X : MF) (iv tg bits : Nat) (m : My.TM) (f : FS) : Prop where
  o : OAt Ct G H X.O iv tg m.parts
  wb : WAt Cw G H X.B iv m.w
  wi : WAt Cw G H X.I 1 m.ix
  fo : FoAt Cf G H X.F bits f
  pb : X.O.pb = X.B.p
  pi : X.O.pi = X.I.p
  fv : X.O.fv = fvOf X.F
  fb : X.F = none ↔ bits = 0
  hk : G X.O.lk = some (.lst (vb m.last))
  un : UnAt Ch G X.O.uv m.unl
  d1 : ∀ x ∈ X.O.foot, x ∉ X.B.foot
  d2 : ∀ x ∈ X.O.foot, x ∉ X.I.foot
  d3 : ∀ x ∈ X.O.foot, x ∉ ffOf X.F
  d4 : ∀ x ∈ X.B.foot, x ∉ X.I.foot
  d5 : ∀ x ∈ X.B.foot, x ∉ ffOf X.F
  d6 : ∀ x ∈ X.I.foot, x ∉ ffOf X.F
theorem dsy {A B : List Addr} (h : ∀ x ∈ A, x ∉ B) : ∀ x ∈ B, x ∉ A := fun x hx z => h x z hx
section
variable {Ct Cw Cf Ch : Addr} {G H H' : Hp} {X : MF} {iv tg bits : Nat} {m : My.TM} {f : FS}
theorem MAt.same (M : MAt Ct Cw Cf Ch G H X iv tg bits m f) (s : Same H H') : MAt Ct Cw Cf Ch G H' X iv tg bits m f :=
  ⟨M.o.same s, M.wb.same s, M.wi.same s, M.fo.same s, M.pb, M.pi, M.fv, M.fb, M.hk, M.un, M.d1, M.d2, M.d3, M.d4, M.d5, M.d6⟩
theorem MAt.frz (M : MAt Ct Cw Cf Ch G H X iv tg bits m f) {l : Addr} {u : HO} (hl : H l = some u) (gl : G l = none) (n1 : l ∉ X.O.foot) (n2 : l ∉ X.B.foot) (n3 : l ∉ X.I.foot) (n4 : l ∉ ffOf X.F) : MAt Ct Cw Cf Ch (upd G l u) H X iv tg bits m f := by
  have s : Same G (upd G l u) := Same.new (Same.refl G) gl
  exact ⟨M.o.frz hl gl n1, M.wb.frz hl gl n2, M.wi.frz hl gl n3, M.fo.frz hl gl n4, M.pb, M.pi, M.fv, M.fb, s _ _ M.hk, M.un.same s, M.d1, M.d2, M.d3, M.d4, M.d5, M.d6⟩
theorem MAt.new (M : MAt Ct Cw Cf Ch G H X iv tg bits m f) (s : Same H H') {l : Addr} {u : HO} (hl : H l = none) (h' : H' l = some u) : MAt Ct Cw Cf Ch (upd G l u) H' X iv tg bits m f :=
  (M.same s).frz h' (M.o.sg.free hl) (M.o.fresh hl) (M.wb.fresh hl) (M.wi.fresh hl) (M.fo.fresh hl)
theorem MAt.chI (M : MAt Ct Cw Cf Ch G H X iv tg bits m f) {k : Addr} {ix : My.BW} (W : WAt Cw G H' { X.I with lk := k } 1 ix) (kb : KB X.I.foot H H') : MAt Ct Cw Cf Ch G H' (X.wI k) iv tg bits ⟨m.parts, m.w, m.last, ix, m.unl⟩ f := by
  have s := same_kb M.o.sg kb fun x hx => M.wi.gS hx
  exact ⟨M.o.kb kb M.d2 s, M.wb.kb kb M.d4 s, W, M.fo.kb kb (dsy M.d6) s, M.pb, M.pi, M.fv, M.fb, M.hk, M.un, M.d1, M.d2, M.d3, M.d4, M.d5, M.d6⟩
theorem MAt.chB (M : MAt Ct Cw Cf Ch G H X iv tg bits m f) {k : Addr} {w' : My.BW} (W : WAt Cw G H' { X.B with lk := k } iv w') (kb : KB X.B.foot H H') : MAt Ct Cw Cf Ch G H' (X.wB k) iv tg bits ⟨m.parts, w', m.last, m.ix, m.unl⟩ f := by
  have s := same_kb M.o.sg kb fun x hx => M.wb.gS hx
  exact ⟨M.o.kb kb M.d1 s, W, M.wi.kb kb (dsy M.d4) s, M.fo.kb kb (dsy M.d5) s, M.pb, M.pi, M.fv, M.fb, M.hk, M.un, M.d1, M.d2, M.d3, M.d4, M.d5, M.d6⟩
theorem MAt.chF (M : MAt Ct Cw Cf Ch G H X iv tg bits m f) {F F' : FF} {f' : FS} (hF : X.F = some F) (W : FAt Cf G H' F' bits f') (hp : F'.p = F.p) (hn : ∀ x ∈ F'.foot, x ∈ F.foot ∨ H x = none) (kb : KB F.foot H H') : MAt Ct Cw Cf Ch G H' (X.wF F') iv tg bits m f' := by
  have ef : ffOf X.F = F.foot := by rw [hF]; rfl
  have g : ∀ x ∈ F.foot, G x = none := fun x hx => M.fo.gS (by rw [ef]; exact hx)
  have s := same_kb M.o.sg kb g
  have d3 := M.d3
  have d5 := M.d5
  have d6 := M.d6
  rw [ef] at d3 d5 d6
  refine ⟨M.o.kb kb d3 s, M.wb.kb kb d5 s, M.wi.kb kb d6 s, W, M.pb, M.pi, ?_, ?_, M.hk, M.un, M.d1, M.d2, fun x hx z => ?_, M.d4, fun x hx z => ?_, fun x hx z => ?_⟩
  · show X.O.fv = V.ref F'.p
    rw [M.fv, hF, hp]
    rfl
  · have := M.fb
    rw [hF] at this
    constructor
    · intro z; cases z
    · intro z; exact absurd (this.mpr z) (by simp)
  · rcases hn x z with q | q
    · exact d3 x hx q
    · exact M.o.isS hx q
  · rcases hn x z with q | q
    · exact d5 x hx q
    · exact M.wb.isS hx q
  · rcases hn x z with q | q
    · exact d6 x hx q
    · exact M.wi.isS hx q
theorem MAt.chO (M : MAt Ct Cw Cf Ch G H X iv tg bits m f) {O' : OF} {ps : List (List Nat)} {ph : Addr} {u : HO} (O2 : OAt Ct (upd G ph u) H' O' iv tg ps) (hph : H ph = none) (h' : H' ph = some u) (kb : KB X.O.foot H H') (ef : O'.foot = X.O.foot) (e1 : O'.pb = X.O.pb) (e2 : O'.pi = X.O.pi) (e3 : O'.fv = X.O.fv) (e4 : O'.lk = X.O.lk) (e5 : O'.uv = X.O.uv) : MAt Ct Cw Cf Ch (upd G ph u) H' (X.wO O') iv tg bits ⟨ps, m.w, m.last, m.ix, m.unl⟩ f := by
  have s := same_kb M.o.sg kb fun x hx => M.o.gS hx
  have gl := M.o.sg.free hph
  have sG : Same G (upd G ph u) := Same.new (Same.refl G) gl
  refine ⟨O2, (M.wb.kb kb (dsy M.d1) s).frz h' gl (M.wb.fresh hph), (M.wi.kb kb (dsy M.d2) s).frz h' gl (M.wi.fresh hph), (M.fo.kb kb (dsy M.d3) s).frz h' gl (M.fo.fresh hph), e1.trans M.pb, e2.trans M.pi, e3.trans M.fv, M.fb, ?_, ?_, ?_, ?_, ?_, M.d4, M.d5, M.d6⟩
  · show (upd G ph u) O'.lk = _
    rw [e4]
    exact sG _ _ M.hk
  · show UnAt Ch _ O'.uv _
    rw [e5]
    exact M.un.same sG
  · show ∀ x ∈ O'.foot, _
    rw [ef]
    exact M.d1
  · show ∀ x ∈ O'.foot, _
    rw [ef]
    exact M.d2
  · show ∀ x ∈ O'.foot, _
    rw [ef]
    exact M.d3
theorem MAt.set (M : MAt Ct Cw Cf Ch G H X iv tg bits m f) (lk : Addr) (uv : V) (le : Addr) {last : List Nat} {un : Option Sv13.Handle} (hk : G lk = some (.lst (vb last))) (hu : UnAt Ch G uv un) :
    MAt Ct Cw Cf Ch G (upd H X.O.p (.ins Ct X.O.dx (fsM iv tg X.O.fv X.O.lp (My.outL m.parts) X.O.pb lk X.O.pi uv le))) (X.wO (X.O.wS lk uv le)) iv tg bits ⟨m.parts, m.w, last, m.ix, un⟩ f := by
  have O2 := M.o.set X.O.pb lk uv le
  have kb : KB X.O.foot H (upd H X.O.p (.ins Ct X.O.dx (fsM iv tg X.O.fv X.O.lp (My.outL m.parts) X.O.pb lk X.O.pi uv le))) := KB.upd (KB.refl _ _) (by simp [OF.foot])
  exact ⟨O2, M.wb.kb kb (dsy M.d1) O2.sg, M.wi.kb kb (dsy M.d2) O2.sg, M.fo.kb kb (dsy M.d3) O2.sg, M.pb, M.pi, M.fv, M.fb, hk, hu, M.d1, M.d2, M.d3, M.d4, M.d5, M.d6⟩
theorem MAt.newB (M : MAt Ct Cw Cf Ch G H X iv tg bits m f) (s : Same H H') {B : WF} {w' : My.BW} {u : HO} (W : WAt Cw (upd G B.lk u) H' B iv w') (hB : ∀ x ∈ B.foot, H x = none) (hl : H B.lk = none) :
    MAt Ct Cw Cf Ch (upd G B.lk u) (upd H' X.O.p (.ins Ct X.O.dx (fsM iv tg X.O.fv X.O.lp (My.outL m.parts) B.p X.O.lk X.O.pi X.O.uv X.O.le))) (X.wN B) iv tg bits ⟨m.parts, w', m.last, m.ix, m.unl⟩ f := by
  have M1 := M.new s hl (W.sg _ _ upd_same)
  have O2 := M1.o.set B.p X.O.lk X.O.uv X.O.le
  have kb : KB X.O.foot H' (upd H' X.O.p (.ins Ct X.O.dx (fsM iv tg X.O.fv X.O.lp (My.outL m.parts) B.p X.O.lk X.O.pi X.O.uv X.O.le))) := KB.upd (KB.refl _ _) (by simp [OF.foot])
  have dB : ∀ x ∈ B.foot, x ∉ X.O.foot := fun x hx => M.o.fresh (hB x hx)
  exact ⟨O2, W.kb kb dB O2.sg, M1.wi.kb kb (dsy M1.d2) O2.sg, M1.fo.kb kb (dsy M1.d3) O2.sg, rfl, M1.pi, M1.fv, M1.fb, M1.hk, M1.un, dsy dB, M1.d2, M1.d3, fun x hx => M.wi.fresh (hB x hx), fun x hx => M.fo.fresh (hB x hx), M1.d6⟩
end
def MNext (Ct Cw Cf Ch : Addr) (G : Hp) (X : MF) (iv tg bits : Nat) (m : My.TM) (f : FS) (Q : VK) : Prop := ∀ (G' : Hp) (X' : MF) (H' : Hp), X'.O.p = X.O.p → Same G G' → MAt Ct Cw Cf Ch G' H' X' iv tg bits m f → Q .non H'
def sp_list (Ct Cw Cf Ch : Addr) : Sp := fun vs H Q _ => ∃ (X : MF) (G : Hp) (iv tg bits : Nat) (m : My.TM) (f : FS) (k : Addr) (ik : List Nat) (h : Sv13.Handle), vs = [.ref X.O.p, .ref k] ∧ MAt Ct Cw Cf Ch G H X iv tg bits m f ∧ G k = some (.lst (vb ik)) ∧ m.unl = some h ∧ My.Bd m ∧ ik.length ≤ 1000000 ∧
  MNext Ct Cw Cf Ch G X iv tg bits (m.list ik) f Q
theorem sc_TableWriter_list_block : FnScope ["self", "index_key"] ["self", "index_key"] (defScope s_TableWriter_list_block) := ⟨rfl, rfl, rfl, by decide +kernel, rfl, by decide +kernel, by decide +kernel⟩
theorem mx_list {Ct Cw Cf Ch : Addr} (D : MethAt K Ct "list_block" "TableWriter.list_block" s_TableWriter_list_block) (T : TableWriterCls K Ct) (M_put : Mtx P w K mg base Cw "put" 2 ["self", "key", "value", "known"] (sp_W_put Cw)) (M_packed : Mtx P w K mg base Ch "packed" 2 ["self"] (sp_packed Ch)) :
    Mtx P w K mg base Ct "list_block" 3 ["self", "index_key"] (sp_list Ct Cw Cf Ch) := by
  refine D.mx T.cl sc_TableWriter_list_block (fun _ _ _ _ _ _ us hl => by obtain ⟨_, _, rfl⟩ := ln2 hl; rfl) (fun vs H Q E h => ?_) (fun f cdv A outer s H vs Q E hr h => ?_)
  · obtain ⟨X, G, iv, tg, bits, m, f, k, ik, h, rfl, _⟩ := h
    rfl
  · obtain ⟨X, G, iv, tg, bits, m, f, k, ik, h, rfl, M, hk, hu, bd, hil, q⟩ := h
    refine ⟨_, (pss_cons (ps_expr (pe_mt (pe_fld (pv 0) rfl) M_put (hr.mono (by decide)) (pa_cons (pv 1) (pa_cons (pe_mt0 (pe_fld (pv 0) rfl) M_packed (hr.mono (by decide)) ) (pa_cons pe_int pa_nil)))))
      (pss_one (ps_fld (pv 0) pe_non rfl))), ?_⟩
    try dsimp only [cxOf]
    obtain ⟨ph, dh, huv, hph⟩ : ∃ ph dh, X.O.uv = .ref ph ∧ G ph = some (.ins Ch dh (fsH h)) := by
      rcases M.un with ⟨_, z⟩ | ⟨ph, dh, h', e1, e2, e3⟩
      · rw [hu] at z; cases z
      · rw [hu] at e2
        cases e2
        exact ⟨ph, dh, e1, e3⟩
    have b1 := bd.un h hu
    have b2 := bd.ib
    have b3 := bd.il
    have hl20 := My.handle_length h
    have hob := M.o.ob
    rw [M.pi, huv] at hob
    have hph' := M.o.sg _ _ hph
    refine ⟨_, rfl, rfd hob T.cl T.nX fsM_X (rmt M.wi.ob fsW_put ⟨_, rfl, _, rfl, rfd hob T.cl T.nU fsM_U (rmt hph' fsH_packed ⟨ph, dh, h, rfl, hph', by omega, by omega, fun lq H1 s1 hlq h1 => ?_⟩)⟩)⟩
    have M1 := M.new s1 hlq h1
    have gq : G lq = none := M.o.sg.free hlq
    have sG : Same G (upd G lq (.lst (vb h.bytes))) := Same.new (Same.refl G) gq
    refine ⟨X.I, _, k, lq, 1, m.ix, ik, h.bytes, rfl, M1.wi, sG _ _ hk, upd_same, by decide, by omega, by omega, by omega, fun H2 W2 k2 => ?_⟩
    have M2 := M1.chI W2 k2
    have hob2 := M2.o.ob
    refine ⟨_, rfl, rfs hob2 T.cl T.nU (by show 10 < 1000; decide) ?_⟩
    rw [putM_uv]
    have M3 := M2.set X.O.lk .non X.O.le M2.hk (.inl ⟨rfl, rfl⟩)
    have em : m.list ik = ⟨m.parts, m.w, m.last, m.ix.put 1 ik h.bytes, none⟩ := by
      unfold My.TM.list
      rw [hu]
    rw [em] at q
    refine q _ _ _ ?_ sG M3
    rfl
end
end KL
set_option Elab.async false
set_option linter.all false
set_option maxRecDepth 100000
namespace KL
open PySem PySem.W PyProof.Rows L2
section
variable {P : Program} {w : World} {K : Frag} {mg : Str → Option Value} {base : Heap}
theorem made_same {H H' : Hp} {p dx C : Addr} (hp : H p = none) (hdx : H dx = none) (k : KB [p] (upd (upd H dx (.own p)) p (.ins C dx [])) H') : Same H H' := fun b o e => by
  have n1 := ne_of_none e hp
  have n2 := ne_of_none e hdx
  exact k b o (by rw [upd_ne n1, upd_ne n2]; exact e) (by simp; exact n1)
theorem made_free {H : Hp} {p dx C x : Addr} (h : (upd (upd H dx (.own p)) p (.ins C dx [])) x = none) : H x = none := by
  by_cases h1 : x = p
  · rw [h1, upd_same] at h
    cases h
  · rw [upd_ne h1] at h
    by_cases h2 : x = dx
    · rw [h2, upd_same] at h
      cases h
    · rw [upd_ne h2] at h
      exact h
def sp_endb (Ct Cw Cf Ch : Addr) : Sp := fun vs H Q _ => ∃ (X : MF) (G : Hp) (iv tg bits : Nat) (m : My.TM) (f : FS), vs = [.ref X.O.p] ∧ MAt Ct Cw Cf Ch G H X iv tg bits m f ∧ m.w.size ≤ 10000000 ∧ m.parts.length ≤ 1000000 ∧ f.bl.length ≤ 1000000 ∧
  MNext Ct Cw Cf Ch G X iv tg bits m.flush (f.endb (My.outL m.parts)) Q
theorem sc_TableWriter_end_block : FnScope ["self"] ["self"] (defScope s_TableWriter_end_block) := ⟨rfl, rfl, rfl, by decide +kernel, rfl, by decide +kernel, by decide +kernel⟩
theorem mx_endb {Ct Cw Cf Ch : Addr} (D : MethAt K Ct "end_block" "TableWriter.end_block" s_TableWriter_end_block) (T : TableWriterCls K Ct) (Cs : Consts K mg) (M_Fend : Mtx P w K mg base Cf "end_block" 1 ["self", "begin"] (sp_F_end Cf)) (M_add_part : Mtx P w K mg base Ct "add_part" 3 ["self", "content"] (sp_add_part Ct Ch))
    (M_content : Mtx P w K mg base Cw "content" 2 ["self"] (sp_W_content Cw)) (M_BlockWriter : Mkx P w K mg base "BlockWriter" Cw 1 ["self", "interval"] (sp_W_init Cw)) : Mtx P w K mg base Ct "end_block" 4 ["self"] (sp_endb Ct Cw Cf Ch) := by
  refine D.mx T.cl sc_TableWriter_end_block (fun _ _ _ _ _ _ us hl => by obtain ⟨_, rfl⟩ := ln1 hl; rfl) (fun vs H Q E h => ?_) (fun f cdv A outer s H vs Q E hr h => ?_)
  · obtain ⟨X, G, iv, tg, bits, m, f, rfl, _⟩ := h
    rfl
  · obtain ⟨X, G, iv, tg, bits, m, f, rfl, M, hsz, hpl, hbl, q⟩ := h
    refine ⟨_, (pss_cons (ps_if (pt_cmpR op_notN (pe_fld (pv 0) rfl) pe_non (nomark _)) (pss_one (ps_expr (pe_mt (pe_fld (pv 0) rfl) M_Fend (hr.mono (by decide)) (pa_cons (pe_fld (pv 0) rfl) pa_nil)))) pss_nil)
      (pss_cons (ps_fld (pv 0) (pe_mt (pv 0) M_add_part (hr.mono (by decide)) (pa_cons (pe_mt0 (pe_fld (pv 0) rfl) M_content (hr.mono (by decide)) ) pa_nil)) rfl)
      (pss_one (ps_fld (pv 0) (pe_mx M_BlockWriter (hr.mono (by decide)) rfl (pa_cons (pe_fld (pv 0) rfl) pa_nil)) rfl)))), ?_⟩
    try dsimp only [cxOf]
    refine seq_cut (t := tIfS _ _ _) (fun σ' H' => σ' = [some (.ref X.O.p)] ∧ ∃ (G1 : Hp) (X1 : MF), X1.O.p = X.O.p ∧ Same G G1 ∧ MAt Ct Cw Cf Ch G1 H' X1 iv tg bits m (f.endb (My.outL m.parts))) ?_ fun rest => ?_
    · rintro σ' H1 ⟨rfl, G1, X1, hp1, sG1, M1⟩
      have q1 : MNext Ct Cw Cf Ch G1 X1 iv tg bits m.flush (f.endb (My.outL m.parts)) Q := fun G' X' H' hp s' M' => q G' X' H' (hp.trans hp1) (sG1.trans s') M'
      rw [← hp1]
      have hob := M1.o.ob
      rw [M1.pb] at hob
      refine ⟨_, rfl, rmt hob fsM_no_add_part ⟨_, rfl, rfd hob T.cl T.nB fsM_B (rmt M1.wb.ob fsW_content ⟨X1.B, G1, iv, m.w, rfl, M1.wb, hsz, fun lc H2 s2 hlc h2 => ?_⟩)⟩⟩
      have M2 := M1.new s2 hlc h2
      have sG2 : Same G1 (upd G1 lc (.lst (vb m.w.content))) := Same.new (Same.refl _) (M1.o.sg.free hlc)
      have gc2 : (upd G1 lc (.lst (vb m.w.content))) lc = some (.lst (vb m.w.content)) := upd_same
      generalize upd G1 lc (.lst (vb m.w.content)) = G2 at M2 sG2 gc2
      refine ⟨X1.O, G2, iv, tg, m.parts, lc, m.w.content, rfl, M2.o, gc2, hpl, fun ph dh H3 hph h3 O3 k3 g3 => ?_⟩
      have M3 := M2.chO O3 hph h3 k3 rfl rfl rfl rfl rfl rfl
      have sG3 : Same G2 (upd G2 ph (.ins Ch dh (fsH ⟨My.outL m.parts, m.w.content.length⟩))) := Same.new (Same.refl _) (M2.o.sg.free hph)
      have gp3 : (upd G2 ph (.ins Ch dh (fsH ⟨My.outL m.parts, m.w.content.length⟩))) ph = some (.ins Ch dh (fsH ⟨My.outL m.parts, m.w.content.length⟩)) := upd_same
      generalize upd G2 ph (.ins Ch dh (fsH ⟨My.outL m.parts, m.w.content.length⟩)) = G3 at M3 sG3 gp3
      clear O3
      generalize hX3 : X1.wO { X1.O with ps := X1.O.ps ++ [lc] } = X3 at M3
      have hp3 : X3.O.p = X1.O.p := by rw [← hX3]; rfl
      rw [← hp3]
      refine ⟨_, rfl, rfs M3.o.ob T.cl T.nU (by show 10 < 1000; decide) ?_⟩
      rw [putM_uv]
      have M4 := M3.set X3.O.lk (.ref ph) X3.O.le M3.hk (.inr ⟨ph, dh, _, rfl, rfl, gp3⟩)
      generalize hX4 : X3.wO (X3.O.wS X3.O.lk (.ref ph) X3.O.le) = X4 at M4
      have hp4 : X4.O.p = X3.O.p := by rw [← hX4]; rfl
      generalize hH4 : upd H3 X3.O.p (.ins Ct X3.O.dx (fsM iv tg X3.O.fv X3.O.lp (My.outL (m.parts ++ [m.w.content])) X3.O.pb X3.O.lk X3.O.pi (.ref ph) X3.O.le)) = H4 at M4 ⊢
      rw [← hp4]
      refine ⟨_, rfl, rfd M4.o.ob T.cl T.nI fsM_I (fun x dx nx ndx nex => ?_)⟩
      have gx : G3 x = none := M4.o.sg.free nx
      refine ⟨x, dx, iv, G3, rfl, upd_same, M4.o.sg.trans (Same.new (Same.new (Same.refl _) ndx) (by rw [upd_ne nex.symm]; exact nx)), gx, fun B' H5 hBp W5 hfr k5 => ⟨rfl, ?_⟩⟩
      have s5 : Same H4 H5 := made_same nx ndx k5
      have hB : ∀ y ∈ B'.foot, H4 y = none := fun y hy => by
        have h : y = B'.p ∨ y = B'.lb ∨ y = B'.lr := by simpa [WF.foot] using hy
        rcases h with z | z | z
        · rw [z, hBp]; exact nx
        · rw [z]; exact made_free (hfr _ (by simp))
        · rw [z]; exact made_free (hfr _ (by simp))
      have M5 := M4.newB s5 W5 hB (made_free (hfr _ (by simp)))
      have hob5 := s5 _ _ M4.o.ob
      refine ⟨_, rfl, rfs hob5 T.cl T.nB (by show 10 < 1000; decide) ?_⟩
      rw [putM_pb, ← hBp]
      have sG5 : Same G3 (upd G3 B'.lk (.lst [])) := Same.new (Same.refl _) (M4.o.sg.free (made_free (hfr _ (by simp))))
      refine q1 _ _ _ ?_ (sG2.trans (sG3.trans sG5)) M5
      show X4.O.p = X1.O.p
      rw [hp4, hp3]
    · have hob := M.o.ob
      cases hF : X.F with
      | none =>
        have hfv := M.fv
        rw [hF] at hfv
        rw [hfv] at hob
        refine ⟨_, rfl, rfd hob T.cl T.nF fsM_F ⟨rfl, _, rfl, iteF (rest _ _ ⟨rfl, G, X, rfl, Same.refl _, ?_⟩)⟩⟩
        exact ⟨M.o, M.wb, M.wi, by rw [hF]; trivial, M.pb, M.pi, M.fv, M.fb, M.hk, M.un, M.d1, M.d2, M.d3, M.d4, M.d5, M.d6⟩
      | some F =>
        have hfv := M.fv
        rw [hF] at hfv
        have hfv : X.O.fv = .ref F.p := hfv
        rw [hfv] at hob
        have W : FAt Cf G H F bits f := by
          have := M.fo
          rw [hF] at this
          exact this
        refine ⟨_, rfl, rfd hob T.cl T.nF fsM_F ⟨rfl, _, rfl, iteT ?_⟩⟩
        refine ⟨_, rfl, rfd hob T.cl T.nF fsM_F (rmt W.ob fsF_end ⟨_, rfl, rfd hob T.cl T.nE fsM_E ⟨F, G, bits, f, My.outL m.parts, rfl, W, hbl, fun t H1 ht h1 W1 k1 => ?_⟩⟩)⟩
        have ef : ffOf X.F = F.foot := by rw [hF]; rfl
        have s1 := same_kb M.o.sg k1 fun x hx => W.gS hx
        have gt : G t = none := M.o.sg.free ht
        have sG : Same G (upd G t (.tup [.int ((My.outL m.parts : Nat) : Int), .int ((f.done.length + f.un.length : Nat) : Int)])) := Same.new (Same.refl _) gt
        refine rest _ _ ⟨rfl, _, X.wF { F with ts := F.ts ++ [t] }, rfl, sG, ?_⟩
        have d3 := M.d3
        have d5 := M.d5
        have d6 := M.d6
        rw [ef] at d3 d5 d6
        refine ⟨(M.o.kb k1 d3 s1).frz h1 gt (M.o.fresh ht), (M.wb.kb k1 d5 s1).frz h1 gt (M.wb.fresh ht), (M.wi.kb k1 d6 s1).frz h1 gt (M.wi.fresh ht), W1, M.pb, M.pi, hfv, ?_, sG _ _ M.hk, M.un.same sG, M.d1, M.d2, d3, M.d4, d5, d6⟩
        have := M.fb
        rw [hF] at this
        constructor
        · intro z; cases z
        · intro z; exact absurd (this.mpr z) (by simp)
end
end KL
set_option Elab.async false
set_option linter.all false
set_option maxRecDepth 100000
namespace KL
open PySem PySem.W PyProof.Rows L2
section
variable {P : Program} {w : World} {K : Frag} {mg : Str → Option Value} {base : Heap}
def fstep (iv tg : Nat) (m : My.TM) (f : FS) (e : Sv13.Entry) : FS := if tg ≤ (m.enter iv e).w.size then (f.put e.1).endb (My.outL m.parts) else f.put e.1
theorem put_bl (f : FS) (k : List Nat) : (f.put k).bl = f.bl := by
  unfold FS.put
  split <;> rfl
theorem vb_inj : ∀ {a b : List Nat}, vb a = vb b → a = b
  | [], [], _ => rfl
  | [], _ :: _, h => by cases h
  | _ :: _, [], h => by cases h
  | x :: a, y :: b, h => by
    have h : V.int (x : Int) :: vb a = V.int (y : Int) :: vb b := h
    injection h with h1 h2
    injection h1 with h1
    have : x = y := by omega
    rw [this, vb_inj h2]
structure PutOk (bits : Nat) (m : My.TM) (f : FS) (key val : List Nat) : Prop where
  bd : My.Bd m
  kl : key.length ≤ 100000
  vl : val.length ≤ 100000
  kb : isByte key
  ok : bits ≠ 0 → KeysOk (f.un ++ [key])
  fd : f.done.length ≤ 1000000
  fl : f.bl.length ≤ 1000000
def sp_put (Ct Cw Cf Ch : Addr) : Sp := fun vs H Q _ => ∃ (X : MF) (G : Hp) (iv tg bits : Nat) (m : My.TM) (f : FS) (k v : Addr) (key val : List Nat), vs = [.ref X.O.p, .ref k, .ref v, .int 0] ∧ MAt Ct Cw Cf Ch G H X iv tg bits m f ∧ G k = some (.lst (vb key)) ∧ G v = some (.lst (vb val)) ∧ 0 < iv ∧ PutOk bits m f key val ∧
  MNext Ct Cw Cf Ch G X iv tg bits (m.put iv tg (key, val)) (fstep iv tg m f (key, val)) Q
theorem sc_TableWriter_put : FnScope ["self", "key", "value", "known"] ["self", "key", "value", "known"] (defScope s_TableWriter_put) := ⟨rfl, rfl, rfl, by decide +kernel, rfl, by decide +kernel, by decide +kernel⟩
theorem mx_put {Ct Cw Cf Ch : Addr} (D : MethAt K Ct "put" "TableWriter.put" s_TableWriter_put) (T : TableWriterCls K Ct) (M_list_block : Mtx P w K mg base Ct "list_block" 3 ["self", "index_key"] (sp_list Ct Cw Cf Ch)) (F_key_between : Fx P w K mg base "key_between" 2 ["last", "following"] sp_key_between)
    (M_put : Mtx P w K mg base Cw "put" 2 ["self", "key", "value", "known"] (sp_W_put Cw)) (M_Fput : Mtx P w K mg base Cf "put" 5 ["self", "key"] (sp_F_put Cf)) (M_size : Mtx P w K mg base Cw "size" 1 ["self"] (sp_W_size Cw)) (M_end_block : Mtx P w K mg base Ct "end_block" 4 ["self"] (sp_endb Ct Cw Cf Ch)) :
    Mtx P w K mg base Ct "put" 6 ["self", "key", "value", "known"] (sp_put Ct Cw Cf Ch) := by
  refine D.mx T.cl sc_TableWriter_put (fun _ _ _ _ _ _ us hl => by obtain ⟨_, _, _, _, rfl⟩ := ln4 hl; rfl) (fun vs H Q E h => ?_) (fun f cdv A outer s H vs Q E hr h => ?_)
  · obtain ⟨X, G, iv, tg, bits, m, f, k, v, key, val, rfl, _⟩ := h
    rfl
  · obtain ⟨X, G, iv, tg, bits, m, f, k, v, key, val, rfl, M, hk, hv, hiv, pok, q⟩ := h
    refine ⟨_, (pss_cons (ps_if (pt_cmpR op_notN (pe_fld (pv 0) rfl) pe_non (nomark _)) (pss_one (ps_expr (pe_mt (pv 0) M_list_block (hr.mono (by decide)) (pa_cons (pe_fx F_key_between (hr.mono (by decide)) rfl (pa_cons (pe_fld (pv 0) rfl) (pa_cons (pv 1) pa_nil))) pa_nil)))) pss_nil)
      (pss_cons (ps_expr (pe_mt (pe_fld (pv 0) rfl) M_put (hr.mono (by decide)) (pa_cons (pv 1) (pa_cons (pv 2) (pa_cons (pv 3) pa_nil)))))
      (pss_cons (ps_fld (pv 0) (pv 1) rfl)
      (pss_cons (ps_if (pt_cmpR op_notN (pe_fld (pv 0) rfl) pe_non (nomark _)) (pss_one (ps_expr (pe_mt (pe_fld (pv 0) rfl) M_Fput (hr.mono (by decide)) (pa_cons (pv 1) pa_nil)))) pss_nil)
      (pss_one (ps_if (pt_cmpR op_ge (pe_mt0 (pe_fld (pv 0) rfl) M_size (hr.mono (by decide)) ) (pe_fld (pv 0) rfl) (nomark _)) (pss_one (ps_expr (pe_mt0 (pv 0) M_end_block (hr.mono (by decide)) ))) pss_nil)))))), ?_⟩
    try dsimp only [cxOf]
    have bd := pok.bd
    have b1 := bd.wb
    have b2 := bd.wl
    have b3 := pok.kl
    have b4 := pok.vl
    have b5 := bd.cnt
    refine seq_cut (t := tIfS _ _ _) (fun σ' H' => σ' = [some (.ref X.O.p), some (.ref k), some (.ref v), some (.int 0)] ∧ ∃ (G1 : Hp) (X1 : MF), X1.O.p = X.O.p ∧ Same G G1 ∧ MAt Ct Cw Cf Ch G1 H' X1 iv tg bits (m.list (Sv13.between m.last key)) f) ?_ fun rest => ?_
    · rintro σ' H1 ⟨rfl, G1, X1, hp1, sG1, M1⟩
      have q1 : MNext Ct Cw Cf Ch G1 X1 iv tg bits (m.put iv tg (key, val)) (fstep iv tg m f (key, val)) Q := fun G' X' H' hp s' M' => q G' X' H' (hp.trans hp1) (sG1.trans s') M'
      clear q M
      rw [← hp1]
      have hw : (m.list (Sv13.between m.last key)).w = m.w := by unfold My.TM.list; split <;> rfl
      have hpt : (m.list (Sv13.between m.last key)).parts = m.parts := by unfold My.TM.list; split <;> rfl
      have hun : (m.list (Sv13.between m.last key)).unl = none := by
        unfold My.TM.list
        split
        · assumption
        · rfl
      have ent : m.enter iv (key, val) = ⟨(m.list (Sv13.between m.last key)).parts, (m.list (Sv13.between m.last key)).w.put iv key val, key, (m.list (Sv13.between m.last key)).ix, (m.list (Sv13.between m.last key)).unl⟩ := by
        rw [hw, hpt, hun]
        rfl
      have eput : m.put iv tg (key, val) = if tg ≤ (m.enter iv (key, val)).w.size then (m.enter iv (key, val)).flush else m.enter iv (key, val) := rfl
      have efs : fstep iv tg m f (key, val) = if tg ≤ (m.enter iv (key, val)).w.size then (f.put key).endb (My.outL m.parts) else f.put key := rfl
      rw [eput, efs, ent, ← hpt] at q1
      have b1' : (m.list (Sv13.between m.last key)).w.body.length + 4 * (m.list (Sv13.between m.last key)).w.rs.length ≤ 2000000 := by rw [hw]; exact b1
      have b2' : (m.list (Sv13.between m.last key)).w.last.length ≤ 1000000 := by rw [hw]; exact b2
      have b5' : (m.list (Sv13.between m.last key)).parts.length ≤ 200000 := by rw [hpt]; exact b5
      clear eput efs ent hw hpt hun
      generalize m.list (Sv13.between m.last key) = m1 at M1 q1 b1' b2' b5'
      have hk1 := sG1 _ _ hk
      have hob := M1.o.ob
      rw [M1.pb] at hob
      refine ⟨_, rfl, rfd hob T.cl T.nB fsM_B (rmt M1.wb.ob fsW_put ⟨_, rfl, _, rfl, _, rfl, X1.B, G1, k, v, iv, m1.w, key, val, rfl, M1.wb, hk1, sG1 _ _ hv, hiv, by omega, by omega, b2', fun H2 W2 k2 => ?_⟩)⟩
      have M2 := M1.chB W2 k2
      generalize hX2 : X1.wB k = X2 at M2
      have hp2 : X2.O.p = X1.O.p := by rw [← hX2]; rfl
      rw [← hp2]
      refine ⟨_, rfl, _, rfl, rfs M2.o.ob T.cl T.nL (by show 10 < 1000; decide) ?_⟩
      rw [putM_lk]
      have M3 := M2.set k X2.O.uv X2.O.le hk1 M2.un
      generalize hX3 : X2.wO (X2.O.wS k X2.O.uv X2.O.le) = X3 at M3
      have hp3 : X3.O.p = X2.O.p := by rw [← hX3]; rfl
      generalize hH3 : upd H2 X2.O.p (.ins Ct X2.O.dx (fsM iv tg X2.O.fv X2.O.lp (My.outL m1.parts) X2.O.pb k X2.O.pi X2.O.uv X2.O.le)) = H3 at M3 ⊢
      have q3 : ∀ (G' : Hp) (X' : MF) (H' : Hp), X'.O.p = X3.O.p → Same G1 G' → MAt Ct Cw Cf Ch G' H' X' iv tg bits (if tg ≤ (m1.w.put iv key val).size then (⟨m1.parts, m1.w.put iv key val, key, m1.ix, m1.unl⟩ : My.TM).flush else ⟨m1.parts, m1.w.put iv key val, key, m1.ix, m1.unl⟩) (if tg ≤ (m1.w.put iv key val).size then (f.put key).endb (My.outL m1.parts) else f.put key) → Q .non H' :=
        fun G' X' H' hp s' M' => q1 G' X' H' (by rw [hp, hp3, hp2]) s' M'
      have p1 := My.put_body iv m1.w key val
      have p2 := My.put_rs iv m1.w key val
      have hsz : (m1.w.put iv key val).size ≤ 10000000 := by
        unfold My.BW.size
        omega
      generalize m1.w.put iv key val = w3 at M3 q3 hsz
      rw [← hp3]
      dsimp only
      refine seq_cut (t := tIfS _ _ _) (fun σ' H' => σ' = [some (.ref X3.O.p), some (.ref k), some (.ref v), some (.int 0)] ∧ ∃ (X4 : MF), X4.O.p = X3.O.p ∧ MAt Ct Cw Cf Ch G1 H' X4 iv tg bits ⟨m1.parts, w3, key, m1.ix, m1.unl⟩ (f.put key)) ?_ fun rest => ?_
      · rintro σ' H4 ⟨rfl, X4, hp4, M4⟩
        rw [← hp4]
        have hob4 := M4.o.ob
        rw [M4.pb] at hob4
        refine ⟨_, rfl, rfd hob4 T.cl T.nB fsM_B (rmt M4.wb.ob fsW_size ⟨X4.B, G1, iv, _, rfl, M4.wb, _, rfl, rfd hob4 T.cl T.nT fsM_T ⟨_, _, rfl, rfl, _, rfl, ?_⟩⟩)⟩
        by_cases hfull : tg ≤ w3.size
        · have c : decide ((tg : Int) ≤ ((w3.size : Nat) : Int)) = true := decide_eq_true (by omega)
          show if decide ((tg : Int) ≤ ((w3.size : Nat) : Int)) = true then _ else _
          rw [c]
          rw [if_pos hfull, if_pos hfull] at q3
          refine iteT ?_
          refine ⟨_, rfl, rmt hob4 fsM_no_end_block ⟨X4, G1, iv, tg, bits, _, _, rfl, M4, hsz, Nat.le_trans b5' (by decide), (by rw [put_bl]; exact pok.fl), fun G' X' H' hp s' M' => q3 G' X' H' (hp.trans hp4) s' M'⟩⟩
        · have c : decide ((tg : Int) ≤ ((w3.size : Nat) : Int)) = false := decide_eq_false (by omega)
          show if decide ((tg : Int) ≤ ((w3.size : Nat) : Int)) = true then _ else _
          rw [c]
          rw [if_neg hfull, if_neg hfull] at q3
          exact iteF (q3 G1 X4 H4 hp4 (Same.refl _) M4)
      · have hob3 := M3.o.ob
        cases hF : X3.F with
        | none =>
          have hfv := M3.fv
          rw [hF] at hfv
          rw [hfv] at hob3
          refine ⟨_, rfl, rfd hob3 T.cl T.nF fsM_F ⟨rfl, _, rfl, iteF (rest _ _ ⟨rfl, X3, rfl, ?_⟩)⟩⟩
          exact ⟨M3.o, M3.wb, M3.wi, by rw [hF]; trivial, M3.pb, M3.pi, M3.fv, M3.fb, M3.hk, M3.un, M3.d1, M3.d2, M3.d3, M3.d4, M3.d5, M3.d6⟩
        | some F =>
          have hfv := M3.fv
          rw [hF] at hfv
          have hfv : X3.O.fv = .ref F.p := hfv
          rw [hfv] at hob3
          have hbits : bits ≠ 0 := fun z => by
            have := M3.fb.mpr z
            rw [hF] at this
            cases this
          have W : FAt Cf G1 H3 F bits f := by
            have := M3.fo
            rw [hF] at this
            exact this
          refine ⟨_, rfl, rfd hob3 T.cl T.nF fsM_F ⟨rfl, _, rfl, iteT ?_⟩⟩
          refine ⟨_, rfl, rfd hob3 T.cl T.nF fsM_F (rmt W.ob fsF_put ⟨_, rfl, F, G1, bits, f, k, key, rfl, W, hk1, pok.ok hbits, pok.fd, fun F' H4 hpF W4 hn4 k4 g4 => ?_⟩)⟩
          exact rest _ _ ⟨rfl, X3.wF F', rfl, M3.chF hF W4 hpF hn4 k4⟩
    · have hob := M.o.ob
      rcases M.un with ⟨huv, hu⟩ | ⟨ph, dh, h, huv, hu, hph⟩
      · rw [huv] at hob
        refine ⟨_, rfl, rfd hob T.cl T.nU fsM_U ⟨rfl, _, rfl, iteF (rest _ _ ⟨rfl, G, X, rfl, Same.refl _, ?_⟩)⟩⟩
        have e : m.list (Sv13.between m.last key) = m := by unfold My.TM.list; rw [hu]
        rw [e]
        exact M
      · rw [huv] at hob
        refine ⟨_, rfl, rfd hob T.cl T.nU fsM_U ⟨rfl, _, rfl, iteT ?_⟩⟩
        have hla := bd.la
        refine ⟨_, rfl, rmt hob fsM_no_list_block ⟨_, rfl, rfd hob T.cl T.nL fsM_L ⟨_, rfl, X.O.lk, k, m.last, key, rfl, M.o.sg _ _ M.hk, M.o.sg _ _ hk, pok.kb, hla, fun l H1 s1 hl h1 => ?_⟩⟩⟩
        have hbl := My.between_le m.last key
        obtain ⟨G1, sG, M1, gl⟩ : ∃ G1, Same G G1 ∧ MAt Ct Cw Cf Ch G1 H1 X iv tg bits m f ∧ G1 l = some (.lst (vb (Sv13.between m.last key))) := by
          rcases hl with z | z
          · have e1 := s1 _ _ (M.o.sg _ _ M.hk)
            rw [z] at h1
            rw [e1] at h1
            injection h1 with h1
            injection h1 with h1
            have e2 := vb_inj h1
            refine ⟨G, Same.refl _, M.same s1, ?_⟩
            rw [z, ← e2]
            exact M.hk
          · exact ⟨_, Same.new (Same.refl _) (M.o.sg.free z), M.new s1 z h1, upd_same⟩
        exact ⟨X, G1, iv, tg, bits, m, f, l, _, h, rfl, M1, gl, hu, bd, by omega, fun G' X' H' hp s' M' => rest _ _ ⟨rfl, G', X', hp, sG.trans s', M'⟩⟩
end
end KL
set_option Elab.async false
set_option linter.all false
set_option maxRecDepth 100000
namespace KL
open PySem PySem.W PyProof.Rows L2
section
variable {P : Program} {w : World} {K : Frag} {mg : Str → Option Value} {base : Heap}
theorem pM1 {x0 : V} : putF "interval" x0 [] = [(("interval" : Str), x0)] := by
  simp (disch := decide +kernel) only [pf_nil, pf_here, pf_next]
theorem pM2 {x0 x1 : V} : putF "target" x1 [(("interval" : Str), x0)] = [(("interval" : Str), x0), (("target" : Str), x1)] := by
  simp (disch := decide +kernel) only [pf_nil, pf_here, pf_next]
theorem pM3 {x0 x1 x2 : V} : putF "filter_writer" x2 [(("interval" : Str), x0), (("target" : Str), x1)] = [(("interval" : Str), x0), (("target" : Str), x1), (("filter_writer" : Str), x2)] := by
  simp (disch := decide +kernel) only [pf_nil, pf_here, pf_next]
theorem pM4 {x0 x1 x2 x3 : V} : putF "parts" x3 [(("interval" : Str), x0), (("target" : Str), x1), (("filter_writer" : Str), x2)] = [(("interval" : Str), x0), (("target" : Str), x1), (("filter_writer" : Str), x2), (("parts" : Str), x3)] := by
  simp (disch := decide +kernel) only [pf_nil, pf_here, pf_next]
theorem pM5 {x0 x1 x2 x3 x4 : V} : putF "end" x4 [(("interval" : Str), x0), (("target" : Str), x1), (("filter_writer" : Str), x2), (("parts" : Str), x3)] = [(("interval" : Str), x0), (("target" : Str), x1), (("filter_writer" : Str), x2), (("parts" : Str), x3), (("end" : Str), x4)] := by
  simp (disch := decide +kernel) only [pf_nil, pf_here, pf_next]
theorem pM6 {x0 x1 x2 x3 x4 x5 : V} : putF "block" x5 [(("interval" : Str), x0), (("target" : Str), x1), (("filter_writer" : Str), x2), (("parts" : Str), x3), (("end" : Str), x4)] = [(("interval" : Str), x0), (("target" : Str), x1), (("filter_writer" : Str), x2), (("parts" : Str), x3), (("end" : Str), x4), (("block" : Str), x5)] := by
  simp (disch := decide +kernel) only [pf_nil, pf_here, pf_next]
theorem pM7 {x0 x1 x2 x3 x4 x5 x6 : V} : putF "last_key" x6 [(("interval" : Str), x0), (("target" : Str), x1), (("filter_writer" : Str), x2), (("parts" : Str), x3), (("end" : Str), x4), (("block" : Str), x5)] = [(("interval" : Str), x0), (("target" : Str), x1), (("filter_writer" : Str), x2), (("parts" : Str), x3), (("end" : Str), x4), (("block" : Str), x5), (("last_key" : Str), x6)] := by
  simp (disch := decide +kernel) only [pf_nil, pf_here, pf_next]
theorem pM8 {x0 x1 x2 x3 x4 x5 x6 x7 : V} : putF "index_writer" x7 [(("interval" : Str), x0), (("target" : Str), x1), (("filter_writer" : Str), x2), (("parts" : Str), x3), (("end" : Str), x4), (("block" : Str), x5), (("last_key" : Str), x6)] = [(("interval" : Str), x0), (("target" : Str), x1), (("filter_writer" : Str), x2), (("parts" : Str), x3), (("end" : Str), x4), (("block" : Str), x5), (("last_key" : Str), x6), (("index_writer" : Str), x7)] := by
  simp (disch := decide +kernel) only [pf_nil, pf_here, pf_next]
theorem pM9 {x0 x1 x2 x3 x4 x5 x6 x7 x8 : V} : putF "unlisted" x8 [(("interval" : Str), x0), (("target" : Str), x1), (("filter_writer" : Str), x2), (("parts" : Str), x3), (("end" : Str), x4), (("block" : Str), x5), (("last_key" : Str), x6), (("index_writer" : Str), x7)] = [(("interval" : Str), x0), (("target" : Str), x1), (("filter_writer" : Str), x2), (("parts" : Str), x3), (("end" : Str), x4), (("block" : Str), x5), (("last_key" : Str), x6), (("index_writer" : Str), x7), (("unlisted" : Str), x8)] := by
  simp (disch := decide +kernel) only [pf_nil, pf_here, pf_next]
theorem pM10 {x0 x1 x2 x3 x4 x5 x6 x7 x8 x9 : V} : putF "ending" x9 [(("interval" : Str), x0), (("target" : Str), x1), (("filter_writer" : Str), x2), (("parts" : Str), x3), (("end" : Str), x4), (("block" : Str), x5), (("last_key" : Str), x6), (("index_writer" : Str), x7), (("unlisted" : Str), x8)] = [(("interval" : Str), x0), (("target" : Str), x1), (("filter_writer" : Str), x2), (("parts" : Str), x3), (("end" : Str), x4), (("block" : Str), x5), (("last_key" : Str), x6), (("index_writer" : Str), x7), (("unlisted" : Str), x8), (("ending" : Str), x9)] := by
  simp (disch := decide +kernel) only [pf_nil, pf_here, pf_next]
theorem gcut {t u : L2.TS} {D : Ends} {σ : L2.St} {H : Hp} (M : L2.St → Hp → Prop) (h2 : ∀ σ' H', M σ' H' → u D σ' H') (h1 : ∀ {N : L2.St → Hp → Prop}, (∀ σ' H', M σ' H' → N σ' H') → t ⟨N, D.rt, D.bk, D.ct⟩ σ H) : tSeq t u D σ H := h1 h2
theorem kb1 {H : Hp} {p : Addr} {o : HO} : KB [p] H (L2.upd H p o) := KB.upd (KB.refl _ _) (by simp)
theorem nin1 {A : List Addr} {p : Addr} (h : p ∉ A) : ∀ x ∈ A, x ∉ [p] := by
  intro x hx z
  have e : x = p := by simpa using z
  rw [e] at hx
  exact h hx
def sp_T_init (Ct Cw Cf Ch : Addr) : Sp := fun vs H Q _ => ∃ (p dx : Addr) (iv tg bits : Nat) (G : Hp), vs = [.ref p, .int (iv : Int), .int (tg : Int), .int (bits : Int)] ∧ H p = some (.ins Ct dx []) ∧ Same G H ∧ G p = none ∧
  ∀ (G' : Hp) (X : MF) (H' : Hp), X.O.p = p → Same G G' → MAt Ct Cw Cf Ch G' H' X iv tg bits My.TM.new ⟨[], [], []⟩ → Q .non H'
theorem sc_TableWriter_init : FnScope ["self", "interval", "target", "bits"] ["self", "interval", "target", "bits"] (defScope s_TableWriter_init) := ⟨rfl, rfl, rfl, by decide +kernel, rfl, by decide +kernel, by decide +kernel⟩
theorem mx_T_init {Ct Cw Cf Ch : Addr} (D : MakeAt K mg "TableWriter" Ct "TableWriter.__init__" s_TableWriter_init) (T : TableWriterCls K Ct) (M_FilterWriter : Mkx P w K mg base "FilterWriter" Cf 1 ["self", "bits"] (sp_F_init Cf)) (M_BlockWriter : Mkx P w K mg base "BlockWriter" Cw 1 ["self", "interval"] (sp_W_init Cw)) :
    Mkx P w K mg base "TableWriter" Ct 3 ["self", "interval", "target", "bits"] (sp_T_init Ct Cw Cf Ch) := by
  refine D.mx sc_TableWriter_init (fun _ _ _ _ _ _ us hl => by obtain ⟨_, _, _, _, rfl⟩ := ln4 hl; rfl) (fun vs H Q E h => ?_) (fun f cdv A outer s H vs Q E hr h => ?_)
  · obtain ⟨p, dx, iv, tg, bits, G, rfl, _⟩ := h
    rfl
  · obtain ⟨p, dx, iv, tg, bits, G, rfl, hp, sg, gp, q⟩ := h
    refine ⟨_, (pss_cons (ps_fld (pv 0) (pv 1) rfl)
      (pss_cons (ps_fld (pv 0) (pv 2) rfl)
      (pss_cons (ps_fld (pv 0) (pe_ifExp (pt_cmpR op_gt (pv 3) pe_int (nomark _)) (pe_mx M_FilterWriter (hr.mono (by decide)) rfl (pa_cons (pv 3) pa_nil)) pe_non) rfl)
      (pss_cons (ps_fld (pv 0) (pe_lst pa_nil) rfl)
      (pss_cons (ps_fld (pv 0) pe_int rfl)
      (pss_cons (ps_fld (pv 0) (pe_mx M_BlockWriter (hr.mono (by decide)) rfl (pa_cons (pv 1) pa_nil)) rfl)
      (pss_cons (ps_fld (pv 0) (pe_lst pa_nil) rfl)
      (pss_cons (ps_fld (pv 0) (pe_mx M_BlockWriter (hr.mono (by decide)) rfl (pa_cons pe_int pa_nil)) rfl)
      (pss_cons (ps_fld (pv 0) pe_non rfl)
      (pss_one (ps_fld (pv 0) (pe_lst pa_nil) rfl))))))))))), ?_⟩
    try dsimp only [cxOf]
    refine ⟨_, rfl, _, rfl, rfs hp T.cl T.nI (by show 0 < 1000; decide) ?_⟩
    refine ⟨_, rfl, _, rfl, rfs upd_same T.cl T.nT (by rw [pM1]; show 1 < 1000; decide) ?_⟩
    rw [upd_upd, pM1, pM2]
    have s2 : Same G (upd H p (.ins Ct dx [(("interval" : Str), V.int (iv : Int)), (("target" : Str), V.int (tg : Int))])) := Same.upd sg gp
    have hp2 : (upd H p (.ins Ct dx [(("interval" : Str), V.int (iv : Int)), (("target" : Str), V.int (tg : Int))])) p = some (.ins Ct dx [(("interval" : Str), V.int (iv : Int)), (("target" : Str), V.int (tg : Int))]) := upd_same
    generalize upd H p (.ins Ct dx [(("interval" : Str), V.int (iv : Int)), (("target" : Str), V.int (tg : Int))]) = H2 at s2 hp2
    dsimp only
    refine gcut (fun σ' H' => σ' = [some (.ref p), some (.int (iv : Int)), some (.int (tg : Int)), some (.int (bits : Int))] ∧ ∃ o : Option FF, FoAt Cf G H' o bits ⟨[], [], []⟩ ∧ (o = none ↔ bits = 0) ∧ p ∉ ffOf o ∧ Same G H' ∧ H' p = some (.ins Ct dx [(("interval" : Str), V.int (iv : Int)), (("target" : Str), V.int (tg : Int)), (("filter_writer" : Str), fvOf o)])) ?_ fun rest => ?_
    · rintro σ' H3 ⟨rfl, o, W3, ho, npo, s3, hp3⟩
      -- parts, end
      refine ⟨Nat.zero_le _, fun lp hlp => ?_⟩
      have nlp : p ≠ lp := ne_of_none hp3 hlp
      refine ⟨_, rfl, rfs (by rw [upd_ne nlp]; exact hp3) T.cl T.nP (by show 3 < 1000; decide) ?_⟩
      refine ⟨_, rfl, rfs upd_same T.cl T.nE (by rw [pM4]; show 4 < 1000; decide) ?_⟩
      rw [upd_upd, pM4, pM5]
      have n4 : lp ∉ ffOf o := W3.fresh hlp
      have glp : G lp = none := s3.free hlp
      have sa : Same H3 (upd H3 lp (.lst [])) := Same.new (Same.refl _) hlp
      have s4 : Same G (upd (upd H3 lp (.lst [])) p (.ins Ct dx [(("interval" : Str), V.int (iv : Int)), (("target" : Str), V.int (tg : Int)), (("filter_writer" : Str), fvOf o), (("parts" : Str), V.ref lp), (("end" : Str), V.int 0)])) := Same.upd (s3.trans sa) gp
      have W4 := (W3.same sa).kb (kb1 (o := .ins Ct dx [(("interval" : Str), V.int (iv : Int)), (("target" : Str), V.int (tg : Int)), (("filter_writer" : Str), fvOf o), (("parts" : Str), V.ref lp), (("end" : Str), V.int 0)])) (nin1 npo) s4
      have hp4 : (upd (upd H3 lp (.lst [])) p (.ins Ct dx [(("interval" : Str), V.int (iv : Int)), (("target" : Str), V.int (tg : Int)), (("filter_writer" : Str), fvOf o), (("parts" : Str), V.ref lp), (("end" : Str), V.int 0)])) p = some (.ins Ct dx [(("interval" : Str), V.int (iv : Int)), (("target" : Str), V.int (tg : Int)), (("filter_writer" : Str), fvOf o), (("parts" : Str), V.ref lp), (("end" : Str), V.int 0)]) := upd_same
      have hl4 : (upd (upd H3 lp (.lst [])) p (.ins Ct dx [(("interval" : Str), V.int (iv : Int)), (("target" : Str), V.int (tg : Int)), (("filter_writer" : Str), fvOf o), (("parts" : Str), V.ref lp), (("end" : Str), V.int 0)])) lp = some (.lst []) := by
        rw [upd_ne nlp.symm]
        exact upd_same
      generalize upd (upd H3 lp (.lst [])) p (.ins Ct dx [(("interval" : Str), V.int (iv : Int)), (("target" : Str), V.int (tg : Int)), (("filter_writer" : Str), fvOf o), (("parts" : Str), V.ref lp), (("end" : Str), V.int 0)]) = H4 at s4 W4 hp4 hl4
      clear W3 s3 hp3
      -- block
      refine ⟨_, rfl, fun x dx' nx ndx nex => ?_⟩
      refine ⟨x, dx', iv, G, rfl, upd_same, s4.trans (Same.new (Same.new (Same.refl _) ndx) (by rw [upd_ne nex.symm]; exact nx)), s4.free nx, fun B H5 hBp WB hfr k5 => ⟨rfl, ?_⟩⟩
      have s5 : Same H4 H5 := made_same nx ndx k5
      have hBf : ∀ y ∈ B.foot, H4 y = none := fun y hy => by
        have h : y = B.p ∨ y = B.lb ∨ y = B.lr := by simpa [WF.foot] using hy
        rcases h with z | z | z
        · rw [z, hBp]; exact nx
        · rw [z]; exact made_free (hfr _ (by simp))
        · rw [z]; exact made_free (hfr _ (by simp))
      have hBl : H4 B.lk = none := made_free (hfr _ (by simp))
      have W5 := (W4.same s5).frz (WB.sg _ _ upd_same) (s4.free hBl) (W4.fresh hBl)
      have gG5 : Same G (upd G B.lk (.lst [])) := Same.new (Same.refl _) (s4.free hBl)
      have gp5 : (upd G B.lk (.lst [])) p = none := by rw [upd_ne (ne_of_none hp4 hBl)]; exact gp
      have gl5 : (upd G B.lk (.lst [])) lp = none := by rw [upd_ne (ne_of_none hl4 hBl)]; exact glp
      generalize upd G B.lk (.lst []) = G5 at WB W5 gG5 gp5 gl5
      have hp5 := s5 _ _ hp4
      have hl5 := s5 _ _ hl4
      have dBo : ∀ y ∈ B.foot, y ∉ ffOf o := fun y hy => W4.fresh (hBf y hy)
      have npB : p ∉ B.foot := fun z => by rw [hBf p z] at hp4; cases hp4
      have nlB : lp ∉ B.foot := fun z => by rw [hBf lp z] at hl4; cases hl4
      refine ⟨_, rfl, rfs hp5 T.cl T.nB (by show 5 < 1000; decide) ?_⟩
      rw [pM6]
      have k6 : KB [p] H5 (upd H5 p (.ins Ct dx [(("interval" : Str), V.int (iv : Int)), (("target" : Str), V.int (tg : Int)), (("filter_writer" : Str), fvOf o), (("parts" : Str), V.ref lp), (("end" : Str), V.int 0), (("block" : Str), V.ref x)])) := kb1
      have s6 := Same.upd (o := .ins Ct dx [(("interval" : Str), V.int (iv : Int)), (("target" : Str), V.int (tg : Int)), (("filter_writer" : Str), fvOf o), (("parts" : Str), V.ref lp), (("end" : Str), V.int 0), (("block" : Str), V.ref x)]) WB.sg gp5
      have WB6 := WB.kb k6 (nin1 npB) s6
      have W6 := W5.kb k6 (nin1 npo) s6
      have hl6 := k6 _ _ hl5 (by simp; exact nlp.symm)
      have hp6 : (upd H5 p (.ins Ct dx [(("interval" : Str), V.int (iv : Int)), (("target" : Str), V.int (tg : Int)), (("filter_writer" : Str), fvOf o), (("parts" : Str), V.ref lp), (("end" : Str), V.int 0), (("block" : Str), V.ref x)])) p = some (.ins Ct dx [(("interval" : Str), V.int (iv : Int)), (("target" : Str), V.int (tg : Int)), (("filter_writer" : Str), fvOf o), (("parts" : Str), V.ref lp), (("end" : Str), V.int 0), (("block" : Str), V.ref x)]) := upd_same
      generalize upd H5 p (.ins Ct dx [(("interval" : Str), V.int (iv : Int)), (("target" : Str), V.int (tg : Int)), (("filter_writer" : Str), fvOf o), (("parts" : Str), V.ref lp), (("end" : Str), V.int 0), (("block" : Str), V.ref x)]) = H6 at WB6 W6 hl6 hp6
      clear WB W5 hp5 hl5 k6 s6 k5
      -- last_key
      refine ⟨Nat.zero_le _, fun lk hlk => ?_⟩
      have nlk : p ≠ lk := ne_of_none hp6 hlk
      refine ⟨_, rfl, rfs (by rw [upd_ne nlk]; exact hp6) T.cl T.nL (by show 6 < 1000; decide) ?_⟩
      rw [pM7]
      have s7 : Same H6 (upd H6 lk (.lst [])) := Same.new (Same.refl _) hlk
      have glk : G5 lk = none := WB6.sg.free hlk
      have WB7 := (WB6.same s7).frz upd_same glk (WB6.fresh hlk)
      have W7 := (W6.same s7).frz upd_same glk (W6.fresh hlk)
      have gG7 : Same G5 (upd G5 lk (.lst [])) := Same.new (Same.refl _) glk
      have gp7 : (upd G5 lk (.lst [])) p = none := by rw [upd_ne nlk]; exact gp5
      have gl7 : (upd G5 lk (.lst [])) lp = none := by rw [upd_ne (ne_of_none hl6 hlk)]; exact gl5
      have gk7 : (upd G5 lk (.lst [])) lk = some (.lst []) := upd_same
      generalize upd G5 lk (.lst []) = G7 at WB7 W7 gG7 gp7 gl7 gk7
      have k8 : KB [p] (upd H6 lk (.lst [])) (upd (upd H6 lk (.lst [])) p (.ins Ct dx [(("interval" : Str), V.int (iv : Int)), (("target" : Str), V.int (tg : Int)), (("filter_writer" : Str), fvOf o), (("parts" : Str), V.ref lp), (("end" : Str), V.int 0), (("block" : Str), V.ref x), (("last_key" : Str), V.ref lk)])) := kb1
      have s8 := Same.upd (o := .ins Ct dx [(("interval" : Str), V.int (iv : Int)), (("target" : Str), V.int (tg : Int)), (("filter_writer" : Str), fvOf o), (("parts" : Str), V.ref lp), (("end" : Str), V.int 0), (("block" : Str), V.ref x), (("last_key" : Str), V.ref lk)]) WB7.sg gp7
      have WB8 := WB7.kb k8 (nin1 npB) s8
      have W8 := W7.kb k8 (nin1 npo) s8
      have hl8 := k8 _ _ (s7 _ _ hl6) (by simp; exact nlp.symm)
      have hp8 : (upd (upd H6 lk (.lst [])) p (.ins Ct dx [(("interval" : Str), V.int (iv : Int)), (("target" : Str), V.int (tg : Int)), (("filter_writer" : Str), fvOf o), (("parts" : Str), V.ref lp), (("end" : Str), V.int 0), (("block" : Str), V.ref x), (("last_key" : Str), V.ref lk)])) p = some (.ins Ct dx [(("interval" : Str), V.int (iv : Int)), (("target" : Str), V.int (tg : Int)), (("filter_writer" : Str), fvOf o), (("parts" : Str), V.ref lp), (("end" : Str), V.int 0), (("block" : Str), V.ref x), (("last_key" : Str), V.ref lk)]) := upd_same
      generalize upd (upd H6 lk (.lst [])) p (.ins Ct dx [(("interval" : Str), V.int (iv : Int)), (("target" : Str), V.int (tg : Int)), (("filter_writer" : Str), fvOf o), (("parts" : Str), V.ref lp), (("end" : Str), V.int 0), (("block" : Str), V.ref x), (("last_key" : Str), V.ref lk)]) = H8 at WB8 W8 hl8 hp8
      clear WB7 W7 WB6 W6 hl6 hp6 s7 k8 s8
      -- index_writer
      refine fun y dy ny ndy ney => ?_
      refine ⟨y, dy, 1, G7, rfl, upd_same, WB8.sg.trans (Same.new (Same.new (Same.refl _) ndy) (by rw [upd_ne ney.symm]; exact ny)), WB8.sg.free ny, fun I H9 hIp WI hfi k9 => ⟨rfl, ?_⟩⟩
      have s9 : Same H8 H9 := made_same ny ndy k9
      have hIf : ∀ z ∈ I.foot, H8 z = none := fun z hz => by
        have h : z = I.p ∨ z = I.lb ∨ z = I.lr := by simpa [WF.foot] using hz
        rcases h with e | e | e
        · rw [e, hIp]; exact ny
        · rw [e]; exact made_free (hfi _ (by simp))
        · rw [e]; exact made_free (hfi _ (by simp))
      have hIl : H8 I.lk = none := made_free (hfi _ (by simp))
      have gIl : G7 I.lk = none := WB8.sg.free hIl
      have WB9 := (WB8.same s9).frz (WI.sg _ _ upd_same) gIl (WB8.fresh hIl)
      have W9 := (W8.same s9).frz (WI.sg _ _ upd_same) gIl (W8.fresh hIl)
      have gG9 : Same G7 (upd G7 I.lk (.lst [])) := Same.new (Same.refl _) gIl
      have gp9 : (upd G7 I.lk (.lst [])) p = none := by rw [upd_ne (ne_of_none hp8 hIl)]; exact gp7
      have gl9 : (upd G7 I.lk (.lst [])) lp = none := by rw [upd_ne (ne_of_none hl8 hIl)]; exact gl7
      have gk9 := gG9 _ _ gk7
      generalize upd G7 I.lk (.lst []) = G9 at WI WB9 W9 gG9 gp9 gl9 gk9
      have hp9 := s9 _ _ hp8
      have hl9 := s9 _ _ hl8
      have dIo : ∀ z ∈ I.foot, z ∉ ffOf o := fun z hz => W8.fresh (hIf z hz)
      have dBI : ∀ z ∈ B.foot, z ∉ I.foot := fun z hz h => WB8.isS hz (hIf z h)
      have npI : p ∉ I.foot := fun z => by rw [hIf p z] at hp8; cases hp8
      have nlI : lp ∉ I.foot := fun z => by rw [hIf lp z] at hl8; cases hl8
      refine ⟨_, rfl, rfs hp9 T.cl T.nX (by show 7 < 1000; decide) ?_⟩
      rw [pM8]
      refine ⟨_, rfl, rfs upd_same T.cl T.nU (by show 8 < 1000; decide) ?_⟩
      rw [upd_upd, pM9]
      refine ⟨Nat.zero_le _, fun le hle => ?_⟩
      have nle : p ≠ le := ne_of_none upd_same hle
      refine ⟨_, rfl, rfs (by rw [upd_ne nle]; exact upd_same) T.cl T.nG (by show 9 < 1000; decide) ?_⟩
      rw [pM10]
      have kA : KB [p] H9 (upd H9 p (.ins Ct dx [(("interval" : Str), V.int (iv : Int)), (("target" : Str), V.int (tg : Int)), (("filter_writer" : Str), fvOf o), (("parts" : Str), V.ref lp), (("end" : Str), V.int 0), (("block" : Str), V.ref x), (("last_key" : Str), V.ref lk), (("index_writer" : Str), V.ref y), (("unlisted" : Str), V.non)])) := kb1
      have kB : KB [p] H9 (upd (upd (upd H9 p (.ins Ct dx [(("interval" : Str), V.int (iv : Int)), (("target" : Str), V.int (tg : Int)), (("filter_writer" : Str), fvOf o), (("parts" : Str), V.ref lp), (("end" : Str), V.int 0), (("block" : Str), V.ref x), (("last_key" : Str), V.ref lk), (("index_writer" : Str), V.ref y), (("unlisted" : Str), V.non)])) le (.lst [])) p (.ins Ct dx [(("interval" : Str), V.int (iv : Int)), (("target" : Str), V.int (tg : Int)), (("filter_writer" : Str), fvOf o), (("parts" : Str), V.ref lp), (("end" : Str), V.int 0), (("block" : Str), V.ref x), (("last_key" : Str), V.ref lk), (("index_writer" : Str), V.ref y), (("unlisted" : Str), V.non), (("ending" : Str), V.ref le)])) := KB.upd (KB.new kA hle) (by simp)
      have hpZ : (upd (upd (upd H9 p (.ins Ct dx [(("interval" : Str), V.int (iv : Int)), (("target" : Str), V.int (tg : Int)), (("filter_writer" : Str), fvOf o), (("parts" : Str), V.ref lp), (("end" : Str), V.int 0), (("block" : Str), V.ref x), (("last_key" : Str), V.ref lk), (("index_writer" : Str), V.ref y), (("unlisted" : Str), V.non)])) le (.lst [])) p (.ins Ct dx [(("interval" : Str), V.int (iv : Int)), (("target" : Str), V.int (tg : Int)), (("filter_writer" : Str), fvOf o), (("parts" : Str), V.ref lp), (("end" : Str), V.int 0), (("block" : Str), V.ref x), (("last_key" : Str), V.ref lk), (("index_writer" : Str), V.ref y), (("unlisted" : Str), V.non), (("ending" : Str), V.ref le)])) p = some (.ins Ct dx (fsM iv tg (fvOf o) lp 0 x lk y .non le)) := upd_same
      generalize upd (upd (upd H9 p (.ins Ct dx [(("interval" : Str), V.int (iv : Int)), (("target" : Str), V.int (tg : Int)), (("filter_writer" : Str), fvOf o), (("parts" : Str), V.ref lp), (("end" : Str), V.int 0), (("block" : Str), V.ref x), (("last_key" : Str), V.ref lk), (("index_writer" : Str), V.ref y), (("unlisted" : Str), V.non)])) le (.lst [])) p (.ins Ct dx [(("interval" : Str), V.int (iv : Int)), (("target" : Str), V.int (tg : Int)), (("filter_writer" : Str), fvOf o), (("parts" : Str), V.ref lp), (("end" : Str), V.int 0), (("block" : Str), V.ref x), (("last_key" : Str), V.ref lk), (("index_writer" : Str), V.ref y), (("unlisted" : Str), V.non), (("ending" : Str), V.ref le)]) = HZ at kB hpZ ⊢
      have sB := same_kb WB9.sg kB fun z hz => by
        have : z = p := by simpa using hz
        rw [this]
        exact gp9
      have M : MAt Ct Cw Cf Ch G9 HZ ⟨⟨p, dx, lp, B.p, lk, I.p, le, fvOf o, .non, []⟩, B, I, o⟩ iv tg bits My.TM.new ⟨[], [], []⟩ := by
        refine ⟨⟨?_, kB _ _ hl9 (by simp; exact nlp.symm), KeysAt.nil, gp9, gl9, sB⟩, WB9.kb kB (nin1 npB) sB, WI.kb kB (nin1 npI) sB, W9.kb kB (nin1 npo) sB, rfl, rfl, rfl, ho, gk9, .inl ⟨rfl, rfl⟩, ?_, ?_, ?_, dBI, dBo, dIo⟩
        · show HZ p = some (.ins Ct dx (fsM iv tg (fvOf o) lp 0 B.p lk I.p .non le))
          rw [hBp, hIp]
          exact hpZ
        · intro z hz
          have h : z = p ∨ z = lp := by simpa [OF.foot] using hz
          rcases h with rfl | rfl
          · exact npB
          · exact nlB
        · intro z hz
          have h : z = p ∨ z = lp := by simpa [OF.foot] using hz
          rcases h with rfl | rfl
          · exact npI
          · exact nlI
        · intro z hz
          have h : z = p ∨ z = lp := by simpa [OF.foot] using hz
          rcases h with rfl | rfl
          · exact npo
          · exact n4
      refine q G9 _ _ ?_ (gG5.trans (gG7.trans gG9)) M
      rfl
    · by_cases hb : bits = 0
      · refine ⟨_, rfl, _, _, rfl, rfl, _, rfl, ?_⟩
        rw [decide_eq_false (by omega)]
        refine iteF ?_
        refine ⟨_, rfl, rfs hp2 T.cl T.nF (by show 2 < 1000; decide) ?_⟩
        rw [pM3]
        refine rest _ _ ⟨rfl, none, trivial, ?_, (fun z => nomatch z), Same.upd s2 gp, upd_same⟩
        simp [hb]
      · refine ⟨_, rfl, _, _, rfl, rfl, _, rfl, ?_⟩
        rw [decide_eq_true (by omega)]
        refine iteT ?_
        refine ⟨_, rfl, fun x dx' nx ndx nex => ?_⟩
        refine ⟨x, dx', bits, G, rfl, upd_same, s2.trans (Same.new (Same.new (Same.refl _) ndx) (by rw [upd_ne nex.symm]; exact nx)), s2.free nx, fun F H3 hFp WF3 hfr k3 => ⟨rfl, ?_⟩⟩
        have s3 : Same H2 H3 := made_same nx ndx k3
        have npF : p ∉ F.foot := fun z => by
          have h : p = F.p ∨ p = F.lu ∨ p = F.lh ∨ p = F.lb := by simpa [FF.foot] using z
          rcases h with e | e | e | e
          · rw [e, hFp, nx] at hp2; cases hp2
          · rw [e, made_free (hfr _ (by simp))] at hp2; cases hp2
          · rw [e, made_free (hfr _ (by simp))] at hp2; cases hp2
          · rw [e, made_free (hfr _ (by simp))] at hp2; cases hp2
        refine ⟨_, rfl, rfs (s3 _ _ hp2) T.cl T.nF (by show 2 < 1000; decide) ?_⟩
        rw [pM3]
        have s4 := Same.upd (o := .ins Ct dx [(("interval" : Str), V.int (iv : Int)), (("target" : Str), V.int (tg : Int)), (("filter_writer" : Str), V.ref x)]) WF3.sg gp
        refine rest _ _ ⟨rfl, some F, WF3.kb kb1 (nin1 npF) s4, ?_, npF, s4, ?_⟩
        · simp [hb]
        · rw [upd_same, ← hFp]
          rfl
end
end KL
set_option Elab.async false
set_option linter.all false
set_option maxRecDepth 100000
namespace KL
open PySem PySem.W PyProof.Rows L2
section
variable {P : Program} {w : World} {K : Frag} {mg : Str → Option Value} {base : Heap}
def fs1 (m : My.TM) (f : FS) : FS := if 0 < m.w.n then f.endb (My.outL m.parts) else f
structure FilOk (bits : Nat) (f : FS) (bk : List (Nat × List (List Nat))) (e N : Nat) : Prop where
  un : KeysOk f.un
  all : f.done ++ f.un = allK bk
  bl : f.bl = blOf 0 bk
  hN : N = e / 2048 + (if (bk.map fun x => x.1) ≠ [] ∧ (bk.map fun x => x.1).getLastD 0 / 2048 = e / 2048 then 1 else 0)
  lt : ∀ x ∈ bk, x.1 / 2048 < N
  kn : My.keysN bk ≤ 1000000
  b20 : bits ≤ 20
  by_ : ∀ x ∈ bk, ∀ k ∈ x.2, isByte k
  len : (My.filterOf bits bk N).length ≤ 10000000
structure FinOk (bits : Nat) (m : My.TM) (f : FS) (bk : List (Nat × List (List Nat))) (N : Nat) : Prop where
  bd : My.Bd m
  bd1 : My.Bd m.fin1
  fl : f.bl.length ≤ 1000000
  ixs : m.fin.ix.size ≤ 10000000
  fil : bits ≠ 0 → FilOk bits (fs1 m f) bk (My.outL m.fin1.parts) N
def c2Of (bits : Nat) (c : List (List Nat)) (fc : List Nat) : List (List Nat) := if bits = 0 then c else c ++ [fc]
def mhOf (bits : Nat) (c : List (List Nat)) (fc : List Nat) : Option Sv13.Handle := if bits = 0 then none else some ⟨My.outL c, fc.length⟩
def mBW (iv : Nat) : Option Sv13.Handle → My.BW
  | none => My.BW.new
  | some h => My.BW.new.put iv Sv13.NAME h.bytes
theorem mBW_content (iv : Nat) (o : Option Sv13.Handle) : (mBW iv o).content = My.metaContent iv o := by cases o <;> rfl
def partsOf (iv bits : Nat) (c : List (List Nat)) (fc ixc : List Nat) : List (List Nat) := c2Of bits c fc ++ [My.metaContent iv (mhOf bits c fc)] ++ [ixc]
def endOf (iv bits : Nat) (c : List (List Nat)) (fc ixc : List Nat) : List Nat := Sv13.footer ⟨My.outL (c2Of bits c fc), (My.metaContent iv (mhOf bits c fc)).length⟩ ⟨My.outL (c2Of bits c fc ++ [My.metaContent iv (mhOf bits c fc)]), ixc.length⟩
def FinNext (Ct : Addr) (G : Hp) (p : Addr) (iv tg : Nat) (ps : List (List Nat)) (ed : List Nat) (Q : VK) : Prop := ∀ (G' : Hp) (O : OF) (H' : Hp), O.p = p → Same G G' → OAt Ct G' H' O iv tg ps → G' O.le = some (.lst (vb ed)) → Q (.int ((My.outL ps + ed.length : Nat) : Int)) H'
def sp_finish (Ct Cw Cf Ch : Addr) : Sp := fun vs H Q _ => ∃ (X : MF) (G : Hp) (iv tg bits : Nat) (m : My.TM) (f : FS) (bk : List (Nat × List (List Nat))) (N : Nat), vs = [.ref X.O.p] ∧ MAt Ct Cw Cf Ch G H X iv tg bits m f ∧ 0 < iv ∧ FinOk bits m f bk N ∧
  FinNext Ct G X.O.p iv tg (partsOf iv bits m.fin.parts (My.filterOf bits bk N) m.fin.ix.content) (endOf iv bits m.fin.parts (My.filterOf bits bk N) m.fin.ix.content) Q
theorem sc_TableWriter_finish : FnScope ["self", "meta", "filter_handle", "meta_handle", "index_handle"] ["self"] (defScope s_TableWriter_finish) := ⟨rfl, rfl, rfl, by decide +kernel, rfl, by decide +kernel, by decide +kernel⟩
theorem mBW_size (iv : Nat) (o : Option Sv13.Handle) : (mBW iv o).size ≤ 1000 := by
  cases o with
  | none =>
    show 8 ≤ 1000
    decide
  | some h =>
    have h1 := My.put_body iv My.BW.new Sv13.NAME h.bytes
    have h2 := My.put_rs iv My.BW.new Sv13.NAME h.bytes
    have h3 := My.handle_length h
    have h4 : Sv13.NAME.length = 34 := by decide
    have h5 : My.BW.new.body.length = 0 := rfl
    have h6 : My.BW.new.rs.length = 1 := rfl
    show (My.BW.new.put iv Sv13.NAME h.bytes).size ≤ 1000
    unfold My.BW.size
    omega
theorem fin1_parts (m : My.TM) : m.fin.parts = m.fin1.parts := by
  unfold My.TM.fin My.TM.list
  split <;> rfl
theorem mx_finish {Ct Cw Cf Ch : Addr} (D : MethAt K Ct "finish" "TableWriter.finish" s_TableWriter_finish) (T : TableWriterCls K Ct) (TW : BlockWriterCls K Cw) (Cs : Consts K mg) (M_end_block : Mtx P w K mg base Ct "end_block" 4 ["self"] (sp_endb Ct Cw Cf Ch)) (M_list_block : Mtx P w K mg base Ct "list_block" 3 ["self", "index_key"] (sp_list Ct Cw Cf Ch))
    (F_key_behind : Fx P w K mg base "key_behind" 1 ["last"] sp_key_behind) (M_BlockWriter : Mkx P w K mg base "BlockWriter" Cw 1 ["self", "interval"] (sp_W_init Cw)) (M_add_part : Mtx P w K mg base Ct "add_part" 3 ["self", "content"] (sp_add_part Ct Ch)) (M_Fcontent : Mtx P w K mg base Cf "content" 5 ["self", "end"] (sp_F_content Cf))
    (M_put : Mtx P w K mg base Cw "put" 2 ["self", "key", "value", "known"] (sp_W_put Cw)) (F_filter_key : Fx P w K mg base "filter_key" 1 [] sp_filter_key) (M_packed : Mtx P w K mg base Ch "packed" 2 ["self"] (sp_packed Ch)) (M_content : Mtx P w K mg base Cw "content" 2 ["self"] (sp_W_content Cw))
    (F_table_end : Fx P w K mg base "table_end" 3 ["meta", "index"] (sp_table_end Ch)) : Mtx P w K mg base Ct "finish" 6 ["self"] (sp_finish Ct Cw Cf Ch) := by
  refine D.mx T.cl sc_TableWriter_finish (fun _ _ _ _ _ _ us hl => by obtain ⟨_, rfl⟩ := ln1 hl; rfl) (fun vs H Q E h => ?_) (fun f cdv A outer s H vs Q E hr h => ?_)
  · obtain ⟨X, G, iv, tg, bits, m, f, bk, N, rfl, _⟩ := h
    rfl
  · obtain ⟨X, G, iv, tg, bits, m, f, bk, N, rfl, M, hiv, ok, q⟩ := h
    refine ⟨_, (pss_cons (ps_if (pt_cmpR op_gt (pe_fld (pe_fld (pv 0) rfl) rfl) pe_int (nomark _)) (pss_one (ps_expr (pe_mt0 (pv 0) M_end_block (hr.mono (by decide)) ))) pss_nil)
      (pss_cons (ps_if (pt_cmpR op_notN (pe_fld (pv 0) rfl) pe_non (nomark _)) (pss_one (ps_expr (pe_mt (pv 0) M_list_block (hr.mono (by decide)) (pa_cons (pe_fx F_key_behind (hr.mono (by decide)) rfl (pa_cons (pe_fld (pv 0) rfl) pa_nil)) pa_nil)))) pss_nil)
      (pss_cons (ps_set (i := 1) sc_TableWriter_finish.nd rfl (Or.inl rfl) (pe_mx M_BlockWriter (hr.mono (by decide)) rfl (pa_cons (pe_fld (pv 0) rfl) pa_nil)))
      (pss_cons (ps_if (pt_cmpR op_notN (pe_fld (pv 0) rfl) pe_non (nomark _)) (pss_cons (ps_set (i := 2) sc_TableWriter_finish.nd rfl (Or.inl rfl) (pe_mt (pv 0) M_add_part (hr.mono (by decide)) (pa_cons (pe_mt (pe_fld (pv 0) rfl) M_Fcontent (hr.mono (by decide)) (pa_cons (pe_fld (pv 0) rfl) pa_nil)) pa_nil)))
      (pss_one (ps_expr (pe_mt (pv 1) M_put (hr.mono (by decide)) (pa_cons (pe_fx0 F_filter_key (hr.mono (by decide)) rfl) (pa_cons (pe_mt0 (pv 2) M_packed (hr.mono (by decide)) ) (pa_cons pe_int pa_nil))))))) pss_nil)
      (pss_cons (ps_set (i := 3) sc_TableWriter_finish.nd rfl (Or.inl rfl) (pe_mt (pv 0) M_add_part (hr.mono (by decide)) (pa_cons (pe_mt0 (pv 1) M_content (hr.mono (by decide)) ) pa_nil)))
      (pss_cons (ps_set (i := 4) sc_TableWriter_finish.nd rfl (Or.inl rfl) (pe_mt (pv 0) M_add_part (hr.mono (by decide)) (pa_cons (pe_mt0 (pe_fld (pv 0) rfl) M_content (hr.mono (by decide)) ) pa_nil)))
      (pss_cons (ps_fld (pv 0) (pe_fx F_table_end (hr.mono (by decide)) rfl (pa_cons (pv 3) (pa_cons (pv 4) pa_nil))) rfl)
      (pss_one (ps_ret (pe_op op_add (pe_fld (pv 0) rfl) (pe_callB call_len_seq rfl Cs.nlen PySem.boot_len (pa_cons (pe_fld (pv 0) rfl) pa_nil)))))))))))), ?_⟩
    try dsimp only [cxOf]
    have bd := ok.bd
    have bd1 := ok.bd1
    refine seq_cut (t := tIfS _ _ _) (fun σ' H' => σ' = [some (.ref X.O.p), none, none, none, none] ∧ ∃ (G1 : Hp) (X1 : MF), X1.O.p = X.O.p ∧ Same G G1 ∧ MAt Ct Cw Cf Ch G1 H' X1 iv tg bits m.fin1 (fs1 m f)) ?_ fun rest => ?_
    · rintro σ' H1 ⟨rfl, G1, X1, hp1, sG1, M1⟩
      rw [← hp1] at q ⊢
      refine seq_cut (t := tIfS _ _ _) (fun σ' H' => σ' = [some (.ref X1.O.p), none, none, none, none] ∧ ∃ (G2 : Hp) (X2 : MF), X2.O.p = X1.O.p ∧ Same G1 G2 ∧ MAt Ct Cw Cf Ch G2 H' X2 iv tg bits m.fin (fs1 m f)) ?_ fun rest => ?_
      · rintro σ' H2 ⟨rfl, G2, X2, hp2, sG2, M2⟩
        rw [← hp2] at q ⊢
        have b1 := bd1.out
        have b2 := bd1.cnt
        have hfil := ok.fil
        rw [← fin1_parts] at b1 b2 hfil
        have hixs := ok.ixs
        have q2 : FinNext Ct G2 X2.O.p iv tg (partsOf iv bits m.fin.parts (My.filterOf bits bk N) m.fin.ix.content) (endOf iv bits m.fin.parts (My.filterOf bits bk N) m.fin.ix.content) Q := fun G' O H' hp s' => q G' O H' hp ((sG1.trans sG2).trans s')
        clear q M1 M bd bd1 ok
        generalize m.fin = mm at M2 q2 b1 b2 hfil hixs
        generalize fs1 m f = ff at M2 hfil
        -- a writer for the meta block
        refine ⟨_, rfl, rfd M2.o.ob T.cl T.nI fsM_I (fun x dx nx ndx nex => ?_)⟩
        refine ⟨x, dx, iv, G2, rfl, upd_same, M2.o.sg.trans (Same.new (Same.new (Same.refl _) ndx) (by rw [upd_ne nex.symm]; exact nx)), M2.o.sg.free nx, fun B H3 hBp WB hfr k3 => ⟨rfl, ?_⟩⟩
        have s3 : Same H2 H3 := made_same nx ndx k3
        have hBf : ∀ y ∈ B.foot, H2 y = none := fun y hy => by
          have h : y = B.p ∨ y = B.lb ∨ y = B.lr := by simpa [WF.foot] using hy
          rcases h with z | z | z
          · rw [z, hBp]; exact nx
          · rw [z]; exact made_free (hfr _ (by simp))
          · rw [z]; exact made_free (hfr _ (by simp))
        have hBl : H2 B.lk = none := made_free (hfr _ (by simp))
        have M3 := M2.new s3 hBl (WB.sg _ _ upd_same)
        have sG3 : Same G2 (upd G2 B.lk (.lst [])) := Same.new (Same.refl _) (M2.o.sg.free hBl)
        generalize upd G2 B.lk (.lst []) = G3 at WB M3 sG3
        have dO : ∀ y ∈ X2.O.foot, y ∉ B.foot := fun y hy z => M2.o.isS hy (hBf y z)
        have dI : ∀ y ∈ X2.I.foot, y ∉ B.foot := fun y hy z => M2.wi.isS hy (hBf y z)
        have dF : ∀ y ∈ ffOf X2.F, y ∉ B.foot := fun y hy z => M2.fo.fresh (hBf y z) hy
        have M2d := M2.d2
        refine gname_nx ?_
        dsimp only
        rw [← hBp]
        -- the filter
        refine seq_cut (t := tIfS _ _ _) (fun σ' H' => ∃ (v2 : Option V) (G4 : Hp) (O4 : OF) (lk : Addr), σ' = [some (.ref X2.O.p), some (.ref B.p), v2, none, none] ∧ O4.p = X2.O.p ∧ O4.foot = X2.O.foot ∧ O4.pi = X2.I.p ∧ Same G3 G4 ∧ OAt Ct G4 H' O4 iv tg (c2Of bits mm.parts (My.filterOf bits bk N)) ∧ WAt Cw G4 H' X2.I 1 mm.ix ∧ WAt Cw G4 H' { B with lk := lk } iv (mBW iv (mhOf bits mm.parts (My.filterOf bits bk N)))) ?_ fun rest => ?_
        · rintro σ' H4 ⟨v2, G4, O4, lk4, rfl, hp4, hf4, hi4, sG4, O4t, WI4, WB4⟩
          have hfl : bits = 0 ∨ (My.filterOf bits bk N).length ≤ 10000000 := by
            by_cases hb : bits = 0
            · exact .inl hb
            · exact .inr (hfil hb).len
          have c2b : My.outL (c2Of bits mm.parts (My.filterOf bits bk N)) ≤ 20000000 ∧ (c2Of bits mm.parts (My.filterOf bits bk N)).length ≤ 200001 := by
            unfold c2Of
            by_cases hb : bits = 0
            · rw [if_pos hb]
              omega
            · have := (hfil hb).len
              rw [if_neg hb, My.outL_snoc, List.length_append, List.length_singleton]
              omega
          unfold partsOf endOf at q2
          have hms := mBW_size iv (mhOf bits mm.parts (My.filterOf bits bk N))
          have hmc := My.content_length (mBW iv (mhOf bits mm.parts (My.filterOf bits bk N)))
          have hic := My.content_length mm.ix
          rw [← mBW_content] at q2
          generalize mBW iv (mhOf bits mm.parts (My.filterOf bits bk N)) = mw at WB4 q2 hms hmc
          generalize c2Of bits mm.parts (My.filterOf bits bk N) = c2 at O4t q2 c2b
          clear hfil hfl M3 WB M2 s3
          rw [← hp4] at q2 ⊢
          rw [← hf4] at dO
          have dOI : ∀ y ∈ O4.foot, y ∉ X2.I.foot := fun y hy z => by
            rw [hf4] at hy
            exact M2d y hy z
          -- the meta block
          refine ⟨_, rfl, rmt O4t.ob fsM_no_add_part ⟨_, rfl, rmt WB4.ob fsW_content ⟨{ B with lk := lk4 }, G4, iv, mw, rfl, WB4, by omega, fun lc H5 s5 hlc h5 => ?_⟩⟩⟩
          have gl5 := O4t.sg.free hlc
          have O5 := (O4t.same s5).frz h5 gl5 (O4t.fresh hlc)
          have WI5 := (WI4.same s5).frz h5 gl5 (WI4.fresh hlc)
          have sG5 : Same G4 (upd G4 lc (.lst (vb mw.content))) := Same.new (Same.refl _) gl5
          have gc5 : (upd G4 lc (.lst (vb mw.content))) lc = some (.lst (vb mw.content)) := upd_same
          generalize upd G4 lc (.lst (vb mw.content)) = G5 at O5 WI5 sG5 gc5
          refine ⟨O4, G5, iv, tg, c2, lc, mw.content, rfl, O5, gc5, by omega, fun pm dm H6 hpm h6 O6 k6 g6 => ?_⟩
          have s6 := same_kb O5.sg k6 fun y hy => O5.gS hy
          have gm := O5.sg.free hpm
          have WI6 := (WI5.kb k6 (dsy dOI) s6).frz h6 gm (WI5.fresh hpm)
          have sG6 : Same G5 (upd G5 pm (.ins Ch dm (fsH ⟨My.outL c2, mw.content.length⟩))) := Same.new (Same.refl _) gm
          have gm6 : (upd G5 pm (.ins Ch dm (fsH ⟨My.outL c2, mw.content.length⟩))) pm = some (.ins Ch dm (fsH ⟨My.outL c2, mw.content.length⟩)) := upd_same
          generalize upd G5 pm (.ins Ch dm (fsH ⟨My.outL c2, mw.content.length⟩)) = G6 at O6 WI6 sG6 gm6
          generalize hO6 : ({ O4 with ps := O4.ps ++ [lc] } : OF) = O6' at O6
          have hp6 : O6'.p = O4.p := by rw [← hO6]
          have hf6 : O6'.foot = O4.foot := by rw [← hO6]; rfl
          have hi6 : O6'.pi = O4.pi := by rw [← hO6]
          refine gname_nx ?_
          dsimp only
          rw [← hp6] at q2 ⊢
          -- the index
          have hob6 := O6.ob
          rw [hi6, hi4] at hob6
          refine ⟨_, rfl, rmt hob6 fsM_no_add_part ⟨_, rfl, rfd hob6 T.cl T.nX fsM_X (rmt WI6.ob fsW_content ⟨X2.I, G6, 1, mm.ix, rfl, WI6, hixs, fun ld H7 s7 hld h7 => ?_⟩)⟩⟩
          have gl7 := O6.sg.free hld
          have O7 := (O6.same s7).frz h7 gl7 (O6.fresh hld)
          have sG7 : Same G6 (upd G6 ld (.lst (vb mm.ix.content))) := Same.new (Same.refl _) gl7
          have gc7 : (upd G6 ld (.lst (vb mm.ix.content))) ld = some (.lst (vb mm.ix.content)) := upd_same
          generalize upd G6 ld (.lst (vb mm.ix.content)) = G7 at O7 sG7 gc7
          have hcl : (c2 ++ [mw.content]).length ≤ 1000000 := by rw [List.length_append, List.length_singleton]; omega
          refine ⟨O6', G7, iv, tg, c2 ++ [mw.content], ld, mm.ix.content, rfl, O7, gc7, hcl, fun pi di H8 hpi h8 O8 k8 g8 => ?_⟩
          have gi := O7.sg.free hpi
          have sG8 : Same G7 (upd G7 pi (.ins Ch di (fsH ⟨My.outL (c2 ++ [mw.content]), mm.ix.content.length⟩))) := Same.new (Same.refl _) gi
          have gi8 : (upd G7 pi (.ins Ch di (fsH ⟨My.outL (c2 ++ [mw.content]), mm.ix.content.length⟩))) pi = some (.ins Ch di (fsH ⟨My.outL (c2 ++ [mw.content]), mm.ix.content.length⟩)) := upd_same
          generalize upd G7 pi (.ins Ch di (fsH ⟨My.outL (c2 ++ [mw.content]), mm.ix.content.length⟩)) = G8 at O8 sG8 gi8
          generalize hO8 : ({ O6' with ps := O6'.ps ++ [ld] } : OF) = O8' at O8
          have hp8 : O8'.p = O6'.p := by rw [← hO8]
          refine gname_nx ?_
          dsimp only
          rw [← hp8] at q2 ⊢
          -- the end
          have gm8 : G8 pm = some (.ins Ch dm (fsH ⟨My.outL c2, mw.content.length⟩)) := sG8 _ _ (sG7 _ _ gm6)
          have ho2 : My.outL (c2 ++ [mw.content]) ≤ 30000000 := by rw [My.outL_snoc]; omega
          refine ⟨_, rfl, _, rfl, pm, pi, dm, di, _, _, rfl, O8.sg _ _ gm8, O8.sg _ _ gi8, (by show My.outL c2 ≤ 100000000; omega), (by show mw.content.length ≤ 100000000; omega), (by show My.outL (c2 ++ [mw.content]) ≤ 100000000; omega), (by show mm.ix.content.length ≤ 100000000; omega), fun le H9 s9 hle h9 => ?_⟩
          have gl9 := O8.sg.free hle
          have O9 := (O8.same s9).frz h9 gl9 (O8.fresh hle)
          have sG9 : Same G8 (upd G8 le (.lst (vb (Sv13.footer ⟨My.outL c2, mw.content.length⟩ ⟨My.outL (c2 ++ [mw.content]), mm.ix.content.length⟩)))) := Same.new (Same.refl _) gl9
          have ge9 : (upd G8 le (.lst (vb (Sv13.footer ⟨My.outL c2, mw.content.length⟩ ⟨My.outL (c2 ++ [mw.content]), mm.ix.content.length⟩)))) le = some (.lst (vb (Sv13.footer ⟨My.outL c2, mw.content.length⟩ ⟨My.outL (c2 ++ [mw.content]), mm.ix.content.length⟩))) := upd_same
          generalize upd G8 le (.lst (vb (Sv13.footer ⟨My.outL c2, mw.content.length⟩ ⟨My.outL (c2 ++ [mw.content]), mm.ix.content.length⟩))) = G9 at O9 sG9 ge9
          refine ⟨_, rfl, rfs O9.ob T.cl T.nG (by show 10 < 1000; decide) ?_⟩
          rw [putM_le]
          have OA := O9.set O8'.pb O8'.lk O8'.uv le
          have q9 := q2 G9 { O8' with pb := O8'.pb, lk := O8'.lk, uv := O8'.uv, le := le } _ rfl (sG3.trans (sG4.trans (sG5.trans (sG6.trans (sG7.trans (sG8.trans sG9)))))) OA ge9
          refine ⟨_, rfl, rfd OA.ob T.cl T.nE fsM_E ⟨_, rfl, rfd OA.ob T.cl T.nG fsM_G ⟨le, _, rfl, .inl (SqL.of (OA.sg _ _ ge9)), _, _, rfl, rfl, ?_⟩⟩⟩
          rw [Int.natCast_add] at q9
          show Q (V.int ((_ : Int) + (((vb _).length : Nat) : Int))) _
          rw [vb_length]
          exact q9
        · have hob := M3.o.ob
          cases hF : X2.F with
          | none =>
            have hb : bits = 0 := M3.fb.mp hF
            have hfv := M3.fv
            rw [hF] at hfv
            rw [hfv] at hob
            refine ⟨_, rfl, rfd hob T.cl T.nF fsM_F ⟨rfl, _, rfl, iteF (rest _ _ ⟨none, G3, X2.O, B.lk, rfl, rfl, rfl, M3.pi, Same.refl _, ?_, M3.wi, ?_⟩)⟩⟩
            · unfold c2Of
              rw [if_pos hb]
              exact M3.o
            · unfold mhOf
              rw [if_pos hb]
              exact WB
          | some F =>
            have hb : bits ≠ 0 := fun z => by
              have := M3.fb.mpr z
              rw [hF] at this
              cases this
            have fok := hfil hb
            have hfv := M3.fv
            rw [hF] at hfv
            have hfv : X2.O.fv = .ref F.p := hfv
            rw [hfv] at hob
            have ef : ffOf X2.F = F.foot := by rw [hF]; rfl
            have W : FAt Cf G3 H3 F bits ff := by
              have := M3.fo
              rw [hF] at this
              exact this
            have d3 := M3.d3
            have d6 := M3.d6
            rw [ef] at d3 d6 dF
            refine ⟨_, rfl, rfd hob T.cl T.nF fsM_F ⟨rfl, _, rfl, iteT ?_⟩⟩
            refine ⟨_, rfl, rmt hob fsM_no_add_part ⟨_, rfl, rfd hob T.cl T.nF fsM_F (rmt W.ob fsF_content ⟨_, rfl, rfd hob T.cl T.nE fsM_E ⟨F, G3, bits, ff, bk, My.outL mm.parts, N, rfl, W, fok.un, fok.all, fok.bl, fok.hN, fok.lt, by omega, fok.kn, fok.b20, fok.by_, fun lf H4 hlf h4 k4 g4 => ?_⟩⟩)⟩⟩
            have hfl := fok.len
            have s4 := same_kb M3.o.sg k4 fun y hy => W.gS hy
            have gl4 := M3.o.sg.free hlf
            have O4 := (M3.o.kb k4 d3 s4).frz h4 gl4 (M3.o.fresh hlf)
            have WI4 := (M3.wi.kb k4 d6 s4).frz h4 gl4 (M3.wi.fresh hlf)
            have WB4 := (WB.kb k4 (dsy dF) s4).frz h4 gl4 (WB.fresh hlf)
            have sG4 : Same G3 (upd G3 lf (.lst (vb (My.filterOf bits bk N)))) := Same.new (Same.refl _) gl4
            have gc4 : (upd G3 lf (.lst (vb (My.filterOf bits bk N)))) lf = some (.lst (vb (My.filterOf bits bk N))) := upd_same
            unfold c2Of mhOf at rest
            rw [if_neg hb, if_neg hb] at rest
            generalize upd G3 lf (.lst (vb (My.filterOf bits bk N))) = G4 at O4 WI4 WB4 sG4 gc4
            generalize My.filterOf bits bk N = fc at h4 gc4 hfl rest
            refine ⟨X2.O, G4, iv, tg, mm.parts, lf, fc, rfl, O4, gc4, by omega, fun ph dh H5 hph h5 O5 k5 g5 => ?_⟩
            have s5 := same_kb O4.sg k5 fun y hy => O4.gS hy
            have gl5 := O4.sg.free hph
            have WI5 := (WI4.kb k5 (dsy M3.d2) s5).frz h5 gl5 (WI4.fresh hph)
            have WB5 := (WB4.kb k5 (dsy dO) s5).frz h5 gl5 (WB4.fresh hph)
            have sG5 : Same G4 (upd G4 ph (.ins Ch dh (fsH ⟨My.outL mm.parts, fc.length⟩))) := Same.new (Same.refl _) gl5
            generalize upd G4 ph (.ins Ch dh (fsH ⟨My.outL mm.parts, fc.length⟩)) = G5 at O5 WI5 WB5 sG5
            refine gname_nx ?_
            dsimp only
            refine ⟨_, rfl, rmt WB5.ob fsW_put ⟨rfl, fun ln H6 s6 hln h6 => ?_⟩⟩
            have gl6 := O5.sg.free hln
            have O6 := (O5.same s6).frz h6 gl6 (O5.fresh hln)
            have WI6 := (WI5.same s6).frz h6 gl6 (WI5.fresh hln)
            have WB6 := (WB5.same s6).frz h6 gl6 (WB5.fresh hln)
            have sG6 : Same G5 (upd G5 ln (.lst (vb Sv13.NAME))) := Same.new (Same.refl _) gl6
            have gn6 : (upd G5 ln (.lst (vb Sv13.NAME))) ln = some (.lst (vb Sv13.NAME)) := upd_same
            generalize upd G5 ln (.lst (vb Sv13.NAME)) = G6 at O6 WI6 WB6 sG6 gn6
            have hph6 := s6 _ _ h5
            refine ⟨_, rfl, rmt hph6 fsH_packed ⟨ph, dh, _, rfl, hph6, (by show My.outL mm.parts ≤ 100000000; omega), (by show fc.length ≤ 100000000; omega), fun lq H7 s7 hlq h7 => ?_⟩⟩
            have gl7 := O6.sg.free hlq
            have O7 := (O6.same s7).frz h7 gl7 (O6.fresh hlq)
            have WI7 := (WI6.same s7).frz h7 gl7 (WI6.fresh hlq)
            have WB7 := (WB6.same s7).frz h7 gl7 (WB6.fresh hlq)
            have sG7 : Same G6 (upd G6 lq (.lst (vb (Sv13.Handle.bytes ⟨My.outL mm.parts, fc.length⟩)))) := Same.new (Same.refl _) gl7
            have gq7 : (upd G6 lq (.lst (vb (Sv13.Handle.bytes ⟨My.outL mm.parts, fc.length⟩)))) lq = some (.lst (vb (Sv13.Handle.bytes ⟨My.outL mm.parts, fc.length⟩))) := upd_same
            generalize upd G6 lq (.lst (vb (Sv13.Handle.bytes ⟨My.outL mm.parts, fc.length⟩))) = G7 at O7 WI7 WB7 sG7 gq7
            have hh20 := My.handle_length ⟨My.outL mm.parts, fc.length⟩
            have hn34 : Sv13.NAME.length = 34 := by decide
            refine ⟨B, G7, ln, lq, iv, My.BW.new, Sv13.NAME, _, rfl, WB7, sG7 _ _ gn6, gq7, hiv, ?_, (by show 1 ≤ 10000000; decide), (by show 0 ≤ 1000000; decide), fun H8 W8 k8 => ?_⟩
            · show 0 + Sv13.NAME.length + (Sv13.Handle.bytes ⟨My.outL mm.parts, fc.length⟩).length ≤ 10000000
              omega
            have s8 := W8.sg
            exact rest _ _ ⟨_, G7, { X2.O with ps := X2.O.ps ++ [lf] }, ln, rfl, rfl, rfl, M3.pi, sG4.trans (sG5.trans (sG6.trans sG7)), O7.kb k8 dO s8, WI7.kb k8 dI s8, W8⟩
      · have hob := M1.o.ob
        rcases M1.un with ⟨huv, hu⟩ | ⟨ph, dh, h, huv, hu, hph⟩
        · rw [huv] at hob
          refine ⟨_, rfl, rfd hob T.cl T.nU fsM_U ⟨rfl, _, rfl, iteF (rest _ _ ⟨rfl, G1, X1, rfl, Same.refl _, ?_⟩)⟩⟩
          have e : m.fin = m.fin1 := by
            unfold My.TM.fin My.TM.list
            rw [hu]
          rw [e]
          exact M1
        · rw [huv] at hob
          refine ⟨_, rfl, rfd hob T.cl T.nU fsM_U ⟨rfl, _, rfl, iteT ?_⟩⟩
          have hla := bd1.la
          refine ⟨_, rfl, rmt hob fsM_no_list_block ⟨_, rfl, rfd hob T.cl T.nL fsM_L ⟨X1.O.lk, m.fin1.last, rfl, M1.o.sg _ _ M1.hk, hla, fun l H2 s2 hl h2 => ?_⟩⟩⟩
          have hbl := My.behind_le m.fin1.last
          obtain ⟨G2, sG, M2, gl⟩ : ∃ G2, Same G1 G2 ∧ MAt Ct Cw Cf Ch G2 H2 X1 iv tg bits m.fin1 (fs1 m f) ∧ G2 l = some (.lst (vb (Sv13.behind m.fin1.last))) := by
            rcases hl with z | z
            · have e1 := s2 _ _ (M1.o.sg _ _ M1.hk)
              rw [z] at h2
              rw [e1] at h2
              injection h2 with h2
              injection h2 with h2
              have e2 := vb_inj h2
              refine ⟨G1, Same.refl _, M1.same s2, ?_⟩
              rw [z, ← e2]
              exact M1.hk
            · exact ⟨_, Same.new (Same.refl _) (M1.o.sg.free z), M1.new s2 z h2, upd_same⟩
          exact ⟨X1, G2, iv, tg, bits, m.fin1, fs1 m f, l, _, h, rfl, M2, gl, hu, bd1, by omega, fun G' X' H' hp s' M' => rest _ _ ⟨rfl, G', X', hp, sG.trans s', M'⟩⟩
    · have hob := M.o.ob
      rw [M.pb] at hob
      refine ⟨_, rfl, rfd hob T.cl T.nB fsM_B (rfd M.wb.ob TW.cl TW.nE fsW_entries ⟨_, _, rfl, rfl, _, rfl, ?_⟩)⟩
      have b1 := bd.wb
      have b2 := bd.cnt
      by_cases hn : 0 < m.w.n
      · have c : decide ((0 : Int) < ((m.w.n : Nat) : Int)) = true := decide_eq_true (by omega)
        rw [c]
        have e1 : m.fin1 = m.flush := by unfold My.TM.fin1; rw [if_pos hn]
        have e2 : fs1 m f = f.endb (My.outL m.parts) := by unfold fs1; rw [if_pos hn]
        rw [e1, e2] at rest
        refine iteT ⟨_, rfl, rmt hob fsM_no_end_block ⟨X, G, iv, tg, bits, m, f, rfl, M, ?_, by omega, ok.fl, fun G' X' H' hp s' M' => rest _ _ ⟨rfl, G', X', hp, s', M'⟩⟩⟩
        unfold My.BW.size
        omega
      · have c : decide ((0 : Int) < ((m.w.n : Nat) : Int)) = false := decide_eq_false (by omega)
        rw [c]
        have e1 : m.fin1 = m := by unfold My.TM.fin1; rw [if_neg hn]
        have e2 : fs1 m f = f := by unfold fs1; rw [if_neg hn]
        rw [e1, e2] at rest
        exact iteF (rest _ _ ⟨rfl, G, X, rfl, Same.refl _, M⟩)
end
end KL
set_option Elab.async false
set_option linter.all false
set_option maxRecDepth 100000
namespace KL
open PySem PySem.W PyProof.Rows L2
section
variable {P : Program} {w : World} {K : Frag} {mg : Str → Option Value} {base : Heap}
def sp_append (Ct : Addr) : Sp := fun vs H Q _ => ∃ (O : OF) (G : Hp) (iv tg : Nat) (ps : List (List Nat)) (lo : Addr) (x ed : List Nat), vs = [.ref O.p, .ref lo] ∧ OAt Ct G H O iv tg ps ∧ G O.le = some (.lst (vb ed)) ∧ H lo = some (.lst (vb x)) ∧ G lo = none ∧ lo ∉ O.foot ∧ (∀ c ∈ ps, isByte c) ∧ x.length + My.outL ps + ed.length ≤ 16000000 ∧
  ∀ H' : Hp, H' lo = some (.lst (vb (x ++ My.outB ps ++ ed))) → Same G H' → Q .non H'
theorem sc_TableWriter_append_to : FnScope ["self", "out", "part"] ["self", "out"] (defScope s_TableWriter_append_to) := ⟨rfl, rfl, rfl, by decide +kernel, rfl, by decide +kernel, by decide +kernel⟩
theorem outL_take : ∀ (ps : List (List Nat)) (i : Nat) (c : List Nat), ps[i]? = some c → My.outL (ps.take i) + (c.length + 5) ≤ My.outL ps
  | [], i, c, h => by cases h
  | y :: r, 0, c, h => by
    cases h
    show 0 + _ ≤ y.length + 5 + My.outL r
    omega
  | y :: r, i + 1, c, h => by
    have := outL_take r i c h
    show y.length + 5 + My.outL (r.take i) + _ ≤ y.length + 5 + My.outL r
    omega
theorem mx_append {Ct : Addr} (D : MethAt K Ct "append_to" "TableWriter.append_to" s_TableWriter_append_to) (T : TableWriterCls K Ct) (F_seal_of : Fx P w K mg base "seal_of" 2 ["content"] (sp_seal_of K)) : Mtx P w K mg base Ct "append_to" 3 ["self", "out"] (sp_append Ct) := by
  refine D.mx T.cl sc_TableWriter_append_to (fun _ _ _ _ _ _ us hl => by obtain ⟨_, _, rfl⟩ := ln2 hl; rfl) (fun vs H Q E h => ?_) (fun f cdv A outer s H vs Q E hr h => ?_)
  · obtain ⟨O, G, iv, tg, ps, lo, x, ed, rfl, _⟩ := h
    rfl
  · obtain ⟨O, G, iv, tg, ps, lo, x, ed, rfl, W, hed, hlo, glo, nlo, hby, hlen, q⟩ := h
    refine ⟨_, (pss_cons (ps_for PassesOwn.never rfl (pi_list (pe_fld (pv 0) rfl)) (pg_name (i := 2) sc_TableWriter_append_to.nd rfl (Or.inl rfl)) (pss_cons (ps_expr (pe_bm PySem.F.plainAttrs_list PySem.F.slot_list_extend PySem.F.type_list_extend mt_extend (pv 1) (pa_cons (pv 2) pa_nil)))
      (pss_one (ps_expr (pe_bm PySem.F.plainAttrs_list PySem.F.slot_list_extend PySem.F.type_list_extend mt_extend (pv 1) (pa_cons (pe_fx F_seal_of (hr.mono (by decide)) rfl (pa_cons (pv 2) pa_nil)) pa_nil))))))
      (pss_one (ps_expr (pe_bm PySem.F.plainAttrs_list PySem.F.slot_list_extend PySem.F.type_list_extend mt_extend (pv 1) (pa_cons (pe_fld (pv 0) rfl) pa_nil))))), ?_⟩
    try dsimp only [cxOf]
    have dO : ∀ y ∈ O.foot, y ∉ [lo] := nin1 nlo
    have hpl : (O.ps.map V.ref).length = ps.length := by rw [List.length_map, W.pa.1]
    refine ⟨_, rfl, rfd W.ob T.cl T.nP fsM_P ⟨O.lp, rfl, ⟨_, SqL.of W.hp⟩, for_list (K := K) (a := O.lp) (xs := O.ps.map V.ref) (fun i σ H2 => KB [lo] H H2 ∧ Same G H2 ∧ H2 lo = some (.lst (vb (x ++ My.outB (ps.take i)))) ∧ ∃ v, σ = [some (.ref O.p), some (.ref lo), v])
      ⟨KB.refl _ _, W.sg, ?_, none, rfl⟩ (fun i σ H2 _ ⟨k, s2, _⟩ => SqL.of (W.kb k dO s2).hp) ?_ ?_⟩⟩
    · rw [List.take_zero]
      show _ = some (HO.lst (vb (x ++ [])))
      rw [List.append_nil]
      exact hlo
    · rintro i v σ H2 hv ⟨k2, s2, h2, v2, rfl⟩
      obtain ⟨r, hr', rfl⟩ := ref_get hv
      have hi : i < ps.length := by rw [← W.pa.1]; exact (List.getElem?_eq_some_iff.mp hr').1
      have hci : ps[i]? = some ps[i] := List.getElem?_eq_getElem hi
      have hcb := hby ps[i] (List.getElem_mem _)
      have hl := outL_take ps i _ hci
      generalize ps[i] = c at hci hcb hl
      have gr := W.pa.2 i r c hr' hci
      have hol := My.outB_length (ps.take i)
      have nr : r ≠ lo := ne_of_none gr glo
      refine ⟨_, rfl, .inl ⟨rfl, _, SqL.of h2⟩, _, rfl, lo, r, _, _, rfl, rfl, h2, s2 _ _ gr, le_size (by rw [vb_length, vb_length, List.length_append]; omega), ?_⟩
      rw [← vb_append]
      have s3 : Same G (upd H2 lo (.lst (vb (x ++ My.outB (ps.take i) ++ c)))) := Same.upd s2 glo
      have k3 : KB [lo] H (upd H2 lo (.lst (vb (x ++ My.outB (ps.take i) ++ c)))) := KB.upd k2 (by simp)
      have h3 : (upd H2 lo (.lst (vb (x ++ My.outB (ps.take i) ++ c)))) lo = some (.lst (vb (x ++ My.outB (ps.take i) ++ c))) := upd_same
      generalize upd H2 lo (.lst (vb (x ++ My.outB (ps.take i) ++ c))) = H3 at s3 k3 h3
      refine ⟨_, rfl, .inl ⟨rfl, _, SqL.of h3⟩, _, rfl, r, c, rfl, SqL.of (s3 _ _ gr), hcb, fun l4 H4 s4 hl4 h4 => ?_⟩
      refine ⟨lo, l4, _, _, rfl, rfl, s4 _ _ h3, h4, le_size (by rw [vb_length, vb_length, List.length_append, List.length_append, List.length_cons, My.little_length]; omega), ?_⟩
      refine ⟨KB.upd (k3.trans (KB.of s4)) (by simp), Same.upd (s3.trans s4) glo, ?_, _, rfl⟩
      rw [upd_same, ← vb_append, List.take_succ, hci]
      show _ = some (HO.lst (vb (x ++ My.outB (ps.take i ++ [c]))))
      rw [My.outB_snoc, List.append_assoc, List.append_assoc]
      rfl
    · rintro σ H2 ⟨k2, s2, h2, v2, rfl⟩
      rw [hpl, List.take_length] at h2
      have W2 := W.kb k2 dO s2
      have hol := My.outB_length ps
      refine ⟨_, rfl, .inl ⟨rfl, _, SqL.of h2⟩, _, rfl, rfd W2.ob T.cl T.nG fsM_G ⟨lo, O.le, _, _, rfl, rfl, h2, s2 _ _ hed, le_size (by rw [vb_length, vb_length, List.length_append]; omega), ?_⟩⟩
      refine q _ ?_ (Same.upd s2 glo)
      rw [upd_same, ← vb_append]
def tabAns (most : Int) (tb : List Nat) : List V := if most < (tb.length : Int) then [.int (-7)] else V.int (tb.length : Int) :: vb tb
def sp_finished (Ct Cw Cf Ch : Addr) : Sp := fun vs H Q _ => ∃ (X : MF) (G : Hp) (iv tg bits : Nat) (m : My.TM) (f : FS) (bk : List (Nat × List (List Nat))) (N : Nat) (most : Int) (ps : List (List Nat)) (ed : List Nat), vs = [.ref X.O.p, .int most] ∧ MAt Ct Cw Cf Ch G H X iv tg bits m f ∧ 0 < iv ∧ FinOk bits m f bk N ∧
  partsOf iv bits m.fin.parts (My.filterOf bits bk N) m.fin.ix.content = ps ∧ endOf iv bits m.fin.parts (My.filterOf bits bk N) m.fin.ix.content = ed ∧ (∀ c ∈ ps, isByte c) ∧ My.outL ps + ed.length ≤ 15000000 ∧
  ∀ (la : Addr) (H' : Hp), Same G H' → G la = none → H' la = some (.lst (tabAns most (My.outB ps ++ ed))) → Q (.ref la) H'
theorem sc_finished_table : FnScope ["writer", "most", "total", "answer"] ["writer", "most"] (defScope s_finished_table) := ⟨rfl, rfl, rfl, by decide +kernel, rfl, by decide +kernel, by decide +kernel⟩
theorem fx_finished {Ct Cw Cf Ch : Addr} (D : DefAt K mg "finished_table" s_finished_table) (C : Consts K mg) (M_finish : Mtx P w K mg base Ct "finish" 6 ["self"] (sp_finish Ct Cw Cf Ch)) (M_append_to : Mtx P w K mg base Ct "append_to" 3 ["self", "out"] (sp_append Ct)) : Fx P w K mg base "finished_table" 7 ["writer", "most"] (sp_finished Ct Cw Cf Ch) := by
  refine D.fx sc_finished_table (fun _ _ _ _ _ _ us hl => by obtain ⟨_, _, rfl⟩ := ln2 hl; rfl) (fun vs H Q E h => ?_) (fun f cdv A outer s H vs Q E hr h => ?_)
  · obtain ⟨X, G, iv, tg, bits, m, f, bk, N, most, ps, ed, rfl, _⟩ := h
    rfl
  · obtain ⟨X, G, iv, tg, bits, m, f, bk, N, most, ps, ed, rfl, M, hiv, ok, hps, hed, hby, hlen, q⟩ := h
    refine ⟨_, (pss_cons (ps_set (i := 2) sc_finished_table.nd rfl (Or.inl rfl) (pe_mt0 (pv 0) M_finish (hr.mono (by decide)) ))
      (pss_cons (ps_if (pt_cmpR op_gt (pv 2) (pv 1) (nomark _)) (pss_one (ps_ret (pe_lst (pa_cons (pe_gint rfl C.TOO_LONG) pa_nil)))) pss_nil)
      (pss_cons (ps_set (i := 3) sc_finished_table.nd rfl (Or.inl rfl) (pe_lst (pa_cons (pv 2) pa_nil)))
      (pss_cons (ps_expr (pe_mt (pv 0) M_append_to (hr.mono (by decide)) (pa_cons (pv 3) pa_nil)))
      (pss_one (ps_ret (pv 3))))))), ?_⟩
    try dsimp only [cxOf]
    have hol : (My.outB ps ++ ed).length = My.outL ps + ed.length := by rw [List.length_append, My.outB_length]
    refine ⟨_, rfl, rmt M.o.ob fsM_no_finish ⟨X, G, iv, tg, bits, m, f, bk, N, rfl, M, hiv, ok, fun G1 O H1 hp sG W hle => ?_⟩⟩
    rw [hps] at W
    rw [hed] at hle
    rw [hps, hed, ← hol]
    rw [← hol] at hlen
    unfold tabAns at q
    refine gname_nx ?_
    refine ⟨_, rfl, _, rfl, _, _, rfl, rfl, _, rfl, ?_⟩
    by_cases hm : most < ((My.outB ps ++ ed).length : Int)
    · rw [decide_eq_true hm]
      rw [if_pos hm] at q
      refine iteT ⟨(by show 1 ≤ sizeLine; decide), fun la hla => ?_⟩
      have s1 := (sG.trans W.sg).trans (Same.new (o := .lst [V.int (-7)]) (Same.refl _) hla)
      exact q la _ s1 ((sG.trans W.sg).free hla) upd_same
    · rw [decide_eq_false hm]
      rw [if_neg hm] at q
      refine iteF ⟨_, rfl, (by show 1 ≤ sizeLine; decide), fun la hla => ?_⟩
      have s1 : Same H1 (upd H1 la (.lst [V.int ((My.outB ps ++ ed).length : Int)])) := Same.new (Same.refl _) hla
      have W1 := W.same s1
      have gla := W.sg.free hla
      have hob := W1.ob
      rw [hp] at hob
      refine ⟨_, rfl, rmt hob fsM_no_append_to ⟨_, rfl, O, G1, iv, tg, ps, la, [(My.outB ps ++ ed).length], ed, by rw [hp]; rfl, W1, hle, upd_same, gla, W.fresh hla, hby, ?_, fun H2 h2 s2 => ?_⟩⟩
      · rw [hol] at hlen
        show 1 + My.outL ps + ed.length ≤ 16000000
        omega
      · refine ⟨_, rfl, q la H2 (sG.trans s2) (sG.free gla) ?_⟩
        rw [h2, List.append_assoc, vb_append]
        rfl
end
end KL
set_option Elab.async false
set_option linter.all false
set_option maxRecDepth 100000
namespace KL
open PySem PySem.W PyProof.Rows L2
section
variable {P : Program} {w : World} {K : Frag} {mg : Str → Option Value} {base : Heap}
theorem ref_last {rs : List Addr} {r : Addr} (h : rs.getLast? = some r) : atI (rs.map V.ref) (-1) = some (V.ref r) := atI_last (by rw [List.getLast?_map, h]; rfl)
def All2 {α : Type} (R : Addr → α → Prop) (rs : List Addr) (xs : List α) : Prop := rs.length = xs.length ∧ ∀ (i : Nat) (r : Addr) (x : α), rs[i]? = some r → xs[i]? = some x → R r x
theorem All2.imp {α : Type} {R S : Addr → α → Prop} {rs : List Addr} {xs : List α} (h : All2 R rs xs) (f : ∀ r x, R r x → S r x) : All2 S rs xs := ⟨h.1, fun i r x a b => f r x (h.2 i r x a b)⟩
theorem All2.nil {α : Type} {R : Addr → α → Prop} : All2 R [] [] := ⟨rfl, fun i r x h => by cases h⟩
theorem All2.snoc {α : Type} {R : Addr → α → Prop} {rs : List Addr} {xs : List α} {r : Addr} {x : α} (k : All2 R rs xs) (h : R r x) : All2 R (rs ++ [r]) (xs ++ [x]) := by
  refine ⟨by rw [List.length_append, List.length_append, k.1]; rfl, fun i a y h1 h2 => ?_⟩
  by_cases hi : i < rs.length
  · rw [List.getElem?_append_left hi] at h1
    rw [List.getElem?_append_left (by rw [← k.1]; exact hi)] at h2
    exact k.2 i a y h1 h2
  · have hi' : rs.length ≤ i := by omega
    rw [List.getElem?_append_right hi'] at h1
    rw [List.getElem?_append_right (by rw [← k.1]; exact hi'), ← k.1] at h2
    cases hz : i - rs.length with
    | zero =>
      rw [hz] at h1 h2
      cases h1
      cases h2
      exact h
    | succ n =>
      rw [hz] at h1
      cases h1
theorem All2.at {α : Type} {R : Addr → α → Prop} {rs : List Addr} {xs : List α} (h : All2 R rs xs) {i : Nat} {r : Addr} (hr : rs[i]? = some r) : ∃ x, xs[i]? = some x ∧ R r x := by
  have hi : i < xs.length := by
    rw [← h.1]
    exact (List.getElem?_eq_some_iff.mp hr).1
  exact ⟨xs[i], List.getElem?_eq_getElem hi, h.2 i r _ hr (List.getElem?_eq_getElem hi)⟩
def EntAt (H : Hp) (t : Addr) (e : Sv13.Entry) : Prop := ∃ k v, H t = some (.tup [.ref k, .ref v]) ∧ H k = some (.lst (vb e.1)) ∧ H v = some (.lst (vb e.2))
theorem EntAt.same {H H' : Hp} {t : Addr} {e : Sv13.Entry} (h : EntAt H t e) (s : Same H H') : EntAt H' t e := by
  obtain ⟨k, v, h1, h2, h3⟩ := h
  exact ⟨k, v, s _ _ h1, s _ _ h2, s _ _ h3⟩
def sp_entries_of_k1 (rows : List Nat) (H : Hp) (Q : VK) : Prop := (∀ l, My.entriesM rows = some l → My.wt l ≤ rows.length → (∀ e ∈ l, isByte e.1 ∧ isByte e.2) → ∀ (lE : Addr) (ts : List Addr) (H' : Hp), Same H H' → H lE = none → H' lE = some (.lst (ts.map V.ref)) → All2 (EntAt H') ts l → Q (.ref lE) H')
def sp_entries_of (K : Frag) : Sp := fun vs H Q _ => ∃ (a : Addr) (rows : List Nat), vs = [.ref a] ∧ SqL K H a (vb rows) ∧ isByte rows ∧ rows.length ≤ 1000000 ∧ (My.entriesM rows = none → ∀ H', Same H H' → Q .non H') ∧ sp_entries_of_k1 rows H Q
theorem sc_entries_of : FnScope ["rows", "entries", "begin", "key_begin", "value_begin", "end", "key"] ["rows"] (defScope s_entries_of) := ⟨rfl, rfl, rfl, by decide +kernel, rfl, by decide +kernel, by decide +kernel⟩
theorem rising_last {es : List Sv13.Entry} {last e : Sv13.Entry} (h : es.getLast? = some last) : Sv13.rising ((es ++ [e]).map fun e => e.1) = (Sv13.rising (es.map fun e => e.1) && Sv13.before last.1 e.1) := by
  rcases My.snoc_cases es with q | ⟨r, x, q⟩
  · rw [q] at h; cases h
  · subst q
    have : x = last := by simpa using h
    subst this
    rw [List.map_append, List.map_append]
    exact My.rising_snoc (r.map fun e => e.1) x.1 e.1
theorem fx_entries_of (D : DefAt K mg "entries_of" s_entries_of) (C : Consts K mg) (F_number_at : Fx P w K mg base "number_at" 1 ["data", "begin", "width"] (sp_number_at K)) : Fx P w K mg base "entries_of" 2 ["rows"] (sp_entries_of K) := by
  refine D.fx sc_entries_of (fun _ _ _ _ _ _ us hl => by obtain ⟨_, rfl⟩ := ln1 hl; rfl) (fun vs H Q E h => ?_) (fun f cdv A outer s H vs Q E hr h => ?_)
  · obtain ⟨a, rows, rfl, _⟩ := h
    rfl
  · obtain ⟨a, rows, rfl, ha, hby, hlen, qn, qs⟩ := h
    refine ⟨_, (pss_cons (ps_set (i := 1) sc_entries_of.nd rfl (Or.inl rfl) (pe_lst pa_nil))
      (pss_cons (ps_set (i := 2) sc_entries_of.nd rfl (Or.inl rfl) pe_int)
      (pss_cons (ps_while PassesOwn.never (pt_cmpR op_lt (pv 2) (pe_callB call_len_seq rfl C.nlen PySem.boot_len (pa_cons (pv 0) pa_nil)) (nomark _)) (pss_cons (ps_set (i := 3) sc_entries_of.nd rfl (Or.inl rfl) (pe_op op_add (pe_op op_add (pv 2) (pe_gint rfl C.KEY_WIDTH)) (pe_gint rfl C.VALUE_WIDTH)))
      (pss_cons (ps_if (pt_cmpR op_gt (pv 3) (pe_callB call_len_seq rfl C.nlen PySem.boot_len (pa_cons (pv 0) pa_nil)) (nomark _)) (pss_one (ps_ret pe_non)) pss_nil)
      (pss_cons (ps_set (i := 4) sc_entries_of.nd rfl (Or.inl rfl) (pe_op op_add (pv 3) (pe_fx F_number_at (hr.mono (by decide)) rfl (pa_cons (pv 0) (pa_cons (pv 2) (pa_cons (pe_gint rfl C.KEY_WIDTH) pa_nil))))))
      (pss_cons (ps_set (i := 5) sc_entries_of.nd rfl (Or.inl rfl) (pe_op op_add (pv 4) (pe_fx F_number_at (hr.mono (by decide)) rfl (pa_cons (pv 0) (pa_cons (pe_op op_add (pv 2) (pe_gint rfl C.KEY_WIDTH)) (pa_cons (pe_gint rfl C.VALUE_WIDTH) pa_nil))))))
      (pss_cons (ps_if (pt_cmpR op_gt (pv 5) (pe_callB call_len_seq rfl C.nlen PySem.boot_len (pa_cons (pv 0) pa_nil)) (nomark _)) (pss_one (ps_ret pe_non)) pss_nil)
      (pss_cons (ps_set (i := 6) sc_entries_of.nd rfl (Or.inl rfl) (pe_slice sl_list (pv 0) (po_some (pv 3)) (po_some (pv 4))))
      (pss_cons (ps_if (PW.pt (pw_and (pt_cmpR (op_neE hr.units0) (pv 1) (pe_lst pa_nil) (nomark _)) (pw_and1 (pt_cmpR (op_leL hr.units0) (pv 6) (pe_ix ix_tup (pe_ix ix_list (pv 1) (pe_un un_neg pe_int) (fun _ _ => rfl)) pe_int (fun _ _ => rfl)) (nomark _))))) (pss_one (ps_ret pe_non)) pss_nil)
      (pss_cons (ps_expr (pe_bm PySem.F.plainAttrs_list PySem.F.slot_list_append PySem.F.type_list_append mt_append (pv 1) (pa_cons (pe_tup (pa_cons (pv 6) (pa_cons (pe_slice sl_list (pv 0) (po_some (pv 4)) (po_some (pv 5))) pa_nil))) pa_nil)))
      (pss_one (ps_set (i := 2) sc_entries_of.nd rfl (Or.inl rfl) (pv 5))))))))))))
      (pss_one (ps_ret (pv 1)))))), ?_⟩
    try dsimp only [cxOf]
    refine ⟨Nat.zero_le _, fun lE hlE => ?_⟩
    refine ⟨fun m σ H2 => ∃ (G : Hp) (ts : List Addr) (es : List Sv13.Entry) (at_ : Nat) (v3 v4 v5 v6 : Option V), m = rows.length - at_ ∧ My.RowsAt rows es at_ ∧ Sv13.rising (es.map fun e => e.1) = true ∧ Same H G ∧ Same G H2 ∧ G lE = none ∧ H2 lE = some (.lst (ts.map V.ref)) ∧ All2 (EntAt G) ts es ∧
        σ = [some (.ref a), some (.ref lE), some (.int (at_ : Int)), v3, v4, v5, v6],
      ⟨_, H, [], [], 0, none, none, none, none, rfl, My.rowsAt_start rows, rfl, Same.refl H, Same.new (Same.refl H) hlE, hlE, upd_same, All2.nil, rfl⟩, ?_⟩
    rintro m σ H2 ⟨G, ts, es, at_, v3, v4, v5, v6, rfl, R, hris, s1, s2, gE, hE, hes, rfl⟩
    have sH2 := s1.trans s2
    have ha2 := sH2.seq ha
    have el : (((vb rows).length : Nat) : Int) = (rows.length : Int) := by rw [vb_length]
    have hle := R.le
    refine ⟨_, rfl, _, rfl, a, _, rfl, .inl ha2, _, _, rfl, rfl, _, rfl, ?_⟩
    by_cases hat : at_ < rows.length
    · have c : decide ((at_ : Int) < (((vb rows).length : Nat) : Int)) = true := decide_eq_true (by rw [el]; omega)
      rw [c]
      refine iteT ⟨fun σ' H' => ∃ m', m' < rows.length - at_ ∧ ∃ (G : Hp) (ts : List Addr) (es : List Sv13.Entry) (at_ : Nat) (v3 v4 v5 v6 : Option V), m' = rows.length - at_ ∧ My.RowsAt rows es at_ ∧ Sv13.rising (es.map fun e => e.1) = true ∧ Same H G ∧ Same G H' ∧ G lE = none ∧ H' lE = some (.lst (ts.map V.ref)) ∧ All2 (EntAt G) ts es ∧
        σ' = [some (.ref a), some (.ref lE), some (.int (at_ : Int)), v3, v4, v5, v6], fun σ' H' h => h, ?_⟩
      refine ⟨_, rfl, _, _, rfl, rfl, _, _, rfl, rfl, ?_⟩
      refine ⟨_, rfl, _, rfl, a, _, rfl, .inl ha2, _, _, rfl, rfl, _, rfl, ?_⟩
      by_cases h6 : rows.length < at_ + 6
      · have c1 : decide ((((vb rows).length : Nat) : Int) < (at_ : Int) + 2 + 4) = true := decide_eq_true (by rw [el]; omega)
        rw [c1]
        refine iteT ?_
        exact qn (My.entriesM_none (My.rowsAt_short R hat h6)) H2 sH2
      · have c1 : decide ((((vb rows).length : Nat) : Int) < (at_ : Int) + 2 + 4) = false := decide_eq_false (by rw [el]; omega)
        rw [c1]
        refine iteF ?_
        have e6 : (at_ : Int) + 2 + 4 = ((at_ + 6 : Nat) : Int) := by omega
        have e2 : (at_ : Int) + 2 = ((at_ + 2 : Nat) : Int) := by omega
        refine ⟨_, rfl, _, rfl, _, rfl, a, rows, at_, 2, rfl, ha2, hby, by omega, by decide, _, _, rfl, rfl, ?_⟩
        refine ⟨_, rfl, _, rfl, _, rfl, _, _, rfl, rfl, a, rows, at_ + 2, 4, ?_, ha2, hby, by omega, by decide, _, _, rfl, rfl, ?_⟩
        · show [V.ref a, V.int ((at_ : Int) + 2), V.int 4] = _
          rw [e2]
          rfl
        obtain ⟨kl, hkl⟩ : ∃ kl, kl = My.klen rows at_ := ⟨_, rfl⟩
        obtain ⟨vl, hvl⟩ : ∃ vl, vl = My.vlen rows at_ := ⟨_, rfl⟩
        have ek : (at_ : Int) + 2 + 4 + ((Sv13.ofLittle (Sv13.slice rows at_ 2) : Nat) : Int) = ((at_ + 6 + kl : Nat) : Int) := by
          rw [hkl]
          unfold My.klen
          omega
        have ev : (at_ : Int) + 2 + 4 + ((Sv13.ofLittle (Sv13.slice rows at_ 2) : Nat) : Int) + ((Sv13.ofLittle (Sv13.slice rows (at_ + 2) 4) : Nat) : Int) = ((at_ + 6 + kl + vl : Nat) : Int) := by
          rw [hkl, hvl]
          unfold My.klen My.vlen
          omega
        refine ⟨_, rfl, _, rfl, a, _, rfl, .inl ha2, _, _, rfl, rfl, _, rfl, ?_⟩
        by_cases hend : rows.length < at_ + 6 + kl + vl
        · have c2 : decide ((((vb rows).length : Nat) : Int) < (at_ : Int) + 2 + 4 + ((Sv13.ofLittle (Sv13.slice rows at_ 2) : Nat) : Int) + ((Sv13.ofLittle (Sv13.slice rows (at_ + 2) 4) : Nat) : Int)) = true := decide_eq_true (by rw [el, ev]; omega)
          rw [c2]
          refine iteT ?_
          exact qn (My.entriesM_none (My.rowsAt_bad R hat (by rw [← hkl, ← hvl]; omega))) H2 sH2
        · have c2 : decide ((((vb rows).length : Nat) : Int) < (at_ : Int) + 2 + 4 + ((Sv13.ofLittle (Sv13.slice rows at_ 2) : Nat) : Int) + ((Sv13.ofLittle (Sv13.slice rows (at_ + 2) 4) : Nat) : Int)) = false := decide_eq_false (by rw [el, ev]; omega)
          rw [c2]
          refine iteF ?_
          have Rn := My.rowsAt_step R hat (by rw [← hkl, ← hvl]; omega)
          rw [← hkl, ← hvl] at Rn
          generalize hkey : Sv13.slice rows (at_ + 6) kl = key at Rn
          generalize hval : Sv13.slice rows (at_ + 6 + kl) vl = val at Rn
          refine ⟨_, rfl, _, rfl, _, rfl, _, rfl, _, rfl, a, _, rfl, ha2, fun lk hlk => ?_⟩
          have ecut : cutV (vb rows) (some ((at_ : Int) + 2 + 4)) (some ((at_ : Int) + 2 + 4 + ((Sv13.ofLittle (Sv13.slice rows at_ 2) : Nat) : Int))) = vb key := by
            rw [ek, e6, cut_both (by omega) (by rw [vb_length]; omega), ← hkey, vb_slice]
            congr 1
            omega
          rw [ecut]
          have s3 : Same H2 (upd H2 lk (.lst (vb key))) := Same.new (Same.refl _) hlk
          -- the entry is put behind the others
          have go : ∀ H3 : Hp, Same (upd H2 lk (.lst (vb key))) H3 → Sv13.rising ((es ++ [(key, val)]).map fun e => e.1) = true →
              tSeq (tDrop (tBM K "list" rAppend (tVar 1) (tCons (tTup (tCons (tVar 6) (tCons (tSl (rSlL K) (tVar 0) (tPart (tVar 4)) (tPart (tVar 5))) tNil))) tNil))) (tAsg (tVar 5) (gName 2))
                { nx := fun σ' H' => ∃ m', m' < rows.length - at_ ∧ ∃ (G : Hp) (ts : List Addr) (es : List Sv13.Entry) (at_ : Nat) (v3 v4 v5 v6 : Option V), m' = rows.length - at_ ∧ My.RowsAt rows es at_ ∧ Sv13.rising (es.map fun e => e.1) = true ∧ Same H G ∧ Same G H' ∧ G lE = none ∧ H' lE = some (.lst (ts.map V.ref)) ∧ All2 (EntAt G) ts es ∧
                    σ' = [some (.ref a), some (.ref lE), some (.int (at_ : Int)), v3, v4, v5, v6], rt := Q }
                [some (.ref a), some (.ref lE), some (.int (at_ : Int)), some (.int ((at_ : Int) + 2 + 4)), some (.int ((at_ : Int) + 2 + 4 + ((Sv13.ofLittle (Sv13.slice rows at_ 2) : Nat) : Int))), some (.int ((at_ : Int) + 2 + 4 + ((Sv13.ofLittle (Sv13.slice rows at_ 2) : Nat) : Int) + ((Sv13.ofLittle (Sv13.slice rows (at_ + 2) 4) : Nat) : Int))), some (.ref lk)] H3 := by
            intro H3 s4 hr9
            have s5 := s3.trans s4
            have hE3 := s5 _ _ hE
            refine ⟨_, rfl, .inl ⟨rfl, _, SqL.of hE3⟩, _, rfl, _, rfl, _, rfl, _, rfl, _, rfl, _, rfl, a, _, rfl, (sH2.trans s5).seq ha, fun lv hlv => ?_⟩
            have ecv : cutV (vb rows) (some ((at_ : Int) + 2 + 4 + ((Sv13.ofLittle (Sv13.slice rows at_ 2) : Nat) : Int))) (some ((at_ : Int) + 2 + 4 + ((Sv13.ofLittle (Sv13.slice rows at_ 2) : Nat) : Int) + ((Sv13.ofLittle (Sv13.slice rows (at_ + 2) 4) : Nat) : Int))) = vb val := by
              rw [ev, ek, cut_both (by omega) (by rw [vb_length]; omega), ← hval, vb_slice]
              congr 1
              omega
            rw [ecv]
            refine ⟨(by show 2 ≤ sizeLine; decide), fun t ht => ?_⟩
            have hk3 : H3 lk = some (.lst (vb key)) := s4 _ _ upd_same
            have nEv : lE ≠ lv := ne_of_none hE3 hlv
            have nkv : lk ≠ lv := ne_of_none hk3 hlv
            have nEt : lE ≠ t := ne_of_none (by rw [upd_ne nEv]; exact hE3) ht
            have nkt : lk ≠ t := ne_of_none (by rw [upd_ne nkv]; exact hk3) ht
            have nvt : lv ≠ t := ne_of_none upd_same ht
            have nEk : lE ≠ lk := ne_of_none hE hlk
            have hE4 : (upd (upd H3 lv (.lst (vb val))) t (.tup [.ref lk, .ref lv])) lE = some (.lst (ts.map V.ref)) := by rw [upd_ne nEt, upd_ne nEv]; exact hE3
            have hesl : es.length ≤ 1000000 := by
              have h1 := My.wt_len es
              have h2 : My.wt es = at_ := R.wt
              omega
            refine ⟨lE, _, _, rfl, rfl, hE4, lt_size (by rw [List.length_map, hes.1]; omega), ?_⟩
            refine ⟨_, rfl, rows.length - (at_ + 6 + kl + vl), by omega, ?_⟩
            have gk : G lk = none := s2.free hlk
            have gv : G lv = none := (s2.trans s5).free hlv
            have gt : G t = none := by
              have z := ((s2.trans s5).trans (Same.new (o := .lst (vb val)) (Same.refl _) hlv)).free ht
              exact z
            have sg : Same G (upd (upd (upd G lk (.lst (vb key))) lv (.lst (vb val))) t (.tup [.ref lk, .ref lv])) :=
              Same.new (Same.new (Same.new (Same.refl G) gk) (by rw [upd_ne nkv.symm]; exact gv)) (by rw [upd_ne nvt.symm, upd_ne nkt.symm]; exact gt)
            refine ⟨upd (upd (upd G lk (.lst (vb key))) lv (.lst (vb val))) t (.tup [.ref lk, .ref lv]), ts ++ [t], es ++ [(key, val)], at_ + 6 + kl + vl, some (.int ((at_ : Int) + 2 + 4)), some (.int ((at_ : Int) + 2 + 4 + ((Sv13.ofLittle (Sv13.slice rows at_ 2) : Nat) : Int))), some (.int ((at_ : Int) + 2 + 4 + ((Sv13.ofLittle (Sv13.slice rows at_ 2) : Nat) : Int) + ((Sv13.ofLittle (Sv13.slice rows (at_ + 2) 4) : Nat) : Int))), some (.ref lk), rfl, Rn, hr9, s1.trans sg, ?_, ?_, ?_, ?_, ?_⟩
            · refine Same.upd (Same.grow (Same.grow (Same.grow ((s2.trans s5).trans ((Same.new (Same.refl _) hlv).trans (Same.new (Same.refl _) ht))) ?_) ?_) upd_same) ?_
              · rw [upd_ne nkt, upd_ne nkv]
                exact hk3
              · rw [upd_ne nvt]
                exact upd_same
              · rw [upd_ne nEt, upd_ne nEv, upd_ne nEk]
                exact gE
            · rw [upd_ne nEt, upd_ne nEv, upd_ne nEk]
              exact gE
            · rw [upd_same, List.map_append]
              rfl
            · refine (hes.imp fun r x h => h.same sg).snoc ⟨lk, lv, upd_same, ?_, ?_⟩
              · rw [upd_ne nkt, upd_ne nkv]
                exact upd_same
              · rw [upd_ne nvt]
                exact upd_same
            · rw [← ev]
              rfl
          have hE3 := s3 _ _ hE
          refine ⟨_, rfl, Nat.zero_le _, fun l0 hl0 => ?_⟩
          have s4 : Same (upd H2 lk (.lst (vb key))) (upd (upd H2 lk (.lst (vb key))) l0 (.lst [])) := Same.new (Same.refl _) hl0
          refine ⟨lE, l0, _, rfl, rfl, SqL.of (s4 _ _ hE3), SqL.of upd_same, _, rfl, ?_⟩
          by_cases hes0 : es = []
          · have hts0 : ts = [] := List.length_eq_zero_iff.mp (by rw [hes.1, hes0]; rfl)
            subst hts0
            refine iteF (iteF ?_)
            refine go _ s4 ?_
            rw [hes0]
            rfl
          · have hts0 : ts ≠ [] := fun z => hes0 (List.length_eq_zero_iff.mp (by rw [← hes.1, z]; rfl))
            have c0 : (if true = true then !(ts.map V.ref).isEmpty else (ts.map V.ref).isEmpty) = true := by
              cases ts with
              | nil => exact absurd rfl hts0
              | cons => rfl
            rw [c0]
            obtain ⟨tl, htl⟩ : ∃ tl, ts.getLast? = some tl := by
              cases q : ts.getLast? with
              | none => exact absurd (List.getLast?_eq_none_iff.mp q) hts0
              | some x => exact ⟨x, rfl⟩
            have htl2 : ts[ts.length - 1]? = some tl := by rw [← List.getLast?_eq_getElem?]; exact htl
            obtain ⟨last, hlast, k9, v9, t1, t2, t3⟩ := hes.at htl2
            have hlast2 : es.getLast? = some last := by rw [List.getLast?_eq_getElem?, ← hes.1]; exact hlast
            have sG3 := (s2.trans s3).trans s4
            have hkk : (upd (upd H2 lk (.lst (vb key))) l0 (.lst [])) lk = some (.lst (vb key)) := s4 _ _ upd_same
            refine iteT ⟨_, rfl, _, rfl, _, rfl, lE, _, _, _, rfl, rfl, SqL.of (s4 _ _ hE3), ref_last htl, tl, _, _, _, rfl, rfl, .inl (.inl (sG3 _ _ t1)), at_of (j := 0) (v := V.ref k9) rfl rfl, lk, k9, key.map (fun n : Nat => (n : Int)), last.1.map (fun n : Nat => (n : Int)), rfl, rfl, ?_, ?_, _, rfl, ?_⟩
            · rw [← vb_ints]
              exact SqL.of hkk
            · rw [← vb_ints]
              exact SqL.of (sG3 _ _ t2)
            · rw [lexBy_before]
              have hrl := rising_last (e := (key, val)) hlast2
              rw [hris, Bool.true_and] at hrl
              cases hbf : Sv13.before last.1 key with
              | true =>
                refine iteF ?_
                refine go _ s4 ?_
                rw [hrl]
                exact hbf
              | false =>
                refine iteT ?_
                exact qn (My.entriesM_fall Rn (by rw [hrl]; exact hbf)) _ (sH2.trans (s3.trans s4))
    · have c : decide ((at_ : Int) < (((vb rows).length : Nat) : Int)) = false := decide_eq_false (by rw [el]; omega)
      rw [c]
      refine iteF ?_
      have hw : My.wt es = at_ := R.wt
      exact ⟨_, rfl, qs es (My.entriesM_some R (by omega) hris) (by omega) (R.by_ hby) lE ts H2 sH2 hlE hE (hes.imp fun r x h => h.same s2)⟩
end
end KL
set_option Elab.async false
set_option linter.all false
set_option maxRecDepth 100000
namespace KL
open PySem PySem.W PyProof.Rows L2
section
variable {P : Program} {w : World} {K : Frag} {mg : Str → Option Value} {base : Heap}
theorem allK_begun : ∀ (bs : List My.Blk) (p : Nat), allK (My.begun p bs) = bs.flatMap fun b => b.1
  | [], p => rfl
  | b :: r, p => by
    show b.1 ++ allK (My.begun (p + b.2.length + 5) r) = b.1 ++ r.flatMap fun b => b.1
    rw [allK_begun r]
def dbKeys (s : My.DB) : List (List Nat) := (s.blocks.flatMap fun b => b.1) ++ s.keys
theorem dbKeys_step {iv size : Nat} {s : My.DB} {e : Sv13.Entry} : dbKeys (s.step iv size e) = dbKeys s ++ [e.1] := by
  unfold My.DB.step dbKeys
  split
  · rw [List.flatMap_append]
    simp
  · simp
theorem dbKeys_all {iv size : Nat} : ∀ (l : List Sv13.Entry) (s : My.DB), dbKeys (l.foldl (My.DB.step iv size) s) = dbKeys s ++ l.map fun e => e.1
  | [], s => by simp
  | e :: l, s => by
    rw [List.foldl_cons, dbKeys_all l, dbKeys_step]
    simp
structure FR (s : My.DB) (f : FS) : Prop where
  all : f.done ++ f.un = dbKeys s
  bl : f.bl = blOf 0 (My.begun 0 s.blocks)
  un : f.un.length < 128
theorem fr_new : FR My.DB.new ⟨[], [], []⟩ := ⟨rfl, rfl, by decide⟩
theorem put_all {f : FS} (h : f.un.length < 128) (k : List Nat) : (f.put k).done ++ (f.put k).un = (f.done ++ f.un) ++ [k] ∧ (f.put k).un.length < 128 := by
  unfold FS.put
  by_cases e : (f.un ++ [k]).length = 128
  · rw [if_pos e]
    refine ⟨by simp, ?_⟩
    show 0 < 128
    decide
  · rw [if_neg e]
    refine ⟨by simp, ?_⟩
    show (f.un ++ [k]).length < 128
    rw [List.length_append, List.length_singleton] at e ⊢
    omega
theorem fr_shut {s : My.DB} {f : FS} {n : Nat} (ha : f.done ++ f.un = dbKeys s) (hb : f.bl = blOf 0 (My.begun 0 s.blocks)) (hu : f.un.length < 128) (hn : n = (My.outOf s.blocks).length) : FR s.shut (f.endb n) := by
  refine ⟨?_, ?_, hu⟩
  · show f.done ++ f.un = ((s.blocks ++ [(s.keys, s.w.content)]).flatMap fun b => b.1) ++ []
    rw [ha, List.flatMap_append, List.append_nil]
    unfold dbKeys
    simp
  · show f.bl ++ [(n, f.done.length + f.un.length)] = blOf 0 (My.begun 0 (s.blocks ++ [(s.keys, s.w.content)]))
    have e : f.done.length + f.un.length = 0 + (allK (My.begun 0 s.blocks)).length + s.keys.length := by
      have := congrArg List.length ha
      rw [List.length_append] at this
      rw [this, allK_begun]
      unfold dbKeys
      rw [List.length_append]
      omega
    rw [My.begun_snoc, blOf_snoc, hb, e, hn, Nat.zero_add, Nat.zero_add]
theorem fr_step {iv tg : Nat} {s : My.DB} {m : My.TM} {f : FS} {e : Sv13.Entry} (r : FR s f) (t : My.TR s m) : FR (s.step iv tg e) (fstep iv tg m f e) := by
  obtain ⟨p1, p2⟩ := put_all r.un e.1
  have ew : (m.enter iv e).w = s.w.put iv e.1 e.2 := by
    show m.w.put iv e.1 e.2 = _
    rw [t.w]
  have ha : (f.put e.1).done ++ (f.put e.1).un = dbKeys (s.open iv e) := by
    rw [p1, r.all]
    show _ = (s.blocks.flatMap fun b => b.1) ++ (s.keys ++ [e.1])
    unfold dbKeys
    rw [List.append_assoc]
  unfold My.DB.step fstep
  rw [ew]
  split
  · exact fr_shut (s := s.open iv e) ha (by rw [put_bl]; exact r.bl) p2 (by rw [t.parts, My.outL_out]; rfl)
  · exact ⟨ha, by rw [put_bl]; exact r.bl, p2⟩
def stepB (iv tg : Nat) (x : My.TM × FS) (e : Sv13.Entry) : My.TM × FS := (x.1.put iv tg e, fstep iv tg x.1 x.2 e)
theorem st_rel {iv tg : Nat} : ∀ (l : List Sv13.Entry) (s : My.DB) (x : My.TM × FS), My.TR s x.1 → FR s x.2 → My.TR (l.foldl (My.DB.step iv tg) s) (l.foldl (stepB iv tg) x).1 ∧ FR (l.foldl (My.DB.step iv tg) s) (l.foldl (stepB iv tg) x).2
  | [], s, x, t, r => ⟨t, r⟩
  | e :: l, s, x, t, r => st_rel l _ _ (My.tr_step t e) (fr_step r t)
theorem wt_take (l : List Sv13.Entry) (i : Nat) : My.wt (l.take i) ≤ My.wt l := by
  have h : l = l.take i ++ l.drop i := (List.take_append_drop i l).symm
  have e : My.wt l = My.wt (l.take i) + My.wt (l.drop i) := by
    conv => lhs; rw [h]
    unfold My.wt
    rw [List.map_append, List.sum_append]
  omega
structure LOk (l : List Sv13.Entry) : Prop where
  wt : My.wt l ≤ 100000
  by_ : ∀ e ∈ l, isByte e.1 ∧ isByte e.2
  up : (l.map fun e => e.1).Pairwise fun x y => Sv13.before x y = true
theorem LOk.take {l : List Sv13.Entry} (h : LOk l) (i : Nat) : LOk (l.take i) := by
  refine ⟨Nat.le_trans (wt_take l i) h.wt, fun e he => h.by_ e (List.mem_of_mem_take he), ?_⟩
  rw [List.map_take]
  exact h.up.sublist (List.take_sublist _ _)
theorem keys_ok {l : List Sv13.Entry} (h : LOk l) {a b : List (List Nat)} (e : a ++ b = l.map fun e => e.1) (hl : b.length ≤ 128) : KeysOk b := by
  refine ⟨fun k hk => ?_, ?_, hl⟩
  · have : k ∈ l.map fun e => e.1 := by rw [← e]; exact List.mem_append_right _ hk
    obtain ⟨x, hx, rfl⟩ := List.mem_map.mp this
    have := My.wt_mem hx
    have := h.wt
    exact ⟨(h.by_ x hx).1, by omega⟩
  · have := h.up
    rw [← e] at this
    exact (List.pairwise_append.mp this).2.1
theorem put_ok {iv tg bits : Nat} {l : List Sv13.Entry} {i : Nat} {e : Sv13.Entry} (h : LOk l) (he : l[i]? = some e) {m : My.TM} {f : FS} (t : My.TR ((l.take i).foldl (My.DB.step iv tg) My.DB.new) m) (r : FR ((l.take i).foldl (My.DB.step iv tg) My.DB.new) f) : PutOk bits m f e.1 e.2 := by
  have hm := List.mem_of_getElem? he
  have h1 := My.wt_mem hm
  have h2 := h.wt
  have bd := My.bd_db (h.take i).wt (h.take i).by_ t
  have ha := r.all
  rw [dbKeys_all] at ha
  have ha : f.done ++ f.un = (l.take i).map fun e => e.1 := ha
  have hlen := congrArg List.length ha
  rw [List.length_append, List.length_map, List.length_take] at hlen
  have h3 := My.wt_len l
  refine ⟨bd, by omega, by omega, (h.by_ e hm).1, fun _ => ?_, by omega, ?_⟩
  · refine keys_ok (h.take (i + 1)) (a := f.done) ?_ ?_
    · rw [← List.append_assoc, ha, List.take_succ, he, List.map_append]
      rfl
    · have := r.un
      rw [List.length_append, List.length_singleton]
      omega
  · rw [r.bl, blOf_length]
    have h4 := bd.cnt
    rw [t.parts, List.length_map] at h4
    have h5 := My.bgs_length ((l.take i).foldl (My.DB.step iv tg) My.DB.new).blocks
    unfold My.bgs at h5
    rw [List.length_map] at h5
    omega
theorem bd_fin1 {iv tg : Nat} {l : List Sv13.Entry} (h : LOk l) {m : My.TM} (t : My.TR (l.foldl (My.DB.step iv tg) My.DB.new) m) : My.Bd m.fin1 := by
  have bd := My.bd_db h.wt h.by_ t
  by_cases hn : 0 < m.w.n
  · obtain ⟨s', hb, hk, t'⟩ := My.tr_fin1 t
    have e : m.fin1 = m.flush := by unfold My.TM.fin1; rw [if_pos hn]
    have hp := t'.parts
    rw [hb, e] at hp
    have hl := My.blocks_len (iv := iv) (size := tg) l
    have hl : (My.outOf (l.foldl (My.DB.step iv tg) My.DB.new).fin).length ≤ 9 * My.wt l + 4 := hl
    have hw := h.wt
    have ho : My.outL m.flush.parts ≤ 900004 := by
      rw [hp, My.outL_out]
      omega
    have ho2 : My.outL (m.parts ++ [m.w.content]) ≤ 900004 := ho
    rw [My.outL_snoc] at ho2
    have h1 := bd.cnt
    have h2 := My.cnt_le (bs := (My.dataBlocks iv tg l)) (My.blocks_ne l)
    rw [My.blocks_cnt] at h2
    have h3 := My.wt_len l
    have h2 : (l.foldl (My.DB.step iv tg) My.DB.new).fin.length ≤ l.length := h2
    rw [e]
    refine ⟨by omega, ?_, (by show 4 ≤ 2000000; decide), (by show 0 ≤ 1000000; decide), bd.la, bd.ib, bd.il, fun x hx => ?_, bd.by_⟩
    · rw [hp, List.length_map]
      omega
    · cases hx
      constructor
      · show My.outL m.parts ≤ 2000000
        omega
      · show m.w.content.length ≤ 2000000
        omega
  · have e : m.fin1 = m := by unfold My.TM.fin1; rw [if_neg hn]
    rw [e]
    exact bd
theorem fin_ixs {m : My.TM} (bd : My.Bd m.fin1) : m.fin.ix.size ≤ 4000000 := by
  have h1 := bd.ib
  unfold My.TM.fin My.TM.list
  split
  · show m.fin1.ix.body.length + 4 * m.fin1.ix.rs.length + 4 ≤ _
    omega
  · rename_i h _
    have p1 := My.put_body 1 m.fin1.ix (Sv13.behind m.fin1.last) h.bytes
    have p2 := My.put_rs 1 m.fin1.ix (Sv13.behind m.fin1.last) h.bytes
    have p3 := My.behind_le m.fin1.last
    have p4 := bd.la
    have p5 := My.handle_length h
    show (m.fin1.ix.put 1 (Sv13.behind m.fin1.last) h.bytes).body.length + 4 * (m.fin1.ix.put 1 (Sv13.behind m.fin1.last) h.bytes).rs.length + 4 ≤ _
    omega
theorem fs1_rel {s : My.DB} {m : My.TM} {f : FS} (t : My.TR s m) (r : FR s f) : (fs1 m f).done ++ (fs1 m f).un = allK (My.begun 0 s.fin) ∧ (fs1 m f).bl = blOf 0 (My.begun 0 s.fin) ∧ (fs1 m f).un.length < 128 := by
  unfold fs1
  rw [t.w, t.n]
  by_cases hk : s.keys = []
  · rw [if_neg (by rw [hk]; simp)]
    have hf : s.fin = s.blocks := by unfold My.DB.fin; rw [if_pos hk]
    have ha := r.all
    unfold dbKeys at ha
    rw [hk, List.append_nil] at ha
    rw [hf, allK_begun]
    exact ⟨ha, r.bl, r.un⟩
  · have : 0 < s.keys.length := by
      cases hs : s.keys with
      | nil => exact absurd hs hk
      | cons => simp
    rw [if_pos this]
    have hf : s.fin = s.shut.blocks := by unfold My.DB.fin; rw [if_neg hk]; rfl
    have q := fr_shut (n := My.outL m.parts) r.all r.bl r.un (by rw [t.parts, My.outL_out])
    have ha := q.all
    unfold dbKeys at ha
    have hz : s.shut.keys = [] := rfl
    rw [hz, List.append_nil] at ha
    rw [hf, allK_begun]
    exact ⟨ha, q.bl, q.un⟩
theorem fin_ok {iv tg bits : Nat} {l : List Sv13.Entry} (h : LOk l) (hb : bits ≤ 20) {m : My.TM} {f : FS} (t : My.TR (l.foldl (My.DB.step iv tg) My.DB.new) m) (r : FR (l.foldl (My.DB.step iv tg) My.DB.new) f) :
    FinOk bits m f (My.begun 0 (My.dataBlocks iv tg l)) (My.piecesN (My.dataBlocks iv tg l)) ∧ (My.filterOf bits (My.begun 0 (My.dataBlocks iv tg l)) (My.piecesN (My.dataBlocks iv tg l))).length ≤ 1000000 := by
  have bd := My.bd_db h.wt h.by_ t
  have bd1 := bd_fin1 h t
  obtain ⟨a1, a2, a3⟩ := fs1_rel t r
  obtain ⟨f1, f2, f3⟩ := My.tr_fin t
  have hw := h.wt
  have hl := My.wt_len l
  have hout := My.blocks_len (iv := iv) (size := tg) l
  have hkn := My.begun_keys (My.dataBlocks iv tg l) 0
  rw [My.blocks_cnt] at hkn
  have hN : My.piecesN (My.dataBlocks iv tg l) ≤ 500 := by
    rw [My.piecesN_eq]
    split <;> omega
  have hres := My.res_bound hb (My.begun 0 (My.dataBlocks iv tg l)) (My.piecesN (My.dataBlocks iv tg l))
  have hfl : (My.filterOf bits (My.begun 0 (My.dataBlocks iv tg l)) (My.piecesN (My.dataBlocks iv tg l))).length ≤ 1000000 := by
    unfold My.filterOf
    rw [List.length_append, List.length_append, flat_len, List.length_append, My.offs_length]
    show _ + 4 * (_ + 1) + 1 ≤ _
    omega
  have hall := dbKeys_all (iv := iv) (size := tg) l My.DB.new
  have hfin : (l.foldl (My.DB.step iv tg) My.DB.new).fin = My.dataBlocks iv tg l := rfl
  rw [hfin] at a1 a2 f1
  have hke : allK (My.begun 0 (My.dataBlocks iv tg l)) = l.map fun e => e.1 := by
    rw [allK_begun, ← hfin]
    have hall : dbKeys (l.foldl (My.DB.step iv tg) My.DB.new) = l.map fun e => e.1 := hall
    rw [← hall]
    unfold dbKeys My.DB.fin
    split
    · rename_i hk
      rw [hk, List.append_nil]
    · rw [List.flatMap_append]
      simp
  refine ⟨⟨bd, bd1, ?_, Nat.le_trans (fin_ixs bd1) (by decide), fun _ => ⟨?_, a1, a2, ?_, ?_, by omega, hb, ?_, by omega⟩⟩, hfl⟩
  · rw [r.bl, blOf_length]
    have h4 := bd.cnt
    rw [t.parts, List.length_map] at h4
    have h5 := My.bgs_length (l.foldl (My.DB.step iv tg) My.DB.new).blocks
    unfold My.bgs at h5
    rw [List.length_map] at h5
    omega
  · exact keys_ok h (a := (fs1 m f).done) (by rw [a1, hke]) (by omega)
  · rw [← fin1_parts, f1, My.outL_out]
    exact My.piecesN_eq _
  · intro x hx
    exact My.bgs_piece _ x.1 (List.mem_map.mpr ⟨x, hx, rfl⟩)
  · intro x hx k hk
    have : k ∈ allK (My.begun 0 (My.dataBlocks iv tg l)) := List.mem_flatMap.mpr ⟨x, hx, hk⟩
    rw [hke] at this
    obtain ⟨e, he, rfl⟩ := List.mem_map.mp this
    exact (h.by_ e he).1
theorem table_is {iv tg bits : Nat} {l : List Sv13.Entry} {m : My.TM} (t : My.TR (l.foldl (My.DB.step iv tg) My.DB.new) m) : My.tableM iv tg bits l = My.outB (partsOf iv bits m.fin.parts (My.filterOf bits (My.begun 0 (My.dataBlocks iv tg l)) (My.piecesN (My.dataBlocks iv tg l))) m.fin.ix.content) ++
    endOf iv bits m.fin.parts (My.filterOf bits (My.begun 0 (My.dataBlocks iv tg l)) (My.piecesN (My.dataBlocks iv tg l))) m.fin.ix.content := by
  obtain ⟨f1, f2, f3⟩ := My.tr_fin t
  have hfin : (l.foldl (My.DB.step iv tg) My.DB.new).fin = My.dataBlocks iv tg l := rfl
  rw [hfin] at f1 f2
  have hix : m.fin.ix.content = My.idxContent (My.idxPairs (My.dataBlocks iv tg l)) := by rw [f2]; rfl
  rw [f1, hix]
  unfold My.tableM partsOf endOf c2Of mhOf
  dsimp only
  generalize My.dataBlocks iv tg l = bs
  generalize My.filterOf bits (My.begun 0 bs) (My.piecesN bs) = fc
  generalize My.idxContent (My.idxPairs bs) = ixc
  by_cases hb : bits = 0
  · simp only [if_pos hb, Sv13.put, My.outB_snoc, My.outB_out, My.outL_snoc, My.outL_out, List.length_append, My.raw_length]
  · simp only [if_neg hb, Sv13.put, My.outB_snoc, My.outB_out, My.outL_snoc, My.outL_out, List.length_append, My.raw_length]
theorem parts_byts {iv tg bits : Nat} {l : List Sv13.Entry} (h : LOk l) {m : My.TM} (t : My.TR (l.foldl (My.DB.step iv tg) My.DB.new) m) (bk : List (Nat × List (List Nat))) (N : Nat) : ∀ c ∈ partsOf iv bits m.fin.parts (My.filterOf bits bk N) m.fin.ix.content, isByte c := by
  obtain ⟨f1, f2, f3⟩ := My.tr_fin t
  have hfin : (l.foldl (My.DB.step iv tg) My.DB.new).fin = My.dataBlocks iv tg l := rfl
  rw [hfin] at f1 f2
  have hix : m.fin.ix.content = My.idxContent (My.idxPairs (My.dataBlocks iv tg l)) := by rw [f2]; rfl
  rw [f1, hix]
  have hbs : ∀ c ∈ (My.dataBlocks iv tg l).map fun b => b.2, isByte c := by
    intro c hc
    obtain ⟨b, hb, rfl⟩ := List.mem_map.mp hc
    exact My.blocks_byts h.by_ b hb
  have hkb : ∀ b ∈ My.dataBlocks iv tg l, ∀ k ∈ b.1, My.byts k := My.blocks_all fun e he => (h.by_ e he).1
  have hidx : isByte (My.idxContent (My.idxPairs (My.dataBlocks iv tg l))) := by
    refine My.byts_idx fun p hp => ?_
    rw [My.idxPairs_zip] at hp
    have := List.of_mem_zip (show (p.1, p.2) ∈ _ from hp)
    refine ⟨My.byts_ik _ (fun ks hks k hk => ?_) _ this.1, My.byts_hands _ _ _ this.2⟩
    obtain ⟨b, hb, rfl⟩ := List.mem_map.mp hks
    exact hkb b hb k hk
  intro c hc
  unfold partsOf at hc
  rcases List.mem_append.mp hc with hc | hc
  · rcases List.mem_append.mp hc with hc | hc
    · unfold c2Of at hc
      split at hc
      · exact hbs c hc
      · rcases List.mem_append.mp hc with hc | hc
        · exact hbs c hc
        · have : c = My.filterOf bits bk N := by simpa using hc
          rw [this]
          exact My.byts_filterOf _ _ _
    · have : c = My.metaContent iv (mhOf bits ((My.dataBlocks iv tg l).map fun b => b.2) (My.filterOf bits bk N)) := by simpa using hc
      rw [this]
      exact My.byts_meta _ _
  · have : c = My.idxContent (My.idxPairs (My.dataBlocks iv tg l)) := by simpa using hc
    rw [this]
    exact hidx
theorem foot_len (a b : Sv13.Handle) : (Sv13.footer a b).length ≤ 100 := by
  have h1 := My.handle_length a
  have h2 := My.handle_length b
  unfold Sv13.footer
  rw [List.length_append, List.length_append, My.little_length, List.length_replicate, List.length_append]
  omega
theorem parts_len {iv bits : Nat} {m : My.TM} (bd1 : My.Bd m.fin1) {fc : List Nat} (hf : fc.length ≤ 1000000) : My.outL (partsOf iv bits m.fin.parts fc m.fin.ix.content) + (endOf iv bits m.fin.parts fc m.fin.ix.content).length ≤ 15000000 := by
  have h1 := bd1.out
  rw [← fin1_parts] at h1
  have h2 := fin_ixs bd1
  have h3 := My.content_length m.fin.ix
  have h4 : (endOf iv bits m.fin.parts fc m.fin.ix.content).length ≤ 100 := foot_len _ _
  have h5 := mBW_size iv (mhOf bits m.fin.parts fc)
  have h6 := My.content_length (mBW iv (mhOf bits m.fin.parts fc))
  rw [mBW_content] at h6
  unfold partsOf
  rw [My.outL_snoc, My.outL_snoc]
  have h7 : My.outL (c2Of bits m.fin.parts fc) ≤ My.outL m.fin.parts + fc.length + 5 := by
    unfold c2Of
    split
    · omega
    · rw [My.outL_snoc]
      omega
  omega
end
end KL
set_option Elab.async false
set_option linter.all false
set_option maxRecDepth 100000
namespace KL
open PySem PySem.W PyProof.Rows L2
section
variable {P : Program} {w : World} {K : Frag} {mg : Str → Option Value} {base : Heap}
def sp_made (K : Frag) : Sp := fun vs H Q _ => ∃ (a : Addr) (ts : List Addr) (l : List Sv13.Entry) (iv tg bits : Nat) (most : Int), vs = [.ref a, .int (iv : Int), .int (tg : Int), .int (bits : Int), .int most] ∧ SqL K H a (ts.map V.ref) ∧ All2 (EntAt H) ts l ∧ 0 < iv ∧ bits ≤ 20 ∧ LOk l ∧
  newL (tabAns most (My.tableM iv tg bits l)) H Q
theorem sc_made_table : FnScope ["entries", "interval", "size", "bits", "most", "writer", "key", "value"] ["entries", "interval", "size", "bits", "most"] (defScope s_made_table) := ⟨rfl, rfl, rfl, by decide +kernel, rfl, by decide +kernel, by decide +kernel⟩
theorem fx_made {Ct Cw Cf Ch : Addr} (D : DefAt K mg "made_table" s_made_table) (M_TableWriter : Mkx P w K mg base "TableWriter" Ct 3 ["self", "interval", "target", "bits"] (sp_T_init Ct Cw Cf Ch)) (M_put : Mtx P w K mg base Ct "put" 6 ["self", "key", "value", "known"] (sp_put Ct Cw Cf Ch)) (F_finished_table : Fx P w K mg base "finished_table" 7 ["writer", "most"] (sp_finished Ct Cw Cf Ch)) :
    Fx P w K mg base "made_table" 8 ["entries", "interval", "size", "bits", "most"] (sp_made K) := by
  refine D.fx sc_made_table (fun _ _ _ _ _ _ us hl => match us, hl with | [_, _, _, _, _], _ => rfl) (fun vs H Q E h => ?_) (fun f cdv A outer s H vs Q E hr h => ?_)
  · obtain ⟨a, ts, l, iv, tg, bits, most, rfl, _⟩ := h
    rfl
  · obtain ⟨a, ts, l, iv, tg, bits, most, rfl, ha, hts, hiv, hbits, lok, q⟩ := h
    refine ⟨_, (pss_cons (ps_set (i := 5) sc_made_table.nd rfl (Or.inl rfl) (pe_mx M_TableWriter (hr.mono (by decide)) rfl (pa_cons (pv 1) (pa_cons (pv 2) (pa_cons (pv 3) pa_nil)))))
      (pss_cons (ps_for PassesOwn.never rfl (pi_list (pv 0)) (pg_tup rfl (pgs_cons (pg_name (i := 6) sc_made_table.nd rfl (Or.inl rfl)) (pgs_cons (pg_name (i := 7) sc_made_table.nd rfl (Or.inl rfl)) pgs_nil))) (pss_one (ps_expr (pe_mt (pv 5) M_put (hr.mono (by decide)) (pa_cons (pv 6) (pa_cons (pv 7) (pa_cons pe_int pa_nil)))))))
      (pss_one (ps_ret (pe_fx F_finished_table (hr.mono (by decide)) rfl (pa_cons (pv 5) (pa_cons (pv 4) pa_nil))))))), ?_⟩
    try dsimp only [cxOf]
    refine ⟨_, rfl, _, rfl, _, rfl, fun x dx nx ndx nex => ?_⟩
    refine ⟨x, dx, iv, tg, bits, H, rfl, upd_same, Same.new (Same.new (Same.refl _) ndx) (by rw [upd_ne nex.symm]; exact nx), nx, fun G1 X1 H1 hp1 sG1 M1 => ⟨rfl, ?_⟩⟩
    have hlen : (ts.map V.ref).length = l.length := by rw [List.length_map, hts.1]
    have rel : ∀ i, My.TR ((l.take i).foldl (My.DB.step iv tg) My.DB.new) ((l.take i).foldl (stepB iv tg) (My.TM.new, ⟨[], [], []⟩)).1 ∧ FR ((l.take i).foldl (My.DB.step iv tg) My.DB.new) ((l.take i).foldl (stepB iv tg) (My.TM.new, ⟨[], [], []⟩)).2 := fun i => st_rel _ _ _ My.tr_new fr_new
    refine ⟨_, rfl, a, rfl, ⟨_, (sG1.trans M1.o.sg).seq ha⟩, for_list (K := K) (a := a) (xs := ts.map V.ref) (fun i σ H2 => ∃ (G : Hp) (X : MF) (v u : Option V), Same H G ∧ X.O.p = x ∧ MAt Ct Cw Cf Ch G H2 X iv tg bits ((l.take i).foldl (stepB iv tg) (My.TM.new, ⟨[], [], []⟩)).1 ((l.take i).foldl (stepB iv tg) (My.TM.new, ⟨[], [], []⟩)).2 ∧ σ = [some (.ref a), some (.int (iv : Int)), some (.int (tg : Int)), some (.int (bits : Int)), some (.int most), some (.ref x), v, u])
      ⟨G1, X1, none, none, sG1, hp1, M1, rfl⟩ (fun i σ H2 _ ⟨G, X, v, u, sG, _, M, _⟩ => (sG.trans M.o.sg).seq ha) ?_ ?_⟩
    · rintro i y σ H2 hy ⟨G, X, v, u, sG, hp, M, rfl⟩
      obtain ⟨t, ht, rfl⟩ := ref_get hy
      obtain ⟨e, he, k, vv, t1, t2, t3⟩ := hts.at ht
      have hstep : (l.take (i + 1)).foldl (stepB iv tg) (My.TM.new, ⟨[], [], []⟩) = stepB iv tg ((l.take i).foldl (stepB iv tg) (My.TM.new, ⟨[], [], []⟩)) e := by
        rw [List.take_succ, he]
        show ((l.take i) ++ [e]).foldl (stepB iv tg) _ = _
        rw [List.foldl_append]
        rfl
      rw [hstep]
      have pok := put_ok (bits := bits) lok he (rel i).1 (rel i).2
      generalize (l.take i).foldl (stepB iv tg) (My.TM.new, ⟨[], [], []⟩) = mf at M pok
      have hob := M.o.ob
      rw [hp] at hob
      refine ⟨t, _, rfl, .inl (.inl (M.o.sg _ _ (sG _ _ t1))), rfl, _, _, rfl, _, _, rfl, rfl, ?_⟩
      refine ⟨_, rfl, rmt hob fsM_no_put ⟨_, rfl, _, rfl, X, G, iv, tg, bits, mf.1, mf.2, k, vv, e.1, e.2, by rw [hp]; rfl, M, sG _ _ t2, sG _ _ t3, hiv, pok, fun G' X' H' hp' s' M' => ⟨G', X', _, _, sG.trans s', hp'.trans hp, M', rfl⟩⟩⟩
    · rintro σ H2 ⟨G, X, v, u, sG, hp, M, rfl⟩
      have rl := rel (ts.map V.ref).length
      rw [hlen, List.take_length] at M rl
      obtain ⟨fok, hfl⟩ := fin_ok lok hbits rl.1 rl.2
      have htb := table_is (bits := bits) rl.1
      have hpb := parts_byts (bits := bits) lok rl.1 (My.begun 0 (My.dataBlocks iv tg l)) (My.piecesN (My.dataBlocks iv tg l))
      have hpl := parts_len (iv := iv) (bits := bits) fok.bd1 hfl
      rw [htb] at q
      generalize l.foldl (stepB iv tg) (My.TM.new, ⟨[], [], []⟩) = mf at M fok hpb hpl q
      refine ⟨_, rfl, _, rfl, X, G, iv, tg, bits, mf.1, mf.2, _, _, most, _, _, by rw [hp]; rfl, M, hiv, fok, rfl, rfl, hpb, hpl, fun la H' s' gla hla => ?_⟩
      exact q la H' (sG.trans s') (sG.free gla) hla
end
end KL
set_option Elab.async false
set_option linter.all false
set_option maxRecDepth 100000
namespace KL
open PySem PySem.W PyProof.Rows L2
section
variable {P : Program} {w : World} {K : Frag} {mg : Str → Option Value} {base : Heap}
def makeAns (iv bl bits most : Int) (rows : List Nat) : List Int :=
  if (Sv13.within most 0 Sv13.SIZE && Sv13.good iv bl bits) = false then [-2] else match My.entriesM rows with
    | none => [-4]
    | some l => if most < ((My.tableM iv.toNat bl.toNat bits.toNat l).length : Int) then [-7] else ((My.tableM iv.toNat bl.toNat bits.toNat l).length : Int) :: (My.tableM iv.toNat bl.toNat bits.toNat l).map fun n : Nat => (n : Int)
theorem entries_rise {rows : List Nat} {l : List Sv13.Entry} (h : My.entriesM rows = some l) : (l.map fun e => e.1).Pairwise fun x y => Sv13.before x y = true := by
  unfold My.entriesM at h
  obtain ⟨l', _, h⟩ := Option.bind_eq_some_iff.mp h
  split at h
  · cases h
  · rename_i hr
    cases h
    exact (My.rising_iff _).mp (by simpa using hr)
def sp_make (K : Frag) : Sp := fun vs H Q _ => ∃ (iv bl bits most : Int) (a : Addr) (rows : List Nat), vs = [.int iv, .int bl, .int bits, .int most, .ref a] ∧ SqL K H a (vb rows) ∧ isByte rows ∧ rows.length ≤ 100000 ∧ newL ((makeAns iv bl bits most rows).map V.int) H Q
theorem sc_make : FnScope ["interval", "block", "bits", "most", "rows", "entries"] ["interval", "block", "bits", "most", "rows"] (defScope s_make) := ⟨rfl, rfl, rfl, by decide +kernel, rfl, by decide +kernel, by decide +kernel⟩
theorem fx_make (D : DefAt K mg "make" s_make) (C : Consts K mg) (F_is_length : Fx P w K mg base "is_length" 2 ["number"] sp_is_length) (F_is_shape : Fx P w K mg base "is_shape" 2 ["interval", "block", "bits"] sp_is_shape) (F_entries_of : Fx P w K mg base "entries_of" 2 ["rows"] (sp_entries_of K))
    (F_made_table : Fx P w K mg base "made_table" 8 ["entries", "interval", "size", "bits", "most"] (sp_made K)) : Fx P w K mg base "make" 9 ["interval", "block", "bits", "most", "rows"] (sp_make K) := by
  refine D.fx sc_make (fun _ _ _ _ _ _ us hl => match us, hl with | [_, _, _, _, _], _ => rfl) (fun vs H Q E h => ?_) (fun f cdv A outer s H vs Q E hr h => ?_)
  · obtain ⟨iv, bl, bits, most, a, rows, rfl, _⟩ := h
    rfl
  · obtain ⟨iv, bl, bits, most, a, rows, rfl, ha, hby, hlen, q⟩ := h
    refine ⟨_, (pss_cons (ps_if (pt_not (PW.pt (pw_and (pt_val (pe_fx F_is_length (hr.mono (by decide)) rfl (pa_cons (pe_callB call_len_seq rfl C.nlen PySem.boot_len (pa_cons (pv 4) pa_nil)) pa_nil))) (pw_and (pt_val (pe_fx F_is_length (hr.mono (by decide)) rfl (pa_cons (pv 3) pa_nil))) (pw_and1 (pt_val (pe_fx F_is_shape (hr.mono (by decide)) rfl (pa_cons (pv 0) (pa_cons (pv 1) (pa_cons (pv 2) pa_nil)))))))))) (pss_one (ps_ret (pe_lst (pa_cons (pe_gint rfl C.OUT_OF_RANGE) pa_nil)))) pss_nil)
      (pss_cons (ps_set (i := 5) sc_make.nd rfl (Or.inl rfl) (pe_fx F_entries_of (hr.mono (by decide)) rfl (pa_cons (pv 4) pa_nil)))
      (pss_cons (ps_if (pt_cmpR op_isN (pv 5) pe_non (nomark _)) (pss_one (ps_ret (pe_lst (pa_cons (pe_gint rfl C.NO_ROWS) pa_nil)))) pss_nil)
      (pss_one (ps_ret (pe_fx F_made_table (hr.mono (by decide)) rfl (pa_cons (pv 5) (pa_cons (pv 0) (pa_cons (pv 1) (pa_cons (pv 2) (pa_cons (pv 3) pa_nil))))))))))), ?_⟩
    try dsimp only [cxOf]
    unfold makeAns at q
    refine ⟨_, rfl, a, _, rfl, .inl ha, _, rfl, _, rfl, ?_⟩
    have c1 : (decide ((0 : Int) ≤ (((vb rows).length : Nat) : Int)) && decide ((((vb rows).length : Nat) : Int) ≤ 16777216)) = true := by
      rw [vb_length, decide_eq_true (by omega), decide_eq_true (by omega)]
      rfl
    rw [c1]
    refine iteT ?_
    refine ⟨_, rfl, most, rfl, _, rfl, ?_⟩
    have bad : (Sv13.within most 0 Sv13.SIZE && Sv13.good iv bl bits) = false → ∀ l, H l = none → Q (.ref l) (upd H l (.lst [.int (-2)])) := fun hz l hl => by
      rw [if_pos hz] at q
      exact q l _ (Same.new (Same.refl H) hl) hl upd_same
    cases hm : (decide ((0 : Int) ≤ most) && decide (most ≤ 16777216)) with
    | false =>
      have hm' : Sv13.within most 0 Sv13.SIZE = false := hm
      refine iteF (iteT ⟨(by show 1 ≤ sizeLine; decide), fun l hl => bad (by rw [hm']; rfl) l hl⟩)
    | true =>
      have hm' : Sv13.within most 0 Sv13.SIZE = true := hm
      refine iteT ⟨_, rfl, _, rfl, _, rfl, iv, bl, bits, rfl, _, rfl, ?_⟩
      cases hg : Sv13.good iv bl bits with
      | false => exact iteT ⟨(by show 1 ≤ sizeLine; decide), fun l hl => bad (by rw [hg, Bool.and_false]) l hl⟩
      | true =>
        rw [hm', hg] at q
        rw [if_neg (by decide)] at q
        refine iteF ?_
        have hgg : (decide (1 ≤ iv) && decide (iv ≤ 64) && ((decide (64 ≤ bl) && decide (bl ≤ 65536)) && (decide (0 ≤ bits) && decide (bits ≤ 20)))) = true := hg
        simp only [Bool.and_eq_true, decide_eq_true_eq] at hgg
        obtain ⟨⟨i1, i2⟩, ⟨b1, b2⟩, f1, f2⟩ := hgg
        refine ⟨_, rfl, a, rows, rfl, ha, hby, by omega, fun hnone H1 s1 => ?_, fun l hsome hwt hlb lE ts H1 s1 hlE hE hes => ?_⟩
        · rw [hnone] at q
          refine ⟨_, rfl, rfl, _, rfl, ?_⟩
          refine iteT ⟨(by show 1 ≤ sizeLine; decide), fun l hl => ?_⟩
          exact q l _ (s1.trans (Same.new (Same.refl _) hl)) (s1.free hl) upd_same
        · rw [hsome] at q
          dsimp only at q
          refine ⟨_, rfl, rfl, _, rfl, ?_⟩
          refine iteF ?_
          have e1 : ((iv.toNat : Nat) : Int) = iv := Int.toNat_of_nonneg (by omega)
          have e2 : ((bl.toNat : Nat) : Int) = bl := Int.toNat_of_nonneg (by omega)
          have e3 : ((bits.toNat : Nat) : Int) = bits := Int.toNat_of_nonneg (by omega)
          refine ⟨_, rfl, _, rfl, _, rfl, _, rfl, _, rfl, lE, ts, l, iv.toNat, bl.toNat, bits.toNat, most, ?_, SqL.of hE, hes, by omega, by omega, ⟨by omega, hlb, entries_rise hsome⟩, fun lT H2 s2 hlT hT => ?_⟩
          · show [V.ref lE, V.int iv, V.int bl, V.int bits, V.int most] = _
            rw [e1, e2, e3]
          · generalize My.tableM iv.toNat bl.toNat bits.toNat l = tb at hT q
            refine q lT H2 (s1.trans s2) (s1.free hlT) ?_
            rw [hT]
            unfold tabAns
            by_cases hmm : most < (tb.length : Int)
            · rw [if_pos hmm, if_pos hmm]
              rfl
            · rw [if_neg hmm, if_neg hmm, List.map_cons, ← vb_ints]
end
end KL

set_option Elab.async false
set_option linter.all false
set_option maxRecDepth 100000
namespace KL
open PySem PySem.W PyProof.Rows L2
theorem make_ans {iv bl bits most : Int} {ns : List Int} (hl : ns.length ≤ 100000) : PySv13.make iv bl bits most ns = makeAns iv bl bits most (ns.map Int.toNat) := by
  have hw : Sv13.within (ns.length : Int) 0 Sv13.SIZE = true := by
    unfold Sv13.within
    have h1 : (0 : Int) ≤ (ns.length : Int) := by omega
    have h2 : (ns.length : Int) ≤ Sv13.SIZE := by
      show (ns.length : Int) ≤ 16777216
      omega
    rw [decide_eq_true h1, decide_eq_true h2]
    rfl
  have hf : ∀ x : Sv13.Ans, Sv13.does (.make (ns.map Int.toNat) (ns.length : Int) iv bl bits most) = x → PySv13.make iv bl bits most ns = x.v :: (Sv13Neutral.ints x.b ++ Sv13Neutral.ints x.next.toList) := by
    intro x hx
    rw [← hx]
    rfl
  generalize hr : ns.map Int.toNat = rows at hf
  unfold makeAns
  have hd : Sv13.does (.make rows (ns.length : Int) iv bl bits most) = (if (Sv13.within (ns.length : Int) 0 Sv13.SIZE && (Sv13.within most 0 Sv13.SIZE && Sv13.good iv bl bits)) = false then Sv13.ok (-2) else match Sv13.rowsOf (rows.length + 1) rows with
    | none => Sv13.ok (-4)
    | some l => if Sv13.rising (l.map fun e => e.1) = false then Sv13.ok (-4) else Sv13.fits most (Sv13.make (Sv13.options iv bl bits) l)) := rfl
  rw [hw, Bool.true_and] at hd
  by_cases hg : (Sv13.within most 0 Sv13.SIZE && Sv13.good iv bl bits) = false
  · rw [if_pos hg] at hd
    rw [if_pos hg, hf _ hd]
    rfl
  · rw [if_neg hg] at hd
    rw [if_neg hg]
    unfold My.entriesM
    cases hro : Sv13.rowsOf (rows.length + 1) rows with
    | none =>
      rw [hro] at hd
      rw [hf _ hd]
      rfl
    | some l =>
      rw [hro] at hd
      dsimp only at hd
      by_cases hri : Sv13.rising (l.map fun e => e.1) = false
      · rw [if_pos hri] at hd
        rw [hf _ hd]
        show _ = (match (if Sv13.rising (l.map fun e => e.1) = false then none else some l) with
          | none => [-4]
          | some l => _)
        rw [if_pos hri]
        rfl
      · rw [if_neg hri] at hd
        show _ = (match (if Sv13.rising (l.map fun e => e.1) = false then none else some l) with
          | none => [-4]
          | some l => _)
        rw [if_neg hri]
        dsimp only
        have hiv : 0 < (Sv13.options iv bl bits).interval := by
          have hg' : (Sv13.within most 0 Sv13.SIZE && Sv13.good iv bl bits) = true := by
            cases z : (Sv13.within most 0 Sv13.SIZE && Sv13.good iv bl bits) with
            | true => rfl
            | false => exact absurd z hg
          have h1 := (Bool.and_eq_true_iff.mp hg').2
          have h2 : (decide (1 ≤ iv) && decide (iv ≤ 64) && ((decide (64 ≤ bl) && decide (bl ≤ 65536)) && (decide (0 ≤ bits) && decide (bits ≤ 20)))) = true := h1
          simp only [Bool.and_eq_true, decide_eq_true_eq] at h2
          show 0 < iv.toNat
          omega
        rw [My.make_eq hiv] at hd
        have eo : My.tableM (Sv13.options iv bl bits).interval (Sv13.options iv bl bits).block (Sv13.options iv bl bits).bits l = My.tableM iv.toNat bl.toNat bits.toNat l := rfl
        rw [eo] at hd
        generalize My.tableM iv.toNat bl.toNat bits.toNat l = tb at hd
        have hft : Sv13.fits most tb = if most < (tb.length : Int) then Sv13.ok (-7) else ⟨tb.length, tb, none⟩ := rfl
        rw [hft] at hd
        by_cases hc : most < (tb.length : Int)
        · rw [if_pos hc] at hd
          rw [if_pos hc, hf _ hd]
          rfl
        · rw [if_neg hc] at hd
          rw [if_neg hc, hf _ hd]
          show (tb.length : Int) :: (Sv13Neutral.ints tb ++ []) = _
          rw [List.append_nil]
          rfl
theorem args_ (args : List WData) (hpre : PySem.Challenge.rw_keylogs_s02_make.pre args = true) : ∃ (iv bl bits most : Int) (rows : List Nat), args = [Arg.int iv, Arg.int bl, Arg.int bits, Arg.int most, Arg.nums (rows.map fun n : Nat => (n : Int))].map Arg.data ∧ rows.length ≤ 100000 ∧ isByte rows ∧ PySem.Challenge.rw_keylogs_s02_make.post args (.list ((makeAns iv bl bits most rows).map WData.int)) = true := by
  obtain ⟨⟨iv, bl, bits, most, ns, u⟩, e, _⟩ := os_pre_some hpre
  obtain ⟨d, ds, rfl, e1, g1⟩ := dec_cons e
  obtain ⟨d2, ds2, rfl, e2, g2⟩ := dec_cons g1
  obtain ⟨d3, ds3, rfl, e3, g3⟩ := dec_cons g2
  obtain ⟨d4, ds4, rfl, e4, g4⟩ := dec_cons g3
  obtain ⟨d5, ds5, rfl, e5, g5⟩ := dec_cons g4
  obtain rfl := dec_nil g5
  obtain ⟨rfl, _⟩ := dec_int e1
  obtain ⟨rfl, _⟩ := dec_int e2
  obtain ⟨rfl, _⟩ := dec_int e3
  obtain ⟨rfl, _⟩ := dec_int e4
  obtain ⟨rfl, b3, b4⟩ := dec_list e5
  have hn : (ns.map Int.toNat).map (fun n : Nat => (n : Int)) = ns := by
    rw [List.map_map]
    conv => rhs; rw [← List.map_id ns]
    refine List.map_congr_left fun x hx => ?_
    exact Int.toNat_of_nonneg (b4 x hx).1
  refine ⟨iv, bl, bits, most, ns.map Int.toNat, ?_, by rw [List.length_map]; exact b3, ?_, ?_⟩
  · rw [hn]
    rfl
  · intro x hx
    obtain ⟨y, hy, rfl⟩ := List.mem_map.mp hx
    have h1 := (b4 y hy).2
    have h2 := (b4 y hy).1
    have h1' : y ≤ 255 := h1
    have h2' : 0 ≤ y := h2
    omega
  · refine post_list e ?_
    show WData.list ((PySv13.make iv bl bits most ns).map WData.int) = WData.list _
    rw [make_ans b3]
theorem all_ {P : Program} {w : World} {K : Frag} {h : Heap} {mg : Str → Option Value} (X : K.In h) (G : h.Ns mainGlobals mg)
    {f_0 : Addr} {od_0 an_0 : Option Addr} {sl_0 : Array (Option Value)} {oc_0 kV_0 dc_0 pm_0 cd_0 ct_0 : Value}
    {f_1 : Addr} {od_1 an_1 : Option Addr} {sl_1 : Array (Option Value)} {oc_1 kV_1 dc_1 pm_1 cd_1 ct_1 : Value}
    {f_2 : Addr} {od_2 an_2 : Option Addr} {sl_2 : Array (Option Value)} {oc_2 kV_2 dc_2 pm_2 cd_2 ct_2 : Value}
    {f_3 : Addr} {od_3 an_3 : Option Addr} {sl_3 : Array (Option Value)} {oc_3 kV_3 dc_3 pm_3 cd_3 ct_3 : Value}
    {f_4 : Addr} {od_4 an_4 : Option Addr} {sl_4 : Array (Option Value)} {oc_4 kV_4 dc_4 pm_4 cd_4 ct_4 : Value}
    {f_5 : Addr} {od_5 an_5 : Option Addr} {sl_5 : Array (Option Value)} {oc_5 kV_5 dc_5 pm_5 cd_5 ct_5 : Value}
    {f_6 : Addr} {od_6 an_6 : Option Addr} {sl_6 : Array (Option Value)} {oc_6 kV_6 dc_6 pm_6 cd_6 ct_6 : Value}
    {f_7 : Addr} {od_7 an_7 : Option Addr} {sl_7 : Array (Option Value)} {oc_7 kV_7 dc_7 pm_7 cd_7 ct_7 : Value}
    {f_8 : Addr} {od_8 an_8 : Option Addr} {sl_8 : Array (Option Value)} {oc_8 kV_8 dc_8 pm_8 cd_8 ct_8 : Value}
    {f_9 : Addr} {od_9 an_9 : Option Addr} {sl_9 : Array (Option Value)} {oc_9 kV_9 dc_9 pm_9 cd_9 ct_9 : Value}
    {f_10 : Addr} {od_10 an_10 : Option Addr} {sl_10 : Array (Option Value)} {oc_10 kV_10 dc_10 pm_10 cd_10 ct_10 : Value}
    {f_11 : Addr} {od_11 an_11 : Option Addr} {sl_11 : Array (Option Value)} {oc_11 kV_11 dc_11 pm_11 cd_11 ct_11 : Value}
    {f_12 : Addr} {od_12 an_12 : Option Addr} {sl_12 : Array (Option Value)} {oc_12 kV_12 dc_12 pm_12 cd_12 ct_12 : Value}
    {f_13 : Addr} {od_13 an_13 : Option Addr} {sl_13 : Array (Option Value)} {oc_13 kV_13 dc_13 pm_13 cd_13 ct_13 : Value}
    {f_14 : Addr} {od_14 an_14 : Option Addr} {sl_14 : Array (Option Value)} {oc_14 kV_14 dc_14 pm_14 cd_14 ct_14 : Value}
    {f_15 : Addr} {od_15 an_15 : Option Addr} {sl_15 : Array (Option Value)} {oc_15 kV_15 dc_15 pm_15 cd_15 ct_15 : Value}
    {f_16 : Addr} {od_16 an_16 : Option Addr} {sl_16 : Array (Option Value)} {oc_16 kV_16 dc_16 pm_16 cd_16 ct_16 : Value}
    {f_17 : Addr} {od_17 an_17 : Option Addr} {sl_17 : Array (Option Value)} {oc_17 kV_17 dc_17 pm_17 cd_17 ct_17 : Value}
    {f_18 : Addr} {od_18 an_18 : Option Addr} {sl_18 : Array (Option Value)} {oc_18 kV_18 dc_18 pm_18 cd_18 ct_18 : Value}
    {f_19 : Addr} {od_19 an_19 : Option Addr} {sl_19 : Array (Option Value)} {oc_19 kV_19 dc_19 pm_19 cd_19 ct_19 : Value}
    {f_20 : Addr} {od_20 an_20 : Option Addr} {sl_20 : Array (Option Value)} {oc_20 kV_20 dc_20 pm_20 cd_20 ct_20 : Value}
    {f_21 : Addr} {od_21 an_21 : Option Addr} {sl_21 : Array (Option Value)} {oc_21 kV_21 dc_21 pm_21 cd_21 ct_21 : Value}
    {f_22 : Addr} {od_22 an_22 : Option Addr} {sl_22 : Array (Option Value)} {oc_22 kV_22 dc_22 pm_22 cd_22 ct_22 : Value}
    {f_23 : Addr} {od_23 an_23 : Option Addr} {sl_23 : Array (Option Value)} {oc_23 kV_23 dc_23 pm_23 cd_23 ct_23 : Value}
    {f_24 : Addr} {od_24 an_24 : Option Addr} {sl_24 : Array (Option Value)} {oc_24 kV_24 dc_24 pm_24 cd_24 ct_24 : Value}
    {f_25 : Addr} {od_25 an_25 : Option Addr} {sl_25 : Array (Option Value)} {oc_25 kV_25 dc_25 pm_25 cd_25 ct_25 : Value}
    {f_26 : Addr} {od_26 an_26 : Option Addr} {sl_26 : Array (Option Value)} {oc_26 kV_26 dc_26 pm_26 cd_26 ct_26 : Value}
    {C_BlockWriter : Addr}
    {f_27 : Addr} {od_27 an_27 : Option Addr} {sl_27 : Array (Option Value)} {oc_27 kV_27 dc_27 pm_27 cd_27 ct_27 : Value}
    {f_28 : Addr} {od_28 an_28 : Option Addr} {sl_28 : Array (Option Value)} {oc_28 kV_28 dc_28 pm_28 cd_28 ct_28 : Value}
    {f_29 : Addr} {od_29 an_29 : Option Addr} {sl_29 : Array (Option Value)} {oc_29 kV_29 dc_29 pm_29 cd_29 ct_29 : Value}
    {f_30 : Addr} {od_30 an_30 : Option Addr} {sl_30 : Array (Option Value)} {oc_30 kV_30 dc_30 pm_30 cd_30 ct_30 : Value}
    {C_FilterWriter : Addr}
    {f_31 : Addr} {od_31 an_31 : Option Addr} {sl_31 : Array (Option Value)} {oc_31 kV_31 dc_31 pm_31 cd_31 ct_31 : Value}
    {f_32 : Addr} {od_32 an_32 : Option Addr} {sl_32 : Array (Option Value)} {oc_32 kV_32 dc_32 pm_32 cd_32 ct_32 : Value}
    {f_33 : Addr} {od_33 an_33 : Option Addr} {sl_33 : Array (Option Value)} {oc_33 kV_33 dc_33 pm_33 cd_33 ct_33 : Value}
    {f_34 : Addr} {od_34 an_34 : Option Addr} {sl_34 : Array (Option Value)} {oc_34 kV_34 dc_34 pm_34 cd_34 ct_34 : Value}
    {f_35 : Addr} {od_35 an_35 : Option Addr} {sl_35 : Array (Option Value)} {oc_35 kV_35 dc_35 pm_35 cd_35 ct_35 : Value}
    {f_36 : Addr} {od_36 an_36 : Option Addr} {sl_36 : Array (Option Value)} {oc_36 kV_36 dc_36 pm_36 cd_36 ct_36 : Value}
    {C_Handle : Addr}
    {f_37 : Addr} {od_37 an_37 : Option Addr} {sl_37 : Array (Option Value)} {oc_37 kV_37 dc_37 pm_37 cd_37 ct_37 : Value}
    {f_38 : Addr} {od_38 an_38 : Option Addr} {sl_38 : Array (Option Value)} {oc_38 kV_38 dc_38 pm_38 cd_38 ct_38 : Value}
    {f_39 : Addr} {od_39 an_39 : Option Addr} {sl_39 : Array (Option Value)} {oc_39 kV_39 dc_39 pm_39 cd_39 ct_39 : Value}
    {C_TableWriter : Addr}
    {f_40 : Addr} {od_40 an_40 : Option Addr} {sl_40 : Array (Option Value)} {oc_40 kV_40 dc_40 pm_40 cd_40 ct_40 : Value}
    {f_41 : Addr} {od_41 an_41 : Option Addr} {sl_41 : Array (Option Value)} {oc_41 kV_41 dc_41 pm_41 cd_41 ct_41 : Value}
    {f_42 : Addr} {od_42 an_42 : Option Addr} {sl_42 : Array (Option Value)} {oc_42 kV_42 dc_42 pm_42 cd_42 ct_42 : Value}
    {f_43 : Addr} {od_43 an_43 : Option Addr} {sl_43 : Array (Option Value)} {oc_43 kV_43 dc_43 pm_43 cd_43 ct_43 : Value}
    {f_44 : Addr} {od_44 an_44 : Option Addr} {sl_44 : Array (Option Value)} {oc_44 kV_44 dc_44 pm_44 cd_44 ct_44 : Value}
    {f_45 : Addr} {od_45 an_45 : Option Addr} {sl_45 : Array (Option Value)} {oc_45 kV_45 dc_45 pm_45 cd_45 ct_45 : Value}
    {f_46 : Addr} {od_46 an_46 : Option Addr} {sl_46 : Array (Option Value)} {oc_46 kV_46 dc_46 pm_46 cd_46 ct_46 : Value}
    {f_47 : Addr} {od_47 an_47 : Option Addr} {sl_47 : Array (Option Value)} {oc_47 kV_47 dc_47 pm_47 cd_47 ct_47 : Value}
    {t_OUT_OF_RANGE : Tok}
    {t_NO_ROWS : Tok}
    {t_TOO_LONG : Tok}
    {t_STRIDE : Tok}
    {t_NUMBER_WIDTH : Tok}
    {t_WORD : Tok}
    {t_HALF_WORD : Tok}
    {t_HASH_BEGIN : Tok}
    {t_HASH_FACTOR : Tok}
    {t_LANE : Tok}
    {t_PLACE_WIDTH : Tok}
    {t_MOST_PROBES : Tok}
    {t_STRETCH_BITS : Tok}
    {t_STRETCH : Tok}
    {t_TOGETHER : Tok}
    {t_ALL_ONES : Tok}
    {t_MASK_ADDEND : Tok}
    {rem : Addr} {od_rem : Option Addr} {n_rem : Nat} {sl_rem : Array (Option Value)} {arr : Array Value}
    {t_SEAL_WIDTH : Tok}
    {t_FILTER_NAME : Tok}
    {t_HANDLES_WIDTH : Tok}
    {t_MAGIC : Tok}
    {t_MAGIC_WIDTH : Tok}
    {t_LONGEST : Tok}
    {t_KEY_WIDTH : Tok}
    {t_VALUE_WIDTH : Tok}
    (a_0 : nsIn K mainGlobals "_wall" = some (some (.ref f_0)))
    (l_0 : K.lookup f_0 = some ⟨oc_0, od_0, .func (fnOf "_wall" "_wall" (defArgs s__wall) (defBody s__wall) (defScope s__wall) .none kV_0 dc_0 pm_0 an_0 cd_0 ct_0), sl_0⟩)
    (c_0 : codeIn K cd_0 "_wall" = true)
    (k_0 : keepIn K (.ref f_0) = true)
    (a_1 : nsIn K mainGlobals "shared_length" = some (some (.ref f_1)))
    (l_1 : K.lookup f_1 = some ⟨oc_1, od_1, .func (fnOf "shared_length" "shared_length" (defArgs s_shared_length) (defBody s_shared_length) (defScope s_shared_length) .none kV_1 dc_1 pm_1 an_1 cd_1 ct_1), sl_1⟩)
    (c_1 : codeIn K cd_1 "shared_length" = true)
    (k_1 : keepIn K (.ref f_1) = true)
    (a_2 : nsIn K mainGlobals "key_between" = some (some (.ref f_2)))
    (l_2 : K.lookup f_2 = some ⟨oc_2, od_2, .func (fnOf "key_between" "key_between" (defArgs s_key_between) (defBody s_key_between) (defScope s_key_between) .none kV_2 dc_2 pm_2 an_2 cd_2 ct_2), sl_2⟩)
    (c_2 : codeIn K cd_2 "key_between" = true)
    (k_2 : keepIn K (.ref f_2) = true)
    (a_3 : nsIn K mainGlobals "key_behind" = some (some (.ref f_3)))
    (l_3 : K.lookup f_3 = some ⟨oc_3, od_3, .func (fnOf "key_behind" "key_behind" (defArgs s_key_behind) (defBody s_key_behind) (defScope s_key_behind) .none kV_3 dc_3 pm_3 an_3 cd_3 ct_3), sl_3⟩)
    (c_3 : codeIn K cd_3 "key_behind" = true)
    (k_3 : keepIn K (.ref f_3) = true)
    (a_4 : nsIn K mainGlobals "fixed" = some (some (.ref f_4)))
    (l_4 : K.lookup f_4 = some ⟨oc_4, od_4, .func (fnOf "fixed" "fixed" (defArgs s_fixed) (defBody s_fixed) (defScope s_fixed) .none kV_4 dc_4 pm_4 an_4 cd_4 ct_4), sl_4⟩)
    (c_4 : codeIn K cd_4 "fixed" = true)
    (k_4 : keepIn K (.ref f_4) = true)
    (a_5 : nsIn K mainGlobals "number_at" = some (some (.ref f_5)))
    (l_5 : K.lookup f_5 = some ⟨oc_5, od_5, .func (fnOf "number_at" "number_at" (defArgs s_number_at) (defBody s_number_at) (defScope s_number_at) .none kV_5 dc_5 pm_5 an_5 cd_5 ct_5), sl_5⟩)
    (c_5 : codeIn K cd_5 "number_at" = true)
    (k_5 : keepIn K (.ref f_5) = true)
    (a_6 : nsIn K mainGlobals "varint" = some (some (.ref f_6)))
    (l_6 : K.lookup f_6 = some ⟨oc_6, od_6, .func (fnOf "varint" "varint" (defArgs s_varint) (defBody s_varint) (defScope s_varint) .none kV_6 dc_6 pm_6 an_6 cd_6 ct_6), sl_6⟩)
    (c_6 : codeIn K cd_6 "varint" = true)
    (k_6 : keepIn K (.ref f_6) = true)
    (a_7 : nsIn K mainGlobals "begun" = some (some (.ref f_7)))
    (l_7 : K.lookup f_7 = some ⟨oc_7, od_7, .func (fnOf "begun" "begun" (defArgs s_begun) (defBody s_begun) (defScope s_begun) .none kV_7 dc_7 pm_7 an_7 cd_7 ct_7), sl_7⟩)
    (c_7 : codeIn K cd_7 "begun" = true)
    (k_7 : keepIn K (.ref f_7) = true)
    (a_8 : nsIn K mainGlobals "words_of" = some (some (.ref f_8)))
    (l_8 : K.lookup f_8 = some ⟨oc_8, od_8, .func (fnOf "words_of" "words_of" (defArgs s_words_of) (defBody s_words_of) (defScope s_words_of) .none kV_8 dc_8 pm_8 an_8 cd_8 ct_8), sl_8⟩)
    (c_8 : codeIn K cd_8 "words_of" = true)
    (k_8 : keepIn K (.ref f_8) = true)
    (a_9 : nsIn K mainGlobals "mixed_together" = some (some (.ref f_9)))
    (l_9 : K.lookup f_9 = some ⟨oc_9, od_9, .func (fnOf "mixed_together" "mixed_together" (defArgs s_mixed_together) (defBody s_mixed_together) (defScope s_mixed_together) .none kV_9 dc_9 pm_9 an_9 cd_9 ct_9), sl_9⟩)
    (c_9 : codeIn K cd_9 "mixed_together" = true)
    (k_9 : keepIn K (.ref f_9) = true)
    (a_10 : nsIn K mainGlobals "mixed_on" = some (some (.ref f_10)))
    (l_10 : K.lookup f_10 = some ⟨oc_10, od_10, .func (fnOf "mixed_on" "mixed_on" (defArgs s_mixed_on) (defBody s_mixed_on) (defScope s_mixed_on) .none kV_10 dc_10 pm_10 an_10 cd_10 ct_10), sl_10⟩)
    (c_10 : codeIn K cd_10 "mixed_on" = true)
    (k_10 : keepIn K (.ref f_10) = true)
    (a_11 : nsIn K mainGlobals "key_hashes" = some (some (.ref f_11)))
    (l_11 : K.lookup f_11 = some ⟨oc_11, od_11, .func (fnOf "key_hashes" "key_hashes" (defArgs s_key_hashes) (defBody s_key_hashes) (defScope s_key_hashes) .none kV_11 dc_11 pm_11 an_11 cd_11 ct_11), sl_11⟩)
    (c_11 : codeIn K cd_11 "key_hashes" = true)
    (k_11 : keepIn K (.ref f_11) = true)
    (a_12 : nsIn K mainGlobals "bit_places" = some (some (.ref f_12)))
    (l_12 : K.lookup f_12 = some ⟨oc_12, od_12, .func (fnOf "bit_places" "bit_places" (defArgs s_bit_places) (defBody s_bit_places) (defScope s_bit_places) .none kV_12 dc_12 pm_12 an_12 cd_12 ct_12), sl_12⟩)
    (c_12 : codeIn K cd_12 "bit_places" = true)
    (k_12 : keepIn K (.ref f_12) = true)
    (a_13 : nsIn K mainGlobals "probes_for" = some (some (.ref f_13)))
    (l_13 : K.lookup f_13 = some ⟨oc_13, od_13, .func (fnOf "probes_for" "probes_for" (defArgs s_probes_for) (defBody s_probes_for) (defScope s_probes_for) .none kV_13 dc_13 pm_13 an_13 cd_13 ct_13), sl_13⟩)
    (c_13 : codeIn K cd_13 "probes_for" = true)
    (k_13 : keepIn K (.ref f_13) = true)
    (a_14 : nsIn K mainGlobals "piece_of" = some (some (.ref f_14)))
    (l_14 : K.lookup f_14 = some ⟨oc_14, od_14, .func (fnOf "piece_of" "piece_of" (defArgs s_piece_of) (defBody s_piece_of) (defScope s_piece_of) .none kV_14 dc_14 pm_14 an_14 cd_14 ct_14), sl_14⟩)
    (c_14 : codeIn K cd_14 "piece_of" = true)
    (k_14 : keepIn K (.ref f_14) = true)
    (a_15 : nsIn K mainGlobals "sum_from" = some (some (.ref f_15)))
    (l_15 : K.lookup f_15 = some ⟨oc_15, od_15, .func (fnOf "sum_from" "sum_from" (defArgs s_sum_from) (defBody s_sum_from) (defScope s_sum_from) .none kV_15 dc_15 pm_15 an_15 cd_15 ct_15), sl_15⟩)
    (c_15 : codeIn K cd_15 "sum_from" = true)
    (k_15 : keepIn K (.ref f_15) = true)
    (a_16 : nsIn K mainGlobals "masked" = some (some (.ref f_16)))
    (l_16 : K.lookup f_16 = some ⟨oc_16, od_16, .func (fnOf "masked" "masked" (defArgs s_masked) (defBody s_masked) (defScope s_masked) .none kV_16 dc_16 pm_16 an_16 cd_16 ct_16), sl_16⟩)
    (c_16 : codeIn K cd_16 "masked" = true)
    (k_16 : keepIn K (.ref f_16) = true)
    (a_17 : nsIn K mainGlobals "seal_of" = some (some (.ref f_17)))
    (l_17 : K.lookup f_17 = some ⟨oc_17, od_17, .func (fnOf "seal_of" "seal_of" (defArgs s_seal_of) (defBody s_seal_of) (defScope s_seal_of) .none kV_17 dc_17 pm_17 an_17 cd_17 ct_17), sl_17⟩)
    (c_17 : codeIn K cd_17 "seal_of" = true)
    (k_17 : keepIn K (.ref f_17) = true)
    (a_18 : nsIn K mainGlobals "filter_key" = some (some (.ref f_18)))
    (l_18 : K.lookup f_18 = some ⟨oc_18, od_18, .func (fnOf "filter_key" "filter_key" (defArgs s_filter_key) (defBody s_filter_key) (defScope s_filter_key) .none kV_18 dc_18 pm_18 an_18 cd_18 ct_18), sl_18⟩)
    (c_18 : codeIn K cd_18 "filter_key" = true)
    (k_18 : keepIn K (.ref f_18) = true)
    (a_19 : nsIn K mainGlobals "table_end" = some (some (.ref f_19)))
    (l_19 : K.lookup f_19 = some ⟨oc_19, od_19, .func (fnOf "table_end" "table_end" (defArgs s_table_end) (defBody s_table_end) (defScope s_table_end) .none kV_19 dc_19 pm_19 an_19 cd_19 ct_19), sl_19⟩)
    (c_19 : codeIn K cd_19 "table_end" = true)
    (k_19 : keepIn K (.ref f_19) = true)
    (a_20 : nsIn K mainGlobals "within" = some (some (.ref f_20)))
    (l_20 : K.lookup f_20 = some ⟨oc_20, od_20, .func (fnOf "within" "within" (defArgs s_within) (defBody s_within) (defScope s_within) .none kV_20 dc_20 pm_20 an_20 cd_20 ct_20), sl_20⟩)
    (c_20 : codeIn K cd_20 "within" = true)
    (k_20 : keepIn K (.ref f_20) = true)
    (a_21 : nsIn K mainGlobals "is_length" = some (some (.ref f_21)))
    (l_21 : K.lookup f_21 = some ⟨oc_21, od_21, .func (fnOf "is_length" "is_length" (defArgs s_is_length) (defBody s_is_length) (defScope s_is_length) .none kV_21 dc_21 pm_21 an_21 cd_21 ct_21), sl_21⟩)
    (c_21 : codeIn K cd_21 "is_length" = true)
    (k_21 : keepIn K (.ref f_21) = true)
    (a_22 : nsIn K mainGlobals "is_shape" = some (some (.ref f_22)))
    (l_22 : K.lookup f_22 = some ⟨oc_22, od_22, .func (fnOf "is_shape" "is_shape" (defArgs s_is_shape) (defBody s_is_shape) (defScope s_is_shape) .none kV_22 dc_22 pm_22 an_22 cd_22 ct_22), sl_22⟩)
    (c_22 : codeIn K cd_22 "is_shape" = true)
    (k_22 : keepIn K (.ref f_22) = true)
    (a_23 : nsIn K mainGlobals "finished_table" = some (some (.ref f_23)))
    (l_23 : K.lookup f_23 = some ⟨oc_23, od_23, .func (fnOf "finished_table" "finished_table" (defArgs s_finished_table) (defBody s_finished_table) (defScope s_finished_table) .none kV_23 dc_23 pm_23 an_23 cd_23 ct_23), sl_23⟩)
    (c_23 : codeIn K cd_23 "finished_table" = true)
    (k_23 : keepIn K (.ref f_23) = true)
    (a_24 : nsIn K mainGlobals "made_table" = some (some (.ref f_24)))
    (l_24 : K.lookup f_24 = some ⟨oc_24, od_24, .func (fnOf "made_table" "made_table" (defArgs s_made_table) (defBody s_made_table) (defScope s_made_table) .none kV_24 dc_24 pm_24 an_24 cd_24 ct_24), sl_24⟩)
    (c_24 : codeIn K cd_24 "made_table" = true)
    (k_24 : keepIn K (.ref f_24) = true)
    (a_25 : nsIn K mainGlobals "entries_of" = some (some (.ref f_25)))
    (l_25 : K.lookup f_25 = some ⟨oc_25, od_25, .func (fnOf "entries_of" "entries_of" (defArgs s_entries_of) (defBody s_entries_of) (defScope s_entries_of) .none kV_25 dc_25 pm_25 an_25 cd_25 ct_25), sl_25⟩)
    (c_25 : codeIn K cd_25 "entries_of" = true)
    (k_25 : keepIn K (.ref f_25) = true)
    (a_26 : nsIn K mainGlobals "make" = some (some (.ref f_26)))
    (l_26 : K.lookup f_26 = some ⟨oc_26, od_26, .func (fnOf "make" "make" (defArgs s_make) (defBody s_make) (defScope s_make) .none kV_26 dc_26 pm_26 an_26 cd_26 ct_26), sl_26⟩)
    (c_26 : codeIn K cd_26 "make" = true)
    (k_26 : keepIn K (.ref f_26) = true)
    (aC_BlockWriter : nsIn K mainGlobals "BlockWriter" = some (some (.ref C_BlockWriter)))
    (a_27 : findIn K (.ref C_BlockWriter) "__init__" = some (some (.ref f_27)))
    (i_27 : isFn K (.ref f_27) = true)
    (l_27 : K.lookup f_27 = some ⟨oc_27, od_27, .func (fnOf "__init__" "BlockWriter.__init__" (defArgs s_BlockWriter_init) (defBody s_BlockWriter_init) (defScope s_BlockWriter_init) .none kV_27 dc_27 pm_27 an_27 cd_27 ct_27), sl_27⟩)
    (c_27 : codeIn K cd_27 "BlockWriter.__init__" = true)
    (k_27 : keepIn K (.ref f_27) = true)
    (a_28 : findIn K (.ref C_BlockWriter) "put" = some (some (.ref f_28)))
    (i_28 : isFn K (.ref f_28) = true)
    (l_28 : K.lookup f_28 = some ⟨oc_28, od_28, .func (fnOf "put" "BlockWriter.put" (defArgs s_BlockWriter_put) (defBody s_BlockWriter_put) (defScope s_BlockWriter_put) .none kV_28 dc_28 pm_28 an_28 cd_28 ct_28), sl_28⟩)
    (c_28 : codeIn K cd_28 "BlockWriter.put" = true)
    (k_28 : keepIn K (.ref f_28) = true)
    (a_29 : findIn K (.ref C_BlockWriter) "size" = some (some (.ref f_29)))
    (i_29 : isFn K (.ref f_29) = true)
    (l_29 : K.lookup f_29 = some ⟨oc_29, od_29, .func (fnOf "size" "BlockWriter.size" (defArgs s_BlockWriter_size) (defBody s_BlockWriter_size) (defScope s_BlockWriter_size) .none kV_29 dc_29 pm_29 an_29 cd_29 ct_29), sl_29⟩)
    (c_29 : codeIn K cd_29 "BlockWriter.size" = true)
    (k_29 : keepIn K (.ref f_29) = true)
    (a_30 : findIn K (.ref C_BlockWriter) "content" = some (some (.ref f_30)))
    (i_30 : isFn K (.ref f_30) = true)
    (l_30 : K.lookup f_30 = some ⟨oc_30, od_30, .func (fnOf "content" "BlockWriter.content" (defArgs s_BlockWriter_content) (defBody s_BlockWriter_content) (defScope s_BlockWriter_content) .none kV_30 dc_30 pm_30 an_30 cd_30 ct_30), sl_30⟩)
    (c_30 : codeIn K cd_30 "BlockWriter.content" = true)
    (k_30 : keepIn K (.ref f_30) = true)
    (pg_BlockWriter : plainGet K C_BlockWriter Str.empty = true)
    (hd_BlockWriter : hasDictIn K C_BlockWriter = true)
    (po_BlockWriter : plainOver K C_BlockWriter = true)
    (sa_BlockWriter : findIn K (.ref C_BlockWriter) "__setattr__" = some (some (.builtin "object.__setattr__")))
    (mk_BlockWriter : makesIn K C_BlockWriter = true)
    (kc_BlockWriter : keepIn K (.ref C_BlockWriter) = true)
    (n_BlockWriter_interval : findIn K (.ref C_BlockWriter) "interval" = some none)
    (n_BlockWriter_body : findIn K (.ref C_BlockWriter) "body" = some none)
    (n_BlockWriter_restarts : findIn K (.ref C_BlockWriter) "restarts" = some none)
    (n_BlockWriter_entries : findIn K (.ref C_BlockWriter) "entries" = some none)
    (n_BlockWriter_last_key : findIn K (.ref C_BlockWriter) "last_key" = some none)
    (aC_FilterWriter : nsIn K mainGlobals "FilterWriter" = some (some (.ref C_FilterWriter)))
    (a_31 : findIn K (.ref C_FilterWriter) "__init__" = some (some (.ref f_31)))
    (i_31 : isFn K (.ref f_31) = true)
    (l_31 : K.lookup f_31 = some ⟨oc_31, od_31, .func (fnOf "__init__" "FilterWriter.__init__" (defArgs s_FilterWriter_init) (defBody s_FilterWriter_init) (defScope s_FilterWriter_init) .none kV_31 dc_31 pm_31 an_31 cd_31 ct_31), sl_31⟩)
    (c_31 : codeIn K cd_31 "FilterWriter.__init__" = true)
    (k_31 : keepIn K (.ref f_31) = true)
    (a_32 : findIn K (.ref C_FilterWriter) "put" = some (some (.ref f_32)))
    (i_32 : isFn K (.ref f_32) = true)
    (l_32 : K.lookup f_32 = some ⟨oc_32, od_32, .func (fnOf "put" "FilterWriter.put" (defArgs s_FilterWriter_put) (defBody s_FilterWriter_put) (defScope s_FilterWriter_put) .none kV_32 dc_32 pm_32 an_32 cd_32 ct_32), sl_32⟩)
    (c_32 : codeIn K cd_32 "FilterWriter.put" = true)
    (k_32 : keepIn K (.ref f_32) = true)
    (a_33 : findIn K (.ref C_FilterWriter) "hash_keys" = some (some (.ref f_33)))
    (i_33 : isFn K (.ref f_33) = true)
    (l_33 : K.lookup f_33 = some ⟨oc_33, od_33, .func (fnOf "hash_keys" "FilterWriter.hash_keys" (defArgs s_FilterWriter_hash_keys) (defBody s_FilterWriter_hash_keys) (defScope s_FilterWriter_hash_keys) .none kV_33 dc_33 pm_33 an_33 cd_33 ct_33), sl_33⟩)
    (c_33 : codeIn K cd_33 "FilterWriter.hash_keys" = true)
    (k_33 : keepIn K (.ref f_33) = true)
    (a_34 : findIn K (.ref C_FilterWriter) "end_block" = some (some (.ref f_34)))
    (i_34 : isFn K (.ref f_34) = true)
    (l_34 : K.lookup f_34 = some ⟨oc_34, od_34, .func (fnOf "end_block" "FilterWriter.end_block" (defArgs s_FilterWriter_end_block) (defBody s_FilterWriter_end_block) (defScope s_FilterWriter_end_block) .none kV_34 dc_34 pm_34 an_34 cd_34 ct_34), sl_34⟩)
    (c_34 : codeIn K cd_34 "FilterWriter.end_block" = true)
    (k_34 : keepIn K (.ref f_34) = true)
    (a_35 : findIn K (.ref C_FilterWriter) "hashes_by_piece" = some (some (.ref f_35)))
    (i_35 : isFn K (.ref f_35) = true)
    (l_35 : K.lookup f_35 = some ⟨oc_35, od_35, .func (fnOf "hashes_by_piece" "FilterWriter.hashes_by_piece" (defArgs s_FilterWriter_hashes_by_piece) (defBody s_FilterWriter_hashes_by_piece) (defScope s_FilterWriter_hashes_by_piece) .none kV_35 dc_35 pm_35 an_35 cd_35 ct_35), sl_35⟩)
    (c_35 : codeIn K cd_35 "FilterWriter.hashes_by_piece" = true)
    (k_35 : keepIn K (.ref f_35) = true)
    (a_36 : findIn K (.ref C_FilterWriter) "content" = some (some (.ref f_36)))
    (i_36 : isFn K (.ref f_36) = true)
    (l_36 : K.lookup f_36 = some ⟨oc_36, od_36, .func (fnOf "content" "FilterWriter.content" (defArgs s_FilterWriter_content) (defBody s_FilterWriter_content) (defScope s_FilterWriter_content) .none kV_36 dc_36 pm_36 an_36 cd_36 ct_36), sl_36⟩)
    (c_36 : codeIn K cd_36 "FilterWriter.content" = true)
    (k_36 : keepIn K (.ref f_36) = true)
    (pg_FilterWriter : plainGet K C_FilterWriter Str.empty = true)
    (hd_FilterWriter : hasDictIn K C_FilterWriter = true)
    (po_FilterWriter : plainOver K C_FilterWriter = true)
    (sa_FilterWriter : findIn K (.ref C_FilterWriter) "__setattr__" = some (some (.builtin "object.__setattr__")))
    (mk_FilterWriter : makesIn K C_FilterWriter = true)
    (kc_FilterWriter : keepIn K (.ref C_FilterWriter) = true)
    (n_FilterWriter_bits : findIn K (.ref C_FilterWriter) "bits" = some none)
    (n_FilterWriter_unhashed : findIn K (.ref C_FilterWriter) "unhashed" = some none)
    (n_FilterWriter_hashes : findIn K (.ref C_FilterWriter) "hashes" = some none)
    (n_FilterWriter_blocks : findIn K (.ref C_FilterWriter) "blocks" = some none)
    (aC_Handle : nsIn K mainGlobals "Handle" = some (some (.ref C_Handle)))
    (a_37 : findIn K (.ref C_Handle) "__init__" = some (some (.ref f_37)))
    (i_37 : isFn K (.ref f_37) = true)
    (l_37 : K.lookup f_37 = some ⟨oc_37, od_37, .func (fnOf "__init__" "Handle.__init__" (defArgs s_Handle_init) (defBody s_Handle_init) (defScope s_Handle_init) .none kV_37 dc_37 pm_37 an_37 cd_37 ct_37), sl_37⟩)
    (c_37 : codeIn K cd_37 "Handle.__init__" = true)
    (k_37 : keepIn K (.ref f_37) = true)
    (a_38 : findIn K (.ref C_Handle) "behind" = some (some (.ref f_38)))
    (i_38 : isFn K (.ref f_38) = true)
    (l_38 : K.lookup f_38 = some ⟨oc_38, od_38, .func (fnOf "behind" "Handle.behind" (defArgs s_Handle_behind) (defBody s_Handle_behind) (defScope s_Handle_behind) .none kV_38 dc_38 pm_38 an_38 cd_38 ct_38), sl_38⟩)
    (c_38 : codeIn K cd_38 "Handle.behind" = true)
    (k_38 : keepIn K (.ref f_38) = true)
    (a_39 : findIn K (.ref C_Handle) "packed" = some (some (.ref f_39)))
    (i_39 : isFn K (.ref f_39) = true)
    (l_39 : K.lookup f_39 = some ⟨oc_39, od_39, .func (fnOf "packed" "Handle.packed" (defArgs s_Handle_packed) (defBody s_Handle_packed) (defScope s_Handle_packed) .none kV_39 dc_39 pm_39 an_39 cd_39 ct_39), sl_39⟩)
    (c_39 : codeIn K cd_39 "Handle.packed" = true)
    (k_39 : keepIn K (.ref f_39) = true)
    (pg_Handle : plainGet K C_Handle Str.empty = true)
    (hd_Handle : hasDictIn K C_Handle = true)
    (po_Handle : plainOver K C_Handle = true)
    (sa_Handle : findIn K (.ref C_Handle) "__setattr__" = some (some (.builtin "object.__setattr__")))
    (mk_Handle : makesIn K C_Handle = true)
    (kc_Handle : keepIn K (.ref C_Handle) = true)
    (n_Handle_begin : findIn K (.ref C_Handle) "begin" = some none)
    (n_Handle_length : findIn K (.ref C_Handle) "length" = some none)
    (aC_TableWriter : nsIn K mainGlobals "TableWriter" = some (some (.ref C_TableWriter)))
    (a_40 : findIn K (.ref C_TableWriter) "__init__" = some (some (.ref f_40)))
    (i_40 : isFn K (.ref f_40) = true)
    (l_40 : K.lookup f_40 = some ⟨oc_40, od_40, .func (fnOf "__init__" "TableWriter.__init__" (defArgs s_TableWriter_init) (defBody s_TableWriter_init) (defScope s_TableWriter_init) .none kV_40 dc_40 pm_40 an_40 cd_40 ct_40), sl_40⟩)
    (c_40 : codeIn K cd_40 "TableWriter.__init__" = true)
    (k_40 : keepIn K (.ref f_40) = true)
    (a_41 : findIn K (.ref C_TableWriter) "put" = some (some (.ref f_41)))
    (i_41 : isFn K (.ref f_41) = true)
    (l_41 : K.lookup f_41 = some ⟨oc_41, od_41, .func (fnOf "put" "TableWriter.put" (defArgs s_TableWriter_put) (defBody s_TableWriter_put) (defScope s_TableWriter_put) .none kV_41 dc_41 pm_41 an_41 cd_41 ct_41), sl_41⟩)
    (c_41 : codeIn K cd_41 "TableWriter.put" = true)
    (k_41 : keepIn K (.ref f_41) = true)
    (a_42 : findIn K (.ref C_TableWriter) "reached" = some (some (.ref f_42)))
    (i_42 : isFn K (.ref f_42) = true)
    (l_42 : K.lookup f_42 = some ⟨oc_42, od_42, .func (fnOf "reached" "TableWriter.reached" (defArgs s_TableWriter_reached) (defBody s_TableWriter_reached) (defScope s_TableWriter_reached) .none kV_42 dc_42 pm_42 an_42 cd_42 ct_42), sl_42⟩)
    (c_42 : codeIn K cd_42 "TableWriter.reached" = true)
    (k_42 : keepIn K (.ref f_42) = true)
    (a_43 : findIn K (.ref C_TableWriter) "add_part" = some (some (.ref f_43)))
    (i_43 : isFn K (.ref f_43) = true)
    (l_43 : K.lookup f_43 = some ⟨oc_43, od_43, .func (fnOf "add_part" "TableWriter.add_part" (defArgs s_TableWriter_add_part) (defBody s_TableWriter_add_part) (defScope s_TableWriter_add_part) .none kV_43 dc_43 pm_43 an_43 cd_43 ct_43), sl_43⟩)
    (c_43 : codeIn K cd_43 "TableWriter.add_part" = true)
    (k_43 : keepIn K (.ref f_43) = true)
    (a_44 : findIn K (.ref C_TableWriter) "end_block" = some (some (.ref f_44)))
    (i_44 : isFn K (.ref f_44) = true)
    (l_44 : K.lookup f_44 = some ⟨oc_44, od_44, .func (fnOf "end_block" "TableWriter.end_block" (defArgs s_TableWriter_end_block) (defBody s_TableWriter_end_block) (defScope s_TableWriter_end_block) .none kV_44 dc_44 pm_44 an_44 cd_44 ct_44), sl_44⟩)
    (c_44 : codeIn K cd_44 "TableWriter.end_block" = true)
    (k_44 : keepIn K (.ref f_44) = true)
    (a_45 : findIn K (.ref C_TableWriter) "list_block" = some (some (.ref f_45)))
    (i_45 : isFn K (.ref f_45) = true)
    (l_45 : K.lookup f_45 = some ⟨oc_45, od_45, .func (fnOf "list_block" "TableWriter.list_block" (defArgs s_TableWriter_list_block) (defBody s_TableWriter_list_block) (defScope s_TableWriter_list_block) .none kV_45 dc_45 pm_45 an_45 cd_45 ct_45), sl_45⟩)
    (c_45 : codeIn K cd_45 "TableWriter.list_block" = true)
    (k_45 : keepIn K (.ref f_45) = true)
    (a_46 : findIn K (.ref C_TableWriter) "finish" = some (some (.ref f_46)))
    (i_46 : isFn K (.ref f_46) = true)
    (l_46 : K.lookup f_46 = some ⟨oc_46, od_46, .func (fnOf "finish" "TableWriter.finish" (defArgs s_TableWriter_finish) (defBody s_TableWriter_finish) (defScope s_TableWriter_finish) .none kV_46 dc_46 pm_46 an_46 cd_46 ct_46), sl_46⟩)
    (c_46 : codeIn K cd_46 "TableWriter.finish" = true)
    (k_46 : keepIn K (.ref f_46) = true)
    (a_47 : findIn K (.ref C_TableWriter) "append_to" = some (some (.ref f_47)))
    (i_47 : isFn K (.ref f_47) = true)
    (l_47 : K.lookup f_47 = some ⟨oc_47, od_47, .func (fnOf "append_to" "TableWriter.append_to" (defArgs s_TableWriter_append_to) (defBody s_TableWriter_append_to) (defScope s_TableWriter_append_to) .none kV_47 dc_47 pm_47 an_47 cd_47 ct_47), sl_47⟩)
    (c_47 : codeIn K cd_47 "TableWriter.append_to" = true)
    (k_47 : keepIn K (.ref f_47) = true)
    (pg_TableWriter : plainGet K C_TableWriter Str.empty = true)
    (hd_TableWriter : hasDictIn K C_TableWriter = true)
    (po_TableWriter : plainOver K C_TableWriter = true)
    (sa_TableWriter : findIn K (.ref C_TableWriter) "__setattr__" = some (some (.builtin "object.__setattr__")))
    (mk_TableWriter : makesIn K C_TableWriter = true)
    (kc_TableWriter : keepIn K (.ref C_TableWriter) = true)
    (n_TableWriter_interval : findIn K (.ref C_TableWriter) "interval" = some none)
    (n_TableWriter_target : findIn K (.ref C_TableWriter) "target" = some none)
    (n_TableWriter_filter_writer : findIn K (.ref C_TableWriter) "filter_writer" = some none)
    (n_TableWriter_parts : findIn K (.ref C_TableWriter) "parts" = some none)
    (n_TableWriter_end : findIn K (.ref C_TableWriter) "end" = some none)
    (n_TableWriter_block : findIn K (.ref C_TableWriter) "block" = some none)
    (n_TableWriter_last_key : findIn K (.ref C_TableWriter) "last_key" = some none)
    (n_TableWriter_index_writer : findIn K (.ref C_TableWriter) "index_writer" = some none)
    (n_TableWriter_unlisted : findIn K (.ref C_TableWriter) "unlisted" = some none)
    (n_TableWriter_ending : findIn K (.ref C_TableWriter) "ending" = some none)
    (g_OUT_OF_RANGE : nsIn K mainGlobals "OUT_OF_RANGE" = some (some (.int (-2) t_OUT_OF_RANGE)))
    (g_NO_ROWS : nsIn K mainGlobals "NO_ROWS" = some (some (.int (-4) t_NO_ROWS)))
    (g_TOO_LONG : nsIn K mainGlobals "TOO_LONG" = some (some (.int (-7) t_TOO_LONG)))
    (g_STRIDE : nsIn K mainGlobals "STRIDE" = some (some (.int 1024 t_STRIDE)))
    (g_NUMBER_WIDTH : nsIn K mainGlobals "NUMBER_WIDTH" = some (some (.int 4 t_NUMBER_WIDTH)))
    (g_WORD : nsIn K mainGlobals "WORD" = some (some (.int 4294967295 t_WORD)))
    (g_HALF_WORD : nsIn K mainGlobals "HALF_WORD" = some (some (.int 65535 t_HALF_WORD)))
    (g_HASH_BEGIN : nsIn K mainGlobals "HASH_BEGIN" = some (some (.int 3164544308 t_HASH_BEGIN)))
    (g_HASH_FACTOR : nsIn K mainGlobals "HASH_FACTOR" = some (some (.int 3332679571 t_HASH_FACTOR)))
    (g_LANE : nsIn K mainGlobals "LANE" = some (some (.int 66 t_LANE)))
    (g_PLACE_WIDTH : nsIn K mainGlobals "PLACE_WIDTH" = some (some (.int 4 t_PLACE_WIDTH)))
    (g_MOST_PROBES : nsIn K mainGlobals "MOST_PROBES" = some (some (.int 30 t_MOST_PROBES)))
    (g_STRETCH_BITS : nsIn K mainGlobals "STRETCH_BITS" = some (some (.int 11 t_STRETCH_BITS)))
    (g_STRETCH : nsIn K mainGlobals "STRETCH" = some (some (.int 2048 t_STRETCH)))
    (g_TOGETHER : nsIn K mainGlobals "TOGETHER" = some (some (.int 128 t_TOGETHER)))
    (g_ALL_ONES : nsIn K mainGlobals "ALL_ONES" = some (some (.int 4294967295 t_ALL_ONES)))
    (g_MASK_ADDEND : nsIn K mainGlobals "MASK_ADDEND" = some (some (.int 2726488792 t_MASK_ADDEND)))
    (gr1 : nsIn K mainGlobals "REMAINDERS" = some (some (.ref rem)))
    (gr2 : K.lookup rem = some ⟨.type "tuple", od_rem, .seq arr n_rem, sl_rem⟩)
    (gr3 : chkT My.tab8 arr.toList = true)
    (g_SEAL_WIDTH : nsIn K mainGlobals "SEAL_WIDTH" = some (some (.int 5 t_SEAL_WIDTH)))
    (g_FILTER_NAME : nsIn K mainGlobals "FILTER_NAME" = some (some (.str "filter.leveldb.BuiltinBloomFilter2" t_FILTER_NAME)))
    (g_HANDLES_WIDTH : nsIn K mainGlobals "HANDLES_WIDTH" = some (some (.int 40 t_HANDLES_WIDTH)))
    (g_MAGIC : nsIn K mainGlobals "MAGIC" = some (some (.int 15800726617472432983 t_MAGIC)))
    (g_MAGIC_WIDTH : nsIn K mainGlobals "MAGIC_WIDTH" = some (some (.int 8 t_MAGIC_WIDTH)))
    (g_LONGEST : nsIn K mainGlobals "LONGEST" = some (some (.int 16777216 t_LONGEST)))
    (g_KEY_WIDTH : nsIn K mainGlobals "KEY_WIDTH" = some (some (.int 2 t_KEY_WIDTH)))
    (g_VALUE_WIDTH : nsIn K mainGlobals "VALUE_WIDTH" = some (some (.int 4 t_VALUE_WIDTH)))
    (z_len : nsIn K mainGlobals "len" = some none)
    (z_range : nsIn K mainGlobals "range" = some none)
    (z_zip : nsIn K mainGlobals "zip" = some none)
    (z_enumerate : nsIn K mainGlobals "enumerate" = some none)
    (z_list : nsIn K mainGlobals "list" = some none)
    (z_min : nsIn K mainGlobals "min" = some none)
    (z_max : nsIn K mainGlobals "max" = some none)
    (z_ord : nsIn K mainGlobals "ord" = some none)
    (base : Heap) : Fx P w K mg base "make" 9 ["interval", "block", "bits", "most", "rows"] (sp_make K) := by
  have C : Consts K mg := ⟨int_mk X G g_OUT_OF_RANGE, int_mk X G g_NO_ROWS, int_mk X G g_TOO_LONG, int_mk X G g_STRIDE, int_mk X G g_NUMBER_WIDTH, int_mk X G g_WORD, int_mk X G g_HALF_WORD, int_mk X G g_HASH_BEGIN, int_mk X G g_HASH_FACTOR, int_mk X G g_LANE, int_mk X G g_PLACE_WIDTH, int_mk X G g_MOST_PROBES, int_mk X G g_STRETCH_BITS, int_mk X G g_STRETCH, int_mk X G g_TOGETHER, int_mk X G g_ALL_ONES, int_mk X G g_MASK_ADDEND, rem_mk X G gr1 gr2 gr3, int_mk X G g_SEAL_WIDTH, str_mk X G g_FILTER_NAME, int_mk X G g_HANDLES_WIDTH, int_mk X G g_MAGIC, int_mk X G g_MAGIC_WIDTH, int_mk X G g_LONGEST, int_mk X G g_KEY_WIDTH, int_mk X G g_VALUE_WIDTH, mg_none_of X G z_len, mg_none_of X G z_range, mg_none_of X G z_zip, mg_none_of X G z_enumerate, mg_none_of X G z_list, mg_none_of X G z_min, mg_none_of X G z_max, mg_none_of X G z_ord⟩
  have D__wall := def_mk (st := s__wall) X G a_0 l_0 c_0 k_0
  have D_shared_length := def_mk (st := s_shared_length) X G a_1 l_1 c_1 k_1
  have D_key_between := def_mk (st := s_key_between) X G a_2 l_2 c_2 k_2
  have D_key_behind := def_mk (st := s_key_behind) X G a_3 l_3 c_3 k_3
  have D_fixed := def_mk (st := s_fixed) X G a_4 l_4 c_4 k_4
  have D_number_at := def_mk (st := s_number_at) X G a_5 l_5 c_5 k_5
  have D_varint := def_mk (st := s_varint) X G a_6 l_6 c_6 k_6
  have D_begun := def_mk (st := s_begun) X G a_7 l_7 c_7 k_7
  have D_words_of := def_mk (st := s_words_of) X G a_8 l_8 c_8 k_8
  have D_mixed_together := def_mk (st := s_mixed_together) X G a_9 l_9 c_9 k_9
  have D_mixed_on := def_mk (st := s_mixed_on) X G a_10 l_10 c_10 k_10
  have D_key_hashes := def_mk (st := s_key_hashes) X G a_11 l_11 c_11 k_11
  have D_bit_places := def_mk (st := s_bit_places) X G a_12 l_12 c_12 k_12
  have D_probes_for := def_mk (st := s_probes_for) X G a_13 l_13 c_13 k_13
  have D_piece_of := def_mk (st := s_piece_of) X G a_14 l_14 c_14 k_14
  have D_sum_from := def_mk (st := s_sum_from) X G a_15 l_15 c_15 k_15
  have D_masked := def_mk (st := s_masked) X G a_16 l_16 c_16 k_16
  have D_seal_of := def_mk (st := s_seal_of) X G a_17 l_17 c_17 k_17
  have D_filter_key := def_mk (st := s_filter_key) X G a_18 l_18 c_18 k_18
  have D_table_end := def_mk (st := s_table_end) X G a_19 l_19 c_19 k_19
  have D_within := def_mk (st := s_within) X G a_20 l_20 c_20 k_20
  have D_is_length := def_mk (st := s_is_length) X G a_21 l_21 c_21 k_21
  have D_is_shape := def_mk (st := s_is_shape) X G a_22 l_22 c_22 k_22
  have D_finished_table := def_mk (st := s_finished_table) X G a_23 l_23 c_23 k_23
  have D_made_table := def_mk (st := s_made_table) X G a_24 l_24 c_24 k_24
  have D_entries_of := def_mk (st := s_entries_of) X G a_25 l_25 c_25 k_25
  have D_make := def_mk (st := s_make) X G a_26 l_26 c_26 k_26
  have L_BlockWriter : Cls K C_BlockWriter := ⟨pg_BlockWriter, hd_BlockWriter, po_BlockWriter, sa_BlockWriter⟩
  have T_BlockWriter : BlockWriterCls K C_BlockWriter := ⟨L_BlockWriter, n_BlockWriter_interval, n_BlockWriter_body, n_BlockWriter_restarts, n_BlockWriter_entries, n_BlockWriter_last_key⟩
  have M_BlockWriter_init : MakeAt K mg "BlockWriter" C_BlockWriter "BlockWriter.__init__" s_BlockWriter_init := ⟨_, _, mg_of X G aC_BlockWriter, ⟨mk_BlockWriter, a_27, i_27, kc_BlockWriter⟩, fun_mk l_27 c_27 k_27⟩
  have M_BlockWriter_put : MethAt K C_BlockWriter "put" "BlockWriter.put" s_BlockWriter_put := ⟨_, _, ⟨a_28, i_28, k_28⟩, fun_mk l_28 c_28 k_28⟩
  have M_BlockWriter_size : MethAt K C_BlockWriter "size" "BlockWriter.size" s_BlockWriter_size := ⟨_, _, ⟨a_29, i_29, k_29⟩, fun_mk l_29 c_29 k_29⟩
  have M_BlockWriter_content : MethAt K C_BlockWriter "content" "BlockWriter.content" s_BlockWriter_content := ⟨_, _, ⟨a_30, i_30, k_30⟩, fun_mk l_30 c_30 k_30⟩
  have L_FilterWriter : Cls K C_FilterWriter := ⟨pg_FilterWriter, hd_FilterWriter, po_FilterWriter, sa_FilterWriter⟩
  have T_FilterWriter : FilterWriterCls K C_FilterWriter := ⟨L_FilterWriter, n_FilterWriter_bits, n_FilterWriter_unhashed, n_FilterWriter_hashes, n_FilterWriter_blocks⟩
  have M_FilterWriter_init : MakeAt K mg "FilterWriter" C_FilterWriter "FilterWriter.__init__" s_FilterWriter_init := ⟨_, _, mg_of X G aC_FilterWriter, ⟨mk_FilterWriter, a_31, i_31, kc_FilterWriter⟩, fun_mk l_31 c_31 k_31⟩
  have M_FilterWriter_put : MethAt K C_FilterWriter "put" "FilterWriter.put" s_FilterWriter_put := ⟨_, _, ⟨a_32, i_32, k_32⟩, fun_mk l_32 c_32 k_32⟩
  have M_FilterWriter_hash_keys : MethAt K C_FilterWriter "hash_keys" "FilterWriter.hash_keys" s_FilterWriter_hash_keys := ⟨_, _, ⟨a_33, i_33, k_33⟩, fun_mk l_33 c_33 k_33⟩
  have M_FilterWriter_end_block : MethAt K C_FilterWriter "end_block" "FilterWriter.end_block" s_FilterWriter_end_block := ⟨_, _, ⟨a_34, i_34, k_34⟩, fun_mk l_34 c_34 k_34⟩
  have M_FilterWriter_hashes_by_piece : MethAt K C_FilterWriter "hashes_by_piece" "FilterWriter.hashes_by_piece" s_FilterWriter_hashes_by_piece := ⟨_, _, ⟨a_35, i_35, k_35⟩, fun_mk l_35 c_35 k_35⟩
  have M_FilterWriter_content : MethAt K C_FilterWriter "content" "FilterWriter.content" s_FilterWriter_content := ⟨_, _, ⟨a_36, i_36, k_36⟩, fun_mk l_36 c_36 k_36⟩
  have L_Handle : Cls K C_Handle := ⟨pg_Handle, hd_Handle, po_Handle, sa_Handle⟩
  have T_Handle : HandleCls K C_Handle := ⟨L_Handle, n_Handle_begin, n_Handle_length⟩
  have M_Handle_init : MakeAt K mg "Handle" C_Handle "Handle.__init__" s_Handle_init := ⟨_, _, mg_of X G aC_Handle, ⟨mk_Handle, a_37, i_37, kc_Handle⟩, fun_mk l_37 c_37 k_37⟩
  have M_Handle_behind : MethAt K C_Handle "behind" "Handle.behind" s_Handle_behind := ⟨_, _, ⟨a_38, i_38, k_38⟩, fun_mk l_38 c_38 k_38⟩
  have M_Handle_packed : MethAt K C_Handle "packed" "Handle.packed" s_Handle_packed := ⟨_, _, ⟨a_39, i_39, k_39⟩, fun_mk l_39 c_39 k_39⟩
  have L_TableWriter : Cls K C_TableWriter := ⟨pg_TableWriter, hd_TableWriter, po_TableWriter, sa_TableWriter⟩
  have T_TableWriter : TableWriterCls K C_TableWriter := ⟨L_TableWriter, n_TableWriter_interval, n_TableWriter_target, n_TableWriter_filter_writer, n_TableWriter_parts, n_TableWriter_end, n_TableWriter_block, n_TableWriter_last_key, n_TableWriter_index_writer, n_TableWriter_unlisted, n_TableWriter_ending⟩
  have M_TableWriter_init : MakeAt K mg "TableWriter" C_TableWriter "TableWriter.__init__" s_TableWriter_init := ⟨_, _, mg_of X G aC_TableWriter, ⟨mk_TableWriter, a_40, i_40, kc_TableWriter⟩, fun_mk l_40 c_40 k_40⟩
  have M_TableWriter_put : MethAt K C_TableWriter "put" "TableWriter.put" s_TableWriter_put := ⟨_, _, ⟨a_41, i_41, k_41⟩, fun_mk l_41 c_41 k_41⟩
  have M_TableWriter_reached : MethAt K C_TableWriter "reached" "TableWriter.reached" s_TableWriter_reached := ⟨_, _, ⟨a_42, i_42, k_42⟩, fun_mk l_42 c_42 k_42⟩
  have M_TableWriter_add_part : MethAt K C_TableWriter "add_part" "TableWriter.add_part" s_TableWriter_add_part := ⟨_, _, ⟨a_43, i_43, k_43⟩, fun_mk l_43 c_43 k_43⟩
  have M_TableWriter_end_block : MethAt K C_TableWriter "end_block" "TableWriter.end_block" s_TableWriter_end_block := ⟨_, _, ⟨a_44, i_44, k_44⟩, fun_mk l_44 c_44 k_44⟩
  have M_TableWriter_list_block : MethAt K C_TableWriter "list_block" "TableWriter.list_block" s_TableWriter_list_block := ⟨_, _, ⟨a_45, i_45, k_45⟩, fun_mk l_45 c_45 k_45⟩
  have M_TableWriter_finish : MethAt K C_TableWriter "finish" "TableWriter.finish" s_TableWriter_finish := ⟨_, _, ⟨a_46, i_46, k_46⟩, fun_mk l_46 c_46 k_46⟩
  have M_TableWriter_append_to : MethAt K C_TableWriter "append_to" "TableWriter.append_to" s_TableWriter_append_to := ⟨_, _, ⟨a_47, i_47, k_47⟩, fun_mk l_47 c_47 k_47⟩
  have F_within := fx_within (P := P) (w := w) (base := base) D_within
  have F_is_length := fx_is_length D_is_length C F_within
  have F_is_shape := fx_is_shape D_is_shape F_within
  have F_sum_from := fx_sum_from (P := P) (w := w) (base := base) D_sum_from C
  have F_masked := fx_masked (P := P) (w := w) (base := base) D_masked C
  have F_fixed := fx_fixed (P := P) (w := w) (base := base) D_fixed C
  have F_number_at := fx_number_at (P := P) (w := w) (base := base) D_number_at C
  have F_varint := fx_varint (P := P) (w := w) (base := base) D_varint C
  have F_shared := fx_shared_length (P := P) (w := w) (base := base) D_shared_length C
  have F_between := fx_key_between D_key_between C F_shared
  have F_behind := fx_key_behind (P := P) (w := w) (base := base) D_key_behind C
  have X_W := mx_W_init (P := P) (w := w) (base := base) M_BlockWriter_init T_BlockWriter
  have M_Wsize := mx_W_size (P := P) (w := w) (base := base) M_BlockWriter_size T_BlockWriter C
  have M_Wcontent := mx_W_content M_BlockWriter_content T_BlockWriter C F_fixed
  have M_Wput := mx_W_put M_BlockWriter_put T_BlockWriter C F_shared F_varint
  have X_Handle := mx_Handle_init (P := P) (w := w) (base := base) M_Handle_init T_Handle
  have M_behind := mx_behind (P := P) (w := w) (base := base) M_Handle_behind T_Handle C
  have M_packed := mx_packed M_Handle_packed T_Handle F_varint
  have F_seal := fx_seal_of D_seal_of C F_fixed F_masked F_sum_from
  have F_begun := fx_begun (P := P) (w := w) (base := base) D_begun C
  have F_words := fx_words_of (P := P) (w := w) (base := base) D_words_of C
  have F_mixed_on := fx_mixed_on D_mixed_on C F_number_at F_words
  have F_bp := fx_bit_places (P := P) (w := w) (base := base) D_bit_places C
  have F_together := fx_mixed_together D_mixed_together C F_begun F_words
  have F_hashes := fx_key_hashes D_key_hashes C F_shared F_together F_mixed_on
  have F_probes := fx_probes_for (P := P) (w := w) (base := base) D_probes_for C
  have F_piece := fx_piece_of D_piece_of C F_probes F_bp
  have X_F := mx_F_init (P := P) (w := w) (base := base) M_FilterWriter_init T_FilterWriter
  have M_Fhash := mx_F_hash M_FilterWriter_hash_keys T_FilterWriter F_hashes
  have M_Fput := mx_F_put M_FilterWriter_put T_FilterWriter C M_Fhash
  have M_Fend := mx_F_end (P := P) (w := w) (base := base) M_FilterWriter_end_block T_FilterWriter C
  have M_Fpieces := mx_F_pieces (P := P) (w := w) (base := base) M_FilterWriter_hashes_by_piece T_FilterWriter C
  have M_Fcontent := mx_F_content M_FilterWriter_content T_FilterWriter C M_Fhash M_Fpieces F_piece F_fixed
  have F_fkey := fx_filter_key (P := P) (w := w) (base := base) D_filter_key C
  have F_tend := fx_table_end D_table_end C M_packed F_fixed
  have M_add := mx_add_part M_TableWriter_add_part T_TableWriter C X_Handle M_behind
  have M_list := mx_list (Cf := C_FilterWriter) M_TableWriter_list_block T_TableWriter M_Wput M_packed
  have M_endb := mx_endb M_TableWriter_end_block T_TableWriter C M_Fend M_add M_Wcontent X_W
  have M_tput := mx_put M_TableWriter_put T_TableWriter M_list F_between M_Wput M_Fput M_Wsize M_endb
  have X_T := mx_T_init (Ch := C_Handle) M_TableWriter_init T_TableWriter X_F X_W
  have M_finish := mx_finish M_TableWriter_finish T_TableWriter T_BlockWriter C M_endb M_list F_behind X_W M_add M_Fcontent M_Wput F_fkey M_packed M_Wcontent F_tend
  have M_append := mx_append M_TableWriter_append_to T_TableWriter F_seal
  have F_finished := fx_finished D_finished_table C M_finish M_append
  have F_entries := fx_entries_of D_entries_of C F_number_at
  have F_made := fx_made D_made_table X_T M_tput F_finished
  exact fx_make D_make C F_is_length F_is_shape F_entries F_made
end KL
def PySem.W.Fast.tw15853928136453854705 : Unit := ()
def PySem.W.Fast.tw12837825194328013505 : Unit := ()
def PySem.W.Fast.tw10915871542508223951 : Unit := ()
def PySem.W.Fast.tw17959130336955898644 : Unit := ()
def PySem.W.Fast.tw10942056691934274781 : Unit := ()
def PySem.W.Fast.tw11112400870638991891 : Unit := ()
def PySem.W.Fast.tw7889955204789503196 : Unit := ()
def PySem.W.Fast.tw14507333472233048737 : Unit := ()
def PySem.W.Fast.tw2975089901629826101 : Unit := ()
def PySem.W.Fast.tw8634472247686388999 : Unit := ()
def PySem.W.Fast.tw18420909672736008174 : Unit := ()
def PySem.W.Fast.tw16417392067255146819 : Unit := ()
def PySem.W.Fast.tw12833630250342886596 : Unit := ()
open PySem PySem.W PyProof.Rows
set_option maxRecDepth 100000 in
set_option maxHeartbeats 0 in
theorem PySem.Challenge.cw_keylogs_s02_make_holds : PySem.Challenge.rw_keylogs_s02_make.Holds := by
  w_on; k_headS; (case hw => exact ⟨[.int 0, .int 0, .int 0, .int 0, .list []], by decide +kernel, by decide +kernel⟩)
  k_fillS
  refine KL.walk_ofS (r := PySem.Challenge.rw_keylogs_s02_make) (k := 9) (ps := ["interval", "block", "bits", "most", "rows"]) (sp := KL.sp_make) rfl ⟨rfl, by decide, by decide⟩ (fun w h Y => PySem.W.kIn_of Y) ?A ?F
  case A =>
    intro args hpre
    obtain ⟨iv, bl, bits, most, rows, h1, h2, h3, h4⟩ := KL.args_ args hpre
    refine ⟨_, KL.makeAns iv bl bits most rows, h1, ?_, rfl, h4, ?_⟩
    · intro g hg
      simp only [List.mem_cons, List.not_mem_nil, or_false] at hg
      rcases hg with rfl | rfl | rfl | rfl | rfl
      · trivial
      · trivial
      · trivial
      · trivial
      · show (rows.map fun n : Nat => (n : Int)).length ≤ PySem.sizeLine
        rw [List.length_map]
        exact KL.le_size (by omega)
    · intro w H vs hO hp
      cases hp with
      | cons p1 hp =>
        cases hp with
        | cons p2 hp =>
          cases hp with
          | cons p3 hp =>
            cases hp with
            | cons p4 hp =>
              cases hp with
              | cons p5 hp =>
                cases hp
                cases p1
                cases p2
                cases p3
                cases p4
                obtain ⟨a, rfl, hS⟩ := p5
                exact ⟨iv, bl, bits, most, a, rows, rfl, KL.seq_back hS, h3, h2, fun l H' s hl h => ⟨l, rfl, .inl (.inl h)⟩⟩
  case F =>
    intro w mg h KX G base _ _
    refine' KL.all_ KX G ?a_0 ?l_0 ?c_0 ?k_0 ?a_1 ?l_1 ?c_1 ?k_1 ?a_2 ?l_2 ?c_2 ?k_2 ?a_3 ?l_3 ?c_3 ?k_3 ?a_4 ?l_4 ?c_4 ?k_4 ?a_5 ?l_5 ?c_5 ?k_5 ?a_6 ?l_6 ?c_6 ?k_6 ?a_7 ?l_7 ?c_7 ?k_7 ?a_8 ?l_8 ?c_8 ?k_8 ?a_9 ?l_9 ?c_9 ?k_9 ?a_10 ?l_10 ?c_10 ?k_10 ?a_11 ?l_11 ?c_11 ?k_11 ?a_12 ?l_12 ?c_12 ?k_12 ?a_13 ?l_13 ?c_13 ?k_13 ?a_14 ?l_14 ?c_14 ?k_14 ?a_15 ?l_15 ?c_15 ?k_15 ?a_16 ?l_16 ?c_16 ?k_16 ?a_17 ?l_17 ?c_17 ?k_17 ?a_18 ?l_18 ?c_18 ?k_18 ?a_19 ?l_19 ?c_19 ?k_19 ?a_20 ?l_20 ?c_20 ?k_20 ?a_21 ?l_21 ?c_21 ?k_21 ?a_22 ?l_22 ?c_22 ?k_22 ?a_23 ?l_23 ?c_23 ?k_23 ?a_24 ?l_24 ?c_24 ?k_24 ?a_25 ?l_25 ?c_25 ?k_25 ?a_26 ?l_26 ?c_26 ?k_26 ?aC_BlockWriter ?a_27 ?i_27 ?l_27 ?c_27 ?k_27 ?a_28 ?i_28 ?l_28 ?c_28 ?k_28 ?a_29 ?i_29 ?l_29 ?c_29 ?k_29 ?a_30 ?i_30 ?l_30 ?c_30 ?k_30 ?pg_BlockWriter ?hd_BlockWriter ?po_BlockWriter ?sa_BlockWriter ?mk_BlockWriter ?kc_BlockWriter ?n_BlockWriter_interval ?n_BlockWriter_body ?n_BlockWriter_restarts ?n_BlockWriter_entries ?n_BlockWriter_last_key ?aC_FilterWriter ?a_31 ?i_31 ?l_31 ?c_31 ?k_31 ?a_32 ?i_32 ?l_32 ?c_32 ?k_32 ?a_33 ?i_33 ?l_33 ?c_33 ?k_33 ?a_34 ?i_34 ?l_34 ?c_34 ?k_34 ?a_35 ?i_35 ?l_35 ?c_35 ?k_35 ?a_36 ?i_36 ?l_36 ?c_36 ?k_36 ?pg_FilterWriter ?hd_FilterWriter ?po_FilterWriter ?sa_FilterWriter ?mk_FilterWriter ?kc_FilterWriter ?n_FilterWriter_bits ?n_FilterWriter_unhashed ?n_FilterWriter_hashes ?n_FilterWriter_blocks ?aC_Handle ?a_37 ?i_37 ?l_37 ?c_37 ?k_37 ?a_38 ?i_38 ?l_38 ?c_38 ?k_38 ?a_39 ?i_39 ?l_39 ?c_39 ?k_39 ?pg_Handle ?hd_Handle ?po_Handle ?sa_Handle ?mk_Handle ?kc_Handle ?n_Handle_begin ?n_Handle_length ?aC_TableWriter ?a_40 ?i_40 ?l_40 ?c_40 ?k_40 ?a_41 ?i_41 ?l_41 ?c_41 ?k_41 ?a_42 ?i_42 ?l_42 ?c_42 ?k_42 ?a_43 ?i_43 ?l_43 ?c_43 ?k_43 ?a_44 ?i_44 ?l_44 ?c_44 ?k_44 ?a_45 ?i_45 ?l_45 ?c_45 ?k_45 ?a_46 ?i_46 ?l_46 ?c_46 ?k_46 ?a_47 ?i_47 ?l_47 ?c_47 ?k_47 ?pg_TableWriter ?hd_TableWriter ?po_TableWriter ?sa_TableWriter ?mk_TableWriter ?kc_TableWriter ?n_TableWriter_interval ?n_TableWriter_target ?n_TableWriter_filter_writer ?n_TableWriter_parts ?n_TableWriter_end ?n_TableWriter_block ?n_TableWriter_last_key ?n_TableWriter_index_writer ?n_TableWriter_unlisted ?n_TableWriter_ending ?g_OUT_OF_RANGE ?g_NO_ROWS ?g_TOO_LONG ?g_STRIDE ?g_NUMBER_WIDTH ?g_WORD ?g_HALF_WORD ?g_HASH_BEGIN ?g_HASH_FACTOR ?g_LANE ?g_PLACE_WIDTH ?g_MOST_PROBES ?g_STRETCH_BITS ?g_STRETCH ?g_TOGETHER ?g_ALL_ONES ?g_MASK_ADDEND ?gr1 ?gr2 ?gr3 ?g_SEAL_WIDTH ?g_FILTER_NAME ?g_HANDLES_WIDTH ?g_MAGIC ?g_MAGIC_WIDTH ?g_LONGEST ?g_KEY_WIDTH ?g_VALUE_WIDTH ?z_len ?z_range ?z_zip ?z_enumerate ?z_list ?z_min ?z_max ?z_ord base
    case a_0|l_0|c_0|k_0|a_1|l_1|c_1|k_1|a_2|l_2|c_2|k_2|a_3|l_3|c_3|k_3|a_4|l_4|c_4|k_4|a_5|l_5|c_5|k_5|a_6|l_6|c_6|k_6|a_7|l_7|c_7|k_7|a_8|l_8|c_8|k_8|a_9|l_9|c_9|k_9|a_10|l_10|c_10|k_10|a_11|l_11|c_11|k_11|a_12|l_12|c_12|k_12|a_13|l_13|c_13|k_13|a_14|l_14|c_14|k_14|a_15|l_15|c_15|k_15|a_16|l_16|c_16|k_16|a_17|l_17|c_17|k_17|a_18|l_18|c_18|k_18|a_19|l_19|c_19|k_19|a_20|l_20|c_20|k_20|a_21|l_21|c_21|k_21|a_22|l_22|c_22|k_22|a_23|l_23|c_23|k_23|a_24|l_24|c_24|k_24|a_25|l_25|c_25|k_25|a_26|l_26|c_26|k_26|aC_BlockWriter|a_27|i_27|l_27|c_27|k_27|a_28|i_28|l_28|c_28|k_28|a_29|i_29|l_29|c_29|k_29|a_30|i_30|l_30|c_30|k_30|pg_BlockWriter|hd_BlockWriter|po_BlockWriter|sa_BlockWriter|mk_BlockWriter|kc_BlockWriter|n_BlockWriter_interval|n_BlockWriter_body|n_BlockWriter_restarts|n_BlockWriter_entries|n_BlockWriter_last_key|aC_FilterWriter|a_31|i_31|l_31|c_31|k_31|a_32|i_32|l_32|c_32|k_32|a_33|i_33|l_33|c_33|k_33|a_34|i_34|l_34|c_34|k_34|a_35|i_35|l_35|c_35|k_35|a_36|i_36|l_36|c_36|k_36|pg_FilterWriter|hd_FilterWriter|po_FilterWriter|sa_FilterWriter|mk_FilterWriter|kc_FilterWriter|n_FilterWriter_bits|n_FilterWriter_unhashed|n_FilterWriter_hashes|n_FilterWriter_blocks|aC_Handle|a_37|i_37|l_37|c_37|k_37|a_38|i_38|l_38|c_38|k_38|a_39|i_39|l_39|c_39|k_39|pg_Handle|hd_Handle|po_Handle|sa_Handle|mk_Handle|kc_Handle|n_Handle_begin|n_Handle_length|aC_TableWriter|a_40|i_40|l_40|c_40|k_40|a_41|i_41|l_41|c_41|k_41|a_42|i_42|l_42|c_42|k_42|a_43|i_43|l_43|c_43|k_43|a_44|i_44|l_44|c_44|k_44|a_45|i_45|l_45|c_45|k_45|a_46|i_46|l_46|c_46|k_46|a_47|i_47|l_47|c_47|k_47|pg_TableWriter|hd_TableWriter|po_TableWriter|sa_TableWriter|mk_TableWriter|kc_TableWriter|n_TableWriter_interval|n_TableWriter_target|n_TableWriter_filter_writer|n_TableWriter_parts|n_TableWriter_end|n_TableWriter_block|n_TableWriter_last_key|n_TableWriter_index_writer|n_TableWriter_unlisted|n_TableWriter_ending|g_OUT_OF_RANGE|g_NO_ROWS|g_TOO_LONG|g_STRIDE|g_NUMBER_WIDTH|g_WORD|g_HALF_WORD|g_HASH_BEGIN|g_HASH_FACTOR|g_LANE|g_PLACE_WIDTH|g_MOST_PROBES|g_STRETCH_BITS|g_STRETCH|g_TOGETHER|g_ALL_ONES|g_MASK_ADDEND|gr1|gr2 => k_is
    case gr3 => decide +kernel
    case g_SEAL_WIDTH|g_FILTER_NAME|g_HANDLES_WIDTH|g_MAGIC|g_MAGIC_WIDTH|g_LONGEST|g_KEY_WIDTH|g_VALUE_WIDTH|z_len|z_range|z_zip|z_enumerate|z_list|z_min|z_max|z_ord => k_is
#print axioms PySem.Challenge.cw_keylogs_s02_make_holds

