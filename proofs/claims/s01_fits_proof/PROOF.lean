import PyProof.Rows.All
import Wide.All
import OpenK.AllK
import Wide.FinOn
import PyProof.EqAt
import PyProof.EqKinds
import PyProof.TupleCall
import KE.BitLaws
import Open.SpecLaws
import KE.OsHead
import KE.OsGo
import KE.KTryMore
import KE.KSuperObj
import PyProof.Draws
import KE.IntBitsLaws
import PySem.Challenge.RW_lutesounds_s01_fits
section
set_option Elab.async false
set_option linter.all false
set_option maxRecDepth 100000
namespace L2
open PySem PySem.Spec PyProof.Rows
abbrev Key := Sum Int Str
def keyIs : Key → Value → Bool
  | .inl k, v => Value.isInt k v
  | .inr x, v => Value.isStrOf x v
def keyH (w : World) : Key → Int
  | .inl k => hashInt k
  | .inr x => hashStr w x
theorem keyIs_shape : ∀ {k : Key} {v : Value}, keyIs k v = true → (∃ i t, k = Sum.inl i ∧ v = Value.int i t) ∨ (∃ x t, k = Sum.inr x ∧ v = Value.str x t)
  | .inl i, v, h => by
    obtain ⟨t, e⟩ := Value.isInt_shape (k := i) (v := v) h
    exact .inl ⟨i, t, rfl, e⟩
  | .inr x, v, h => by
    obtain ⟨t, e⟩ := Value.isStrOf_shape (x := x) (v := v) h
    exact .inr ⟨x, t, rfl, e⟩
theorem key_ll (a b : Int) : decide ((Sum.inl a : Key) = Sum.inl b) = (a == b) := by
  by_cases e : a = b
  · subst e; simp
  · have h : ¬ (Sum.inl a : Key) = Sum.inl b := fun q => e (Sum.inl.inj q)
    rw [decide_eq_false h]
    exact (beq_eq_false_iff_ne.mpr e).symm
theorem key_rr (a b : Str) : decide ((Sum.inr a : Key) = Sum.inr b) = decide (a = b) := by
  by_cases e : a = b
  · subst e; simp
  · have h : ¬ (Sum.inr a : Key) = Sum.inr b := fun q => e (Sum.inr.inj q)
    rw [decide_eq_false h, decide_eq_false e]
theorem key_lr (a : Int) (b : Str) : decide ((Sum.inl a : Key) = Sum.inr b) = false := decide_eq_false (fun q => nomatch q)
theorem key_rl (a : Str) (b : Int) : decide ((Sum.inr a : Key) = Sum.inl b) = false := decide_eq_false (fun q => nomatch q)
def mixKind (prog : Program) (w : World) : PySem.KeyKind prog w Key where
  is := keyIs
  hash := keyH w
  inj := fun v a b ha hb => by
    rcases keyIs_shape ha with ⟨i, t, rfl, rfl⟩ | ⟨x, t, rfl, rfl⟩
    · rcases keyIs_shape hb with ⟨j, u, rfl, e⟩ | ⟨y, u, rfl, e⟩
      · injection e with e1 _; rw [e1]
      · exact nomatch e
    · rcases keyIs_shape hb with ⟨j, u, rfl, e⟩ | ⟨y, u, rfl, e⟩
      · exact nomatch e
      · injection e with e1 _; rw [e1]
  byValue := fun k v h => by
    rcases keyIs_shape h with ⟨i, t, rfl, rfl⟩ | ⟨x, t, rfl, rfl⟩ <;> rfl
  pyHash := fun hv h => by
    rcases keyIs_shape hv with ⟨i, t, rfl, rfl⟩ | ⟨x, t, rfl, rfl⟩
    · exact wpAny_pyHash_int h
    · exact wpAny_pyHash_str h
  eqBool := fun hu hv h => by
    rcases keyIs_shape hu with ⟨i, t, rfl, rfl⟩ | ⟨x, t, rfl, rfl⟩
    · rcases keyIs_shape hv with ⟨j, u, rfl, rfl⟩ | ⟨y, u, rfl, rfl⟩
      · rw [key_ll] at h; exact wpAny_eqBool_int h
      · rw [key_lr] at h; exact SeqAt.EqAt.int_str i t y u _ _ _ _ h
    · rcases keyIs_shape hv with ⟨j, u, rfl, rfl⟩ | ⟨y, u, rfl, rfl⟩
      · rw [key_rl] at h; exact SeqAt.EqAt.str_int x t j u _ _ _ _ h
      · rw [key_rr] at h; exact wpAny_eqBool_str h
  «strs» := fun k x t v h => by
    rcases keyIs_shape h with ⟨i, u, rfl, e⟩ | ⟨y, u, rfl, e⟩
    · exact nomatch e
    · injection e with e1 _
      subst e1
      cases v <;> rfl
end L2
namespace L2
open PySem PySem.Spec PyProof.Rows
inductive V where
  | non | bl (b : Bool) | int (i : Int) | str (x : Str) | byt (b : Array UInt8) | flt (b : UInt64) | ref (a : Addr) | ty (n : String)
  deriving DecidableEq
def RelV : V → Value → Prop
  | .non, u => u = Value.none
  | .bl b, u => u = Value.bool b
  | .int i, u => ∃ t, u = Value.int i t
  | .str x, u => ∃ t, u = Value.str x t
  | .byt b, u => ∃ t, u = Value.bytes b t
  | .flt b, u => ∃ t, u = Value.float b t
  | .ref a, u => u = Value.ref a
  | .ty n, u => u = Value.type n
abbrev Vals : List V → List Value → Prop := Paired RelV
theorem Vals.length {xs : List V} {us : List Value} (r : Vals xs us) : xs.length = us.length := Paired.length r
theorem Vals.get : ∀ {xs : List V} {us : List Value} {i : Nat} {x : V}, Vals xs us → xs[i]? = some x → ∃ u, us[i]? = some u ∧ RelV x u
  | _, _, _, _, .nil, e => by simp at e
  | _, _, 0, _, .cons r _, e => by simp at e; subst e; exact ⟨_, rfl, r⟩
  | _, _, i + 1, x, .cons _ t, e => by
    obtain ⟨u, h1, h2⟩ := Vals.get (i := i) (x := x) t (by simpa using e)
    exact ⟨u, by simpa using h1, h2⟩
theorem Vals.set {x : V} {u : Value} (r : RelV x u) : ∀ {xs : List V} {us : List Value} (i : Nat), Vals xs us → Vals (xs.set i x) (us.set i u)
  | _, _, _, .nil => .nil
  | _, _, 0, .cons _ t => .cons r t
  | _, _, i + 1, .cons q t => .cons q (Vals.set r i t)
theorem Vals.append : ∀ {xs ys : List V} {us ws : List Value}, Vals xs us → Vals ys ws → Vals (xs ++ ys) (us ++ ws)
  | _, _, _, _, .nil, s => s
  | _, _, _, _, .cons r t, s => .cons r (Vals.append t s)
theorem Vals.take : ∀ {xs : List V} {us : List Value} (n : Nat), Vals xs us → Vals (xs.take n) (us.take n)
  | _, _, 0, _ => .nil
  | _, _, _ + 1, .nil => .nil
  | _, _, n + 1, .cons r t => .cons r (Vals.take n t)
theorem Vals.drop : ∀ {xs : List V} {us : List Value} (n : Nat), Vals xs us → Vals (xs.drop n) (us.drop n)
  | _, _, 0, r => r
  | _, _, _ + 1, .nil => .nil
  | _, _, n + 1, .cons _ t => Vals.drop n t
def RelO : Option V → Option Value → Prop
  | some v, some u => RelV v u
  | none, none => True
  | _, _ => False
def KV {κ : Type} : List (κ × V) → List (κ × Value) → Prop := Paired fun (p : κ × V) (q : κ × Value) => p.1 = q.1 ∧ RelV p.2 q.2
def kV : Key → V
  | .inl i => .int i
  | .inr x => .str x
inductive HO where
  /-- a list -/
  | lst (xs : List V)
  /-- a tuple (never changes) -/
  | tup (xs : List V)
  /-- a dict whose keys are ints and texts; one whose keys are tuples of ints and texts (the empty one is both) -/
  | dK (kvs : List (Key × V)) | dT (kvs : List (List Key × V))
  /-- a set of ints: its members, its size -/
  | set (S : Int → Bool) (n : Nat)
  /-- an instance of the class at C, its dict at dx, its attributes -/
  | ins (C dx : Addr) (fs : List (Str × V))
  /-- the dict of the instance at x -/
  | own (x : Addr)
  /-- the dict of an exception -/
  | xd (fs : List (Str × V))
  /-- a bound method, f of x -/
  | met (f x : Addr)
  /-- a range object lo, lo + 1, .. below hi -/
  | rng (lo hi : Int)
  /-- a thing that is known to the object (the script; a dict while a loop walks it): read, never written while it is so -/
  | frz (o : Obj) (u : HO)
  /-- a code object's table -/
  | tbl (ps : Array Value)
  /-- any other thing, by what is true of its one object (a def of one's own: SetO a S n := HO.ext fun h => ..) -/
  | ext (φ : Heap → Prop)
abbrev Hp := Addr → Option HO
def upd (H : Hp) (a : Addr) (o : HO) : Hp := fun b => if b = a then some o else H b
theorem upd_same {H : Hp} {a : Addr} {o : HO} : upd H a o a = some o := by unfold upd; rw [if_pos rfl]
theorem upd_ne {H : Hp} {a b : Addr} {o : HO} (h : b ≠ a) : upd H a o b = H b := by unfold upd; rw [if_neg h]
theorem ne_of {H : Hp} {a b : Addr} {o u : HO} (h : H a = some o) (h' : H b = some u) (d : o ≠ u) : a ≠ b := by
  intro e; subst e; rw [h] at h'; exact d (Option.some.inj h')
theorem ne_of_none {H : Hp} {a b : Addr} {o : HO} (h : H a = some o) (h' : H b = none) : a ≠ b := by
  intro e; subst e; rw [h] at h'; cases h'
section
variable (P : Program) (w : World)
def ObjOk (H : Hp) (h : Heap) (a : Addr) : HO → Prop
  | .lst xs => xs.length ≤ sizeLine ∧ ∃ (its : List Value) (n : Nat), Vals xs its ∧ h.get? a = some { cls := .type "list", data := .seq its.toArray n }
  | .tup xs => xs.length ≤ sizeLine ∧ ∃ its : List Value, Vals xs its ∧ IsTup h a its.toArray
  | .dK kvs => kvs.length ≤ sizeLine ∧ (a == sysModules) = false ∧ ∃ vs, KV kvs vs ∧ h.DictOf (mixKind P w) a vs
  | .dT kvs => kvs.length ≤ sizeLine ∧ (a == sysModules) = false ∧ ∃ xs : List (List Key × Addr × Value),
      Paired (fun (p : List Key × V) (q : List Key × Addr × Value) => p.1 = q.1 ∧ H q.2.1 = some (.tup (p.1.map kV)) ∧ RelV p.2 q.2.2) kvs xs ∧
      ∃ o es ep, h.get? a = some o ∧ o.ExactDict ∧ o.data = .dict es ep ∧ es.toList = xs.map (entryOfKey (tupleKind (mixKind P w))) ∧ (xs.map (·.1)).Nodup
  | .set S n => h.SetOf (intKind P w) a S n
  | .ins C dx fs => H dx = some (.own a) ∧ fs.length ≤ 1000 ∧ dx ≠ a ∧ h.get? a = some (PySem.W.instObj C dx) ∧
      ∃ mA, h.Ns1 dx mA ∧ (∀ f, RelO (fs.lookup f) (mA f)) ∧ PySem.Within mA (fs.map (·.1))
  | .own _ => ∃ o, h.get? a = some o
  | .xd fs => ∃ mA, h.Ns1 a mA ∧ ∀ f, RelO (fs.lookup f) (mA f)
  | .rng lo hi => ∃ t u v, h.get? a = some { cls := .type "range", data := .fields #[.int lo t, .int hi u, .int 1 v] }
  | .frz o u => h.get? a = some o ∧ ObjOk H h a u
  | .tbl ps => h.get? a = some { cls := .none, data := .fields ps }
  | .met f x => h.get? a = some (PySem.W.methodObj (.ref f) (.ref x))
  | .ext φ => φ h ∧ (∃ o, h.get? a = some o) ∧ ∀ h1 h2 : Heap, φ h1 → (∀ o, h1.get? a = some o → h2.get? a = some o) → φ h2
def HOk (H : Hp) (h : Heap) : Prop := ∀ a o, H a = some o → ObjOk P w H h a o
end
section
variable {P : Program} {w : World} {H H' : Hp} {h h' : Heap} {a : Addr} {o : HO}
theorem ObjOk.lt (x : ObjOk P w H h a o) : a < h.objs.size := by
  cases o with
  | lst xs => obtain ⟨_, _, _, _, e⟩ := x; exact Heap.lt_size e
  | tup xs => obtain ⟨_, _, _, p⟩ := x; exact p.lt
  | dK kvs => obtain ⟨_, _, _, _, o, _, _, e, _⟩ := x; exact Heap.lt_size e
  | dT kvs => obtain ⟨_, _, _, _, o, _, _, e, _⟩ := x; exact Heap.lt_size e
  | set S n => obtain ⟨o, _, _, _, e, _⟩ := x; exact Heap.lt_size e
  | ins C dx fs => obtain ⟨_, _, _, e, _⟩ := x; exact Heap.lt_size e
  | own y => obtain ⟨_, e⟩ := x; exact Heap.lt_size e
  | xd fs => obtain ⟨_, ⟨_, _, _, e, _⟩, _⟩ := x; exact Heap.lt_size e
  | rng lo hi => obtain ⟨_, _, _, e⟩ := x; exact Heap.lt_size e
  | frz ob u => obtain ⟨e, _⟩ := x; exact Heap.lt_size e
  | tbl ps => exact Heap.lt_size (show h.get? a = some _ from x)
  | met f y => exact Heap.lt_size (show h.get? a = some _ from x)
  | ext φ => obtain ⟨_, ⟨_, e⟩, _⟩ := x; exact Heap.lt_size e
theorem Paired.mapP {α β : Type} {F G : α → β → Prop} : ∀ {l₁ : List α} {l₂ : List β}, Paired F l₁ l₂ → (∀ a b, F a b → G a b) → Paired G l₁ l₂
  | _, _, .nil, _ => .nil
  | _, _, .cons r t, f => .cons (f _ _ r) (Paired.mapP t f)
theorem ObjOk.stay (x : ObjOk P w H h a o) (k : ∀ b u, (b = a ∨ H b = some (.own a)) → h.get? b = some u → h'.get? b = some u)
    (ho : ∀ b, H b = some (.own a) → H' b = some (.own a)) (ht : ∀ b xs, H b = some (.tup xs) → H' b = some (.tup xs)) : ObjOk P w H' h' a o := by
  induction o with
  | lst xs => obtain ⟨z, its, n, r, e⟩ := x; exact ⟨z, its, n, r, k _ _ (.inl rfl) e⟩
  | tup xs => obtain ⟨z, its, r, ob, e, c⟩ := x; exact ⟨z, its, r, ob, k _ _ (.inl rfl) e, c⟩
  | dK kvs => obtain ⟨z, y, vs, r, ob, es, ep, e, c⟩ := x; exact ⟨z, y, vs, r, ob, es, ep, k _ _ (.inl rfl) e, c⟩
  | dT kvs =>
    obtain ⟨z, y, xs, r, ob, es, ep, e, c⟩ := x
    exact ⟨z, y, xs, Paired.mapP r fun p q z => ⟨z.1, ht _ _ z.2.1, z.2.2⟩, ob, es, ep, k _ _ (.inl rfl) e, c⟩
  | set S n => obtain ⟨ob, es, ep, t, e, c⟩ := x; exact ⟨ob, es, ep, t, k _ _ (.inl rfl) e, c⟩
  | ins C dx fs =>
    obtain ⟨d, z, ne, e, mA, ⟨od, es, ep, e2, c⟩, r⟩ := x
    exact ⟨ho _ d, z, ne, k _ _ (.inl rfl) e, mA, ⟨od, es, ep, k _ _ (.inr d) e2, c⟩, r⟩
  | own y => obtain ⟨ob, e⟩ := x; exact ⟨ob, k _ _ (.inl rfl) e⟩
  | xd fs => obtain ⟨mA, ⟨od, es, ep, e, c⟩, r⟩ := x; exact ⟨mA, ⟨od, es, ep, k _ _ (.inl rfl) e, c⟩, r⟩
  | rng lo hi => obtain ⟨t, u, v, e⟩ := x; exact ⟨t, u, v, k _ _ (.inl rfl) e⟩
  | frz ob u ih => obtain ⟨e, q⟩ := x; exact ⟨k _ _ (.inl rfl) e, ih q⟩
  | tbl ps =>
    have e : h.get? a = some { cls := .none, data := .fields ps } := x
    show h'.get? a = some { cls := .none, data := .fields ps }
    exact k a _ (.inl rfl) e
  | met f y =>
    have e : h.get? a = some (PySem.W.methodObj (.ref f) (.ref y)) := x
    show h'.get? a = some (PySem.W.methodObj (.ref f) (.ref y))
    exact k a _ (.inl rfl) e
  | ext φ => obtain ⟨p, ⟨o, e⟩, st⟩ := x; exact ⟨st _ _ p fun o q => k _ _ (.inl rfl) q, ⟨o, k _ _ (.inl rfl) e⟩, st⟩
theorem HOk.lt (x : HOk P w H h) (e : H a = some o) : a < h.objs.size := (x a o e).lt
theorem HOk.fresh (x : HOk P w H h) (e : h.objs.size ≤ a) : H a = none := by
  cases q : H a with
  | none => rfl
  | some u => exact absurd (Nat.lt_of_lt_of_le (x.lt q) e) (Nat.lt_irrefl _)
theorem HOk.kept (x : HOk P w H h) (k : ∀ b u, h.get? b = some u → h'.get? b = some u) : HOk P w H h' := fun a o e =>
  (x a o e).stay (fun b u _ q => k b u q) (fun _ q => q) fun _ _ q => q
theorem HOk.laid (x : HOk P w H h) (k : ∀ b u, h.get? b = some u → h'.get? b = some u) (hp : h.objs.size ≤ a) (new : ObjOk P w (upd H a o) h' a o) : HOk P w (upd H a o) h' := fun b u e => by
  have hn := x.fresh hp
  by_cases hb : b = a
  · subst hb; rw [upd_same] at e; cases e; exact new
  · rw [upd_ne hb] at e
    exact (x b u e).stay (fun c v _ q => k c v q) (fun c q => by rw [upd_ne (ne_of_none q hn)]; exact q) fun c xs q => by rw [upd_ne (ne_of_none q hn)]; exact q
end
def Rd (H : Hp) (a : Addr) (u : HO) : Prop := H a = some u ∨ ∃ o, H a = some (.frz o u)
theorem Rd.ok {P : Program} {w : World} {H : Hp} {h : Heap} {a : Addr} {u : HO} (r : Rd H a u) (x : HOk P w H h) : ObjOk P w H h a u := by
  rcases r with r | ⟨o, r⟩
  · exact x a u r
  · obtain ⟨_, q⟩ := x a _ r
    exact q
def Mut : Option HO → Prop
  | some (.lst _) => True
  | some (.dK _) => True
  | some (.dT _) => True
  | some (.set _ _) => True
  | some (.ins _ _ _) => True
  | some (.ext _) => True
  | _ => False
section
variable {P : Program} {w : World} {H : Hp} {h h' : Heap} {x e : Addr} {o' : HO}
theorem HOk.write (ok : HOk P w H h) (mu : Mut (H x)) (he : e = x ∨ H e = some (.own x)) (k : ∀ b u, b ≠ e → h.get? b = some u → h'.get? b = some u) (heo : ∃ u, h'.get? e = some u)
    (new : ObjOk P w (upd H x o') h' x o') : HOk P w (upd H x o') h' := fun b u q => by
  have nown : ∀ c y, H c = some (.own y) → c ≠ x := fun c y r z => by subst z; rw [r] at mu; exact mu
  have ntup : ∀ c xs, H c = some (.tup xs) → c ≠ x := fun c xs r z => by subst z; rw [r] at mu; exact mu
  by_cases hb : b = x
  · subst hb; rw [upd_same] at q; cases q; exact new
  · rw [upd_ne hb] at q
    by_cases hbe : b = e
    · have q' : H b = some (.own x) := by
        rcases he with z | z
        · exact absurd (hbe.trans z) hb
        · rw [hbe]; exact z
      rw [q] at q'; cases q'
      obtain ⟨v, hv⟩ := heo
      exact ⟨v, by rw [hbe]; exact hv⟩
    · refine (ok b u q).stay (fun c v hc r => k c v ?_ r) (fun c r => by rw [upd_ne (nown c b r)]; exact r) fun c xs r => by rw [upd_ne (ntup c xs r)]; exact r
      rcases hc with rfl | hc
      · exact hbe
      · rintro rfl
        rcases he with z | z
        · exact nown c b hc z
        · rw [hc] at z; cases z; exact hb rfl
end
structure Un (fs ex : List Addr) (H H' : Hp) (h h' : Heap) : Prop where
  keep : ∀ b o, h.get? b = some o → H b = none → b ∉ fs → b ∉ ex → h'.get? b = some o
  slot : ∀ b o, h.get? b = some o → H b = none → b ∈ fs → b ∉ ex → ∃ sl, h'.get? b = some { o with slots := sl }
  free : ∀ b o, h.get? b = some o → H b = none → b ∉ ex → H' b = none
  there : ∀ b o, h.get? b = some o → b ∉ ex → ∃ o', h'.get? b = some o'
  tups : ∀ b xs, H b = some (.tup xs) → H' b = some (.tup xs)
  frzs : ∀ b o u, H b = some (.frz o u) → H' b = some (.frz o u)
  tbls : ∀ b ps, H b = some (.tbl ps) → ∃ more, H' b = some (.tbl (ps ++ more))
section
variable {fs fs' ex ex' : List Addr} {H H1 H2 : Hp} {h h1 h2 h' : Heap} {a x e : Addr} {o : HO}
theorem Un.any (u : Un fs ex H H1 h h1) {b : Addr} {ob : Obj} (q : h.get? b = some ob) (n : H b = none) (hx : b ∉ ex) : ∃ sl, h1.get? b = some { ob with slots := sl } := by
  by_cases hb : b ∈ fs
  · exact u.slot b ob q n hb hx
  · exact ⟨ob.slots, u.keep b ob q n hb hx⟩
theorem Un.trans (a : Un fs ex H H1 h h1) (b : Un fs ex H1 H2 h1 h2) : Un fs ex H H2 h h2 where
  keep := fun c ob q n hc hx => b.keep c ob (a.keep c ob q n hc hx) (a.free c ob q n hx) hc hx
  slot := fun c ob q n hc hx => by
    obtain ⟨sl, e1⟩ := a.slot c ob q n hc hx
    obtain ⟨sl', e2⟩ := b.slot c _ e1 (a.free c ob q n hx) hc hx
    exact ⟨sl', e2⟩
  free := fun c ob q n hx => by
    obtain ⟨o', e1⟩ := a.there c ob q hx
    exact b.free c o' e1 (a.free c ob q n hx) hx
  there := fun c ob q hx => by
    obtain ⟨o', e1⟩ := a.there c ob q hx
    exact b.there c o' e1 hx
  tups := fun c xs q => b.tups c xs (a.tups c xs q)
  frzs := fun c ob xs q => b.frzs c ob xs (a.frzs c ob xs q)
  tbls := fun c ps q => by
    obtain ⟨m1, e1⟩ := a.tbls c ps q
    obtain ⟨m2, e2⟩ := b.tbls c _ e1
    exact ⟨m1 ++ m2, by rw [e2, Array.append_assoc]⟩
theorem Un.kept (k : ∀ b u, h.get? b = some u → h'.get? b = some u) : Un fs ex H H h h' :=
  ⟨fun b ob q _ _ _ => k b ob q, fun b ob q _ _ _ => ⟨ob.slots, k b ob q⟩, fun _ _ _ n _ => n, fun b ob q _ => ⟨ob, k b ob q⟩, fun _ _ q => q, fun _ _ _ q => q, fun _ ps q => ⟨#[], by rw [q]; simp⟩⟩
theorem Un.refl : Un fs ex H H h h := Un.kept fun _ _ q => q
theorem Un.laid (k : ∀ b u, h.get? b = some u → h'.get? b = some u) (hp : h.objs.size ≤ a) (hn : H a = none) : Un fs ex H (upd H a o) h h' where
  keep := fun b u q _ _ _ => k b u q
  slot := fun b u q _ _ _ => ⟨u.slots, k b u q⟩
  free := fun b u q n _ => by rw [upd_ne (Nat.ne_of_lt (Nat.lt_of_lt_of_le (Heap.lt_size q) hp))]; exact n
  there := fun b u q _ => ⟨u, k b u q⟩
  tups := fun b xs q => by rw [upd_ne (ne_of_none q hn)]; exact q
  frzs := fun b u xs q => by rw [upd_ne (ne_of_none q hn)]; exact q
  tbls := fun b ps q => ⟨#[], by rw [upd_ne (ne_of_none q hn), q]; simp⟩
theorem Un.write (mu : Mut (H x)) (he : e = x ∨ H e = some (.own x)) (k : ∀ b u, b ≠ e → h.get? b = some u → h'.get? b = some u) (heo : ∃ u, h'.get? e = some u) : Un fs ex H (upd H x o) h h' := by
  have hx : ∀ b, H b = none → b ≠ x := fun b n z => by subst z; rw [n] at mu; exact mu
  have hb : ∀ b, H b = none → b ≠ e := fun b n z => by
    subst z
    rcases he with r | r
    · exact hx b n r
    · rw [n] at r; cases r
  have hm : ∀ b u, H b = some u → ¬ Mut (some u) → b ≠ x := fun b u q nm z => by subst z; rw [q] at mu; exact nm mu
  refine ⟨fun b u q n _ _ => k b u (hb b n) q, fun b u q n _ _ => ⟨u.slots, k b u (hb b n) q⟩, fun b u q n _ => by rw [upd_ne (hx b n)]; exact n, fun b u q _ => ?_,
    fun b xs q => by rw [upd_ne (hm b _ q fun z => z)]; exact q, fun b u xs q => by rw [upd_ne (hm b _ q fun z => z)]; exact q, fun b ps q => ⟨#[], by rw [upd_ne (hm b _ q fun z => z), q]; simp⟩⟩
  by_cases hbe : b = e
  · subst hbe; exact heo
  · exact ⟨u, k b u hbe q⟩
theorem Un.mono (u : Un fs ex H H1 h h1) (hs : ∀ b ∈ fs, b ∈ fs') (hx : ∀ b ∈ ex, b ∈ ex') : Un fs' ex' H H1 h h1 :=
  ⟨fun b ob q n hb he => u.keep b ob q n (fun z => hb (hs b z)) fun z => he (hx b z), fun _ _ q n _ he => u.any q n fun z => he (hx _ z), fun b ob q n he => u.free b ob q n fun z => he (hx b z), fun b ob q he => u.there b ob q fun z => he (hx b z), u.tups, u.frzs, u.tbls⟩
end
def trk (h : Heap) (H : Hp) : List Addr := (List.range h.objs.size).filter fun a => (H a).isSome
def hidT (h : Heap) (H : Hp) : Heap := PySem.W.hideAll h (trk h H)
theorem hidT_size (h : Heap) (H : Hp) : (hidT h H).objs.size = h.objs.size := PySem.W.hideAll_size _ _
theorem hidT_get {h : Heap} {H : Hp} {b : Addr} {o : Obj} (e : h.get? b = some o) (n : H b = none) : (hidT h H).get? b = some o :=
  PySem.W.hideAll_get _ e fun hm => by
    have q : (H b).isSome = true := (List.mem_filter.mp hm).2
    rw [n] at q; simp at q
theorem of_hidT {h : Heap} {H : Hp} {b : Addr} {o : Obj} (e : (hidT h H).get? b = some o) : h.get? b = some o ∧ H b = none := by
  have e' : h.get? b = some o := PySem.W.of_hideAll (trk h H) e
  refine ⟨e', ?_⟩
  cases q : H b with
  | none => rfl
  | some x =>
    have hm : b ∈ trk h H := List.mem_filter.mpr ⟨List.mem_range.mpr (Heap.lt_size e'), by simp [q]⟩
    have z : (hidT h H).get? b = none := PySem.W.hideAll_none (trk h H) hm
    rw [z] at e; cases e
def allNews (g h : Heap) (L : Addr) : List (Addr × Obj) := (List.range h.objs.size).filterMap fun a => if a = L ∨ (g.get? a).isSome = true then none else (h.get? a).map fun o => (a, o)
def rest (g h : Heap) (L d : Addr) : List (Addr × Obj) := (allNews g h L).filter fun p => decide (p.1 ≠ d)
end L2
namespace L2
open PySem PySem.Spec PyProof.Rows
structure Mod (K : PySem.W.Frag) (mg : Str → Option Value) (base : Heap) : Prop where
  kin : K.In base
  glob : base.Ns mainGlobals mg
  blt : ∃ mb, base.Ns builtinsNs mb ∧ ∀ x : Str, x ≠ "__name__" → mb x = bootBuiltins x
  nolimit : base.NoLimit
structure Cx where
  prog : Program
  w : World
  K : PySem.W.Frag
  mg : Str → Option Value
  base : Heap
  A : Around
  N : List Str
  s_0 : Shared
  H_0 : Hp
  env : Env
  outer : List Env
  stack : List Env
  ex : List Addr
  fn : Str → Bool
  calm : Bool
  pn : List (Addr × Obj)
  xe : Value → Shared → Prop
def frs (l : List Env) : List Addr := l.filterMap (·.frame)
abbrev Cx.fs (X : Cx) : List Addr := frs X.outer
def Vis (sc : Scope) (x : Str) : Prop := sc.names.lookup x = some .local ∨ sc.names.lookup x = some .cell ∨ sc.names.lookup x = some .free
def Loc (sc : Scope) (x : Str) : Prop := sc.names.lookup x = some .local ∨ sc.names.lookup x = some .cell
def Look (env : Env) (h : Heap) (m : Str → Option Value) (x : Str) (u : Value) : Prop :=
  (env.kindOf x = some .local ∧ m x = some u) ∨ ((env.kindOf x = some .cell ∨ env.kindOf x = some .free) ∧ ∃ c, env.cells.lookup x = some c ∧ h.IsCell c (some u))
structure Cx.Ok (X : Cx) : Prop where
  mod : Mod X.K X.mg X.base
  kind : X.env.scope.kind = .function
  glob : X.env.globals = mainGlobals
  blt : X.env.builtins = builtinsNs
  above : X.s_0.heap.objs.size ≤ X.env.locals
  inj : ∀ x y c, X.env.cells.lookup x = some c → X.env.cells.lookup y = some c → x = y
  has : ∀ x, (X.env.kindOf x = some .cell ∨ X.env.kindOf x = some .free) → ∃ c, X.env.cells.lookup x = some c
  cab : ∀ x c, X.fn x = true → X.env.cells.lookup x = some c → X.s_0.heap.objs.size ≤ c
  hd : X.calm = true → X.A.handled = none
  frames : X.A.frames = some X.stack
  stk : X.stack = X.outer ∨ (X.stack = X.env :: X.outer ∧ X.env.frame = some X.env.locals)
  exf : ∀ b ∈ X.ex, b ≠ X.env.locals ∧ ∀ x c, X.env.cells.lookup x = some c → c ≠ b
  bs : ∀ b o, X.base.get? b = some o → X.s_0.heap.get? b = some o ∧ X.H_0 b = none
  bsz : X.base.objs.size ≤ X.s_0.heap.objs.size
  noex : ∀ b o, X.base.get? b = some o → b ∉ X.ex
  exfs : ∀ b ∈ X.ex, b ∉ X.fs
  funs : X.s_0.heap.FunFrames X.base X.outer
  frf : ∀ b ∈ X.fs, X.H_0 b = none
structure Inv (X : Cx) (pins : List (Addr × Obj)) (σ : List (Option V)) (H : Hp) (s : Shared) : Prop where
  ok : X.Ok
  os : s.os = X.s_0.os
  bare : AllBare s.gens
  base : Un X.fs X.ex X.H_0 H X.s_0.heap s.heap
  loc : ∃ m, s.heap.Ns X.env.locals m ∧ ∀ (i : Nat) (x : Str) (v : V), X.N[i]? = some x → σ[i]? = some (some v) → Vis X.env.scope x → ∃ u, RelV v u ∧ Look X.env s.heap m x u
  cell : ∀ x c, X.env.cells.lookup x = some c → ∃ v, s.heap.IsCell c v
  free : H X.env.locals = none
  freeC : ∀ x c, X.env.cells.lookup x = some c → H c = none
  pin : ∀ p ∈ X.pn ++ pins, s.heap.get? p.1 = some p.2 ∧ H p.1 = none ∧ p.1 ≠ X.env.locals ∧ p.1 ∉ X.fs ∧ ∀ v, p.2.data ≠ .cell v
  hok : HOk X.prog X.w H s.heap
  len : σ.length = X.N.length
section
variable {X : Cx} {pins : List (Addr × Obj)} {σ : List (Option V)} {H H' : Hp} {s : Shared} {h' : Heap}
theorem Cx.Ok.nofr (ok : X.Ok) {b : Addr} {o : Obj} (e : X.base.get? b = some o) : b ∉ X.fs := fun hb => by
  have := (ok.funs.mem hb).1
  rw [e] at this; cases this
theorem Inv.bs (I : Inv X pins σ H s) : ∀ b o, X.base.get? b = some o → s.heap.get? b = some o ∧ H b = none := fun b o e =>
  ⟨I.base.keep b o (I.ok.bs b o e).1 (I.ok.bs b o e).2 (I.ok.nofr e) (I.ok.noex b o e), I.base.free b o (I.ok.bs b o e).1 (I.ok.bs b o e).2 (I.ok.noex b o e)⟩
theorem Inv.bk (I : Inv X pins σ H s) : ∀ b o, X.base.get? b = some o → s.heap.get? b = some o := fun b o e => (I.bs b o e).1
theorem Inv.mod (I : Inv X pins σ H s) : Mod X.K X.mg X.base := I.ok.mod
theorem Inv.kIn (I : Inv X pins σ H s) : X.K.In s.heap := I.ok.mod.kin.keeps I.bk
theorem Inv.nolimit (I : Inv X pins σ H s) : s.heap.NoLimit := I.ok.mod.nolimit.keeps I.bk
theorem Inv.fr (I : Inv X pins σ H s) : ∃ m, Fr X.base X.env.locals s.heap m :=
  let ⟨m, hn, _⟩ := I.loc
  ⟨m, hn, I.bk, Nat.le_trans I.ok.bsz I.ok.above⟩
theorem Inv.lt (I : Inv X pins σ H s) : X.env.locals < s.heap.objs.size := let ⟨_, hn, _⟩ := I.loc; hn.lt
theorem Inv.sz (I : Inv X pins σ H s) : X.s_0.heap.objs.size ≤ s.heap.objs.size := Nat.le_trans I.ok.above (Nat.le_of_lt I.lt)
theorem Inv.nofs (I : Inv X pins σ H s) {a : Addr} (h : s.heap.objs.size ≤ a) : a ∉ X.fs := fun hb => by
  obtain ⟨_, o, ho, _⟩ := I.ok.funs.mem hb
  exact absurd (Nat.lt_of_lt_of_le (Heap.lt_size ho) (Nat.le_trans I.sz h)) (Nat.lt_irrefl _)
theorem Inv.cne (I : Inv X pins σ H s) : ∀ x c, X.env.cells.lookup x = some c → c ≠ X.env.locals := fun x c e z => by
  obtain ⟨v, o, ho, hd⟩ := I.cell x c e
  obtain ⟨m, ⟨o', es, ep, ho', hd', _⟩, _⟩ := I.loc
  rw [z, ho'] at ho; cases ho; rw [hd'] at hd; cases hd
theorem Inv.funs (I : Inv X pins σ H s) : s.heap.FunFrames X.base X.outer := by
  have all : ∀ (l : List Env), (∀ b ∈ frs l, b ∈ X.fs) → X.s_0.heap.FunFrames X.base l → s.heap.FunFrames X.base l := by
    intro l
    induction l with
    | nil => intro _ _; trivial
    | cons env r ih =>
      intro hs hl
      obtain ⟨hk, ⟨L, o, hf, hn, ho, hd⟩, hr⟩ := hl
      have hL : L ∈ X.fs := hs L (by unfold frs; rw [List.filterMap_cons, hf]; exact List.mem_cons_self)
      obtain ⟨sl, e⟩ := I.base.slot L o ho (I.ok.frf L hL) hL fun z => I.ok.exfs L z hL
      exact ⟨hk, ⟨L, _, hf, hn, e, hd⟩, ih (fun b hb => hs b (by unfold frs; rw [List.filterMap_cons, hf]; exact List.mem_cons_of_mem _ hb)) hr⟩
  exact all X.outer (fun _ hb => hb) I.ok.funs
theorem Inv.stack (I : Inv X pins σ H s) : s.heap.FunFrames X.base X.stack := by
  rcases I.ok.stk with e | ⟨e, hf⟩
  · rw [e]; exact I.funs
  · rw [e]
    obtain ⟨m, hn, _⟩ := I.loc
    refine .cons (by rw [I.ok.kind]; decide) hf hn ?_ I.funs
    exact Heap.get?_none_of_le (Nat.le_trans I.ok.bsz I.ok.above)
theorem Inv.stkSub (I : Inv X pins σ H s) : ∀ b ∈ frs X.stack, b ∈ X.env.locals :: X.fs := fun b hb => by
  rcases I.ok.stk with e | ⟨e, hf⟩
  · rw [e] at hb; exact List.mem_cons_of_mem _ hb
  · rw [e] at hb
    unfold frs at hb
    rw [List.filterMap_cons, hf] at hb
    exact hb
theorem Inv.stkFree (I : Inv X pins σ H s) : ∀ b ∈ frs X.stack, H b = none := fun b hb => by
  rcases List.mem_cons.mp (I.stkSub b hb) with e | hb
  · rw [e]; exact I.free
  · obtain ⟨_, o, ho, _⟩ := I.ok.funs.mem hb
    exact I.base.free b o ho (I.ok.frf b hb) fun z => I.ok.exfs b z hb
theorem Inv.step {g' : Array GenState} {t' : Nat} {d' : Drawn} {ch : List Addr} (I : Inv X pins σ H s)
    (hch : ∀ b ∈ ch, (b ∈ X.ex ∨ X.s_0.heap.objs.size ≤ b) ∧ b ≠ X.env.locals ∧ (∀ x c, X.env.cells.lookup x = some c → c ≠ b) ∧ ∀ p ∈ X.pn ++ pins, p.1 ≠ b)
    (keep : ∀ b o, b ≠ X.env.locals → b ∉ X.fs → b ∉ ch → s.heap.get? b = some o → H b = none → h'.get? b = some o)
    (slot : ∀ b o, b ≠ X.env.locals → b ∈ X.fs → b ∉ ch → s.heap.get? b = some o → H b = none → ∃ sl, h'.get? b = some { o with slots := sl }) (free : ∀ b o, b ∉ ch → s.heap.get? b = some o → H b = none → H' b = none)
    (there : ∀ b o, b ∉ ch → s.heap.get? b = some o → ∃ o', h'.get? b = some o')
    (tups : ∀ b xs, H b = some (.tup xs) → H' b = some (.tup xs)) (frzs : ∀ b o u, H b = some (.frz o u) → H' b = some (.frz o u)) (tbls : ∀ b ps, H b = some (.tbl ps) → ∃ more, H' b = some (.tbl (ps ++ more)))
    (ns : ∀ m, s.heap.Ns X.env.locals m → h'.Ns X.env.locals m) (hok : HOk X.prog X.w H' h') (hg : AllBare g') :
    Inv X pins σ H' { s with heap := h', gens := g', drawn := d', toks := t' } := by
  have neL : ∀ b o, X.s_0.heap.get? b = some o → b ≠ X.env.locals := fun b o e => Nat.ne_of_lt (Nat.lt_of_lt_of_le (Heap.lt_size e) I.ok.above)
  have neC : ∀ b o, X.s_0.heap.get? b = some o → b ∉ X.ex → b ∉ ch := fun b o e hx hb => by
    rcases (hch b hb).1 with z | z
    · exact hx z
    · exact absurd (Nat.lt_of_lt_of_le (Heap.lt_size e) z) (Nat.lt_irrefl _)
  have cellK : ∀ x c, X.env.cells.lookup x = some c → ∀ v, s.heap.IsCell c v → h'.IsCell c v := fun x c e v ⟨o, ho, hd⟩ => by
    have nch : c ∉ ch := fun z => (hch c z).2.2.1 x c e rfl
    by_cases hc : c ∈ X.fs
    · obtain ⟨sl, q⟩ := slot c o (I.cne x c e) hc nch ho (I.freeC x c e)
      exact ⟨_, q, hd⟩
    · exact ⟨o, keep c o (I.cne x c e) hc nch ho (I.freeC x c e), hd⟩
  refine ⟨I.ok, I.os, hg, ⟨fun b o e n hb hx => ?_, fun b o e n hb hx => ?_, fun b o e n hx => ?_, fun b o e hx => ?_, fun b xs e => tups b xs (I.base.tups b xs e), fun b o xs e => frzs b o xs (I.base.frzs b o xs e), fun b ps e => ?_⟩, ?_, fun x c e => ?_, ?_, fun x c e => ?_, fun p hp => ?_, hok, I.len⟩
  · exact keep b o (neL b o e) hb (neC b o e hx) (I.base.keep b o e n hb hx) (I.base.free b o e n hx)
  · obtain ⟨sl, e1⟩ := I.base.slot b o e n hb hx
    obtain ⟨sl', e2⟩ := slot b _ (neL b o e) hb (neC b o e hx) e1 (I.base.free b o e n hx)
    exact ⟨sl', e2⟩
  · obtain ⟨o', e1⟩ := I.base.there b o e hx
    exact free b o' (neC b o e hx) e1 (I.base.free b o e n hx)
  · obtain ⟨o', e1⟩ := I.base.there b o e hx
    exact there b o' (neC b o e hx) e1
  · obtain ⟨m1, e1⟩ := I.base.tbls b ps e
    obtain ⟨m2, e2⟩ := tbls b _ e1
    exact ⟨m1 ++ m2, by rw [e2, Array.append_assoc]⟩
  · obtain ⟨m, hn, hl⟩ := I.loc
    refine ⟨m, ns m hn, fun i x v e1 e2 e3 => ?_⟩
    obtain ⟨u, r, l⟩ := hl i x v e1 e2 e3
    refine ⟨u, r, ?_⟩
    rcases l with l | ⟨k, c, e, z⟩
    · exact .inl l
    · exact .inr ⟨k, c, e, cellK x c e _ z⟩
  · obtain ⟨v, z⟩ := I.cell x c e
    exact ⟨v, cellK x c e v z⟩
  · obtain ⟨m, ⟨o, _, _, ho, _⟩, _⟩ := I.loc
    exact free _ o (fun z => (hch _ z).2.1 rfl) ho I.free
  · obtain ⟨v, o, ho, hd⟩ := I.cell x c e
    exact free c o (fun z => (hch c z).2.2.1 x c e rfl) ho (I.freeC x c e)
  · obtain ⟨e, n, ne, nf, d⟩ := I.pin p hp
    have nch : p.1 ∉ ch := fun z => (hch p.1 z).2.2.2 p hp rfl
    exact ⟨keep p.1 p.2 ne nf nch e n, free p.1 p.2 nch e n, ne, nf, d⟩
theorem Inv.un {t' : Nat} (I : Inv X pins σ H s) (u : Un X.fs [] H H' s.heap h') (hok : HOk X.prog X.w H' h') : Inv X pins σ H' { s with heap := h', toks := t' } := by
  obtain ⟨m, ⟨o, es, ep, ho, r⟩, _⟩ := id I.loc
  obtain ⟨sl, hL⟩ := u.any ho I.free (by simp)
  exact I.step (g' := s.gens) (d' := s.drawn) (ch := []) (fun _ z => nomatch z) (fun b o _ hb _ e n => u.keep b o e n hb (by simp)) (fun b o _ hb _ e n => u.slot b o e n hb (by simp)) (fun b o _ e n => u.free b o e n (by simp)) (fun b o _ e => u.there b o e (by simp)) u.tups u.frzs u.tbls (fun m' hm => by
    obtain ⟨o', es', ep', ho', r'⟩ := hm
    rw [ho] at ho'; cases ho'
    exact ⟨_, es', ep', hL, r'⟩) hok I.bare
theorem Inv.call {g' : Array GenState} {t' : Nat} {d' : Drawn} {ch : List Addr} (I : Inv X pins σ H s) (u : Un (frs X.stack) ch H H' s.heap h') (hok : HOk X.prog X.w H' h') (hg : AllBare g')
    (hch : ∀ b ∈ ch, (b ∈ X.ex ∨ X.s_0.heap.objs.size ≤ b) ∧ b ≠ X.env.locals ∧ (∀ x c, X.env.cells.lookup x = some c → c ≠ b) ∧ ∀ p ∈ X.pn ++ pins, p.1 ≠ b) :
    Inv X pins σ H' { s with heap := h', gens := g', drawn := d', toks := t' } := by
  obtain ⟨m, ⟨o, es, ep, ho, r⟩, _⟩ := id I.loc
  obtain ⟨sl, hL⟩ := u.any ho I.free fun z => (hch _ z).2.1 rfl
  exact I.step (ch := ch) hch (fun b o hL hb hc e n => u.keep b o e n (fun z => (List.mem_cons.mp (I.stkSub b z)).elim hL hb) hc) (fun b o _ _ hc e n => u.any e n hc) (fun b o hc e n => u.free b o e n hc) (fun b o hc e => u.there b o e hc) u.tups u.frzs u.tbls (fun m' hm => by
    obtain ⟨o', es', ep', ho', r'⟩ := hm
    rw [ho] at ho'; cases ho'
    exact ⟨_, es', ep', hL, r'⟩) hok hg
theorem Inv.turned {t' : Nat} {it : Addr} (I : Inv X pins σ H s) (k : ∀ b o, b ≠ it → s.heap.get? b = some o → h'.get? b = some o) (hn : H it = none) (hL : it ≠ X.env.locals)
    (h1 : it ∈ X.ex ∨ X.s_0.heap.objs.size ≤ it) (h2 : ∀ x c, X.env.cells.lookup x = some c → c ≠ it) (h3 : ∀ p ∈ X.pn ++ pins, p.1 ≠ it) : Inv X pins σ H { s with heap := h', toks := t' } := by
  have nit : ∀ b u, H b = some u → b ≠ it := fun b u e z => by rw [z, hn] at e; cases e
  refine I.step (g' := s.gens) (d' := s.drawn) (ch := [it]) (fun b hb => ?_) (fun b o _ _ hc e _ => k b o (fun z => hc (by simp [z])) e) (fun b o _ _ hc e _ => ⟨o.slots, k b o (fun z => hc (by simp [z])) e⟩) (fun _ _ _ _ n => n)
    (fun b o hc e => ⟨o, k b o (fun z => hc (by simp [z])) e⟩) (fun _ _ e => e) (fun _ _ _ e => e) (fun b ps e => ⟨#[], by rw [e]; simp⟩) (fun m hm => ?_) (fun b u e => ?_) I.bare
  · have e : b = it := by simpa using hb
    subst e
    exact ⟨h1, hL, h2, h3⟩
  · obtain ⟨o, es, ep, ho, r⟩ := hm
    exact ⟨o, es, ep, k _ o (Ne.symm hL) ho, r⟩
  · refine (I.hok b u e).stay (fun c v hc q => k c v ?_ q) (fun _ q => q) fun _ _ q => q
    rcases hc with z | z
    · rw [z]; exact nit b u e
    · exact nit c _ z
theorem Inv.tok (I : Inv X pins σ H s) (t : Nat) : Inv X pins σ H { s with toks := t } := I.un (h' := s.heap) (t' := t) Un.refl I.hok
theorem Inv.kept {t' : Nat} (I : Inv X pins σ H s) (k : ∀ b u, s.heap.get? b = some u → h'.get? b = some u) : Inv X pins σ H { s with heap := h', toks := t' } := I.un (Un.kept k) (I.hok.kept k)
theorem Inv.laid {a : Addr} {o : HO} {t' : Nat} (I : Inv X pins σ H s) (k : ∀ b u, s.heap.get? b = some u → h'.get? b = some u) (hp : s.heap.objs.size ≤ a) (new : ObjOk X.prog X.w (upd H a o) h' a o) :
    Inv X pins σ (upd H a o) { s with heap := h', toks := t' } := I.un (Un.laid k hp (I.hok.fresh hp)) (I.hok.laid k hp new)
theorem Inv.write {x e : Addr} {o : HO} {t' : Nat} (I : Inv X pins σ H s) (mu : Mut (H x)) (he : e = x ∨ H e = some (.own x)) (k : ∀ b u, b ≠ e → s.heap.get? b = some u → h'.get? b = some u) (heo : ∃ u, h'.get? e = some u)
    (new : ObjOk X.prog X.w (upd H x o) h' x o) : Inv X pins σ (upd H x o) { s with heap := h', toks := t' } := I.un (Un.write mu he k heo) (I.hok.write mu he k heo new)
theorem Inv.weak {σ' : List (Option V)} (I : Inv X pins σ H s) (hl : σ'.length = σ.length) (w : ∀ (i : Nat) v, σ'[i]? = some (some v) → σ[i]? = some (some v)) : Inv X pins σ' H s :=
  ⟨I.ok, I.os, I.bare, I.base, let ⟨m, hn, hl'⟩ := I.loc; ⟨m, hn, fun i x v e1 e2 e3 => hl' i x v e1 (w i v e2) e3⟩, I.cell, I.free, I.freeC, I.pin, I.hok, hl.trans I.len⟩
theorem Inv.pins_of {pins' : List (Addr × Obj)} (I : Inv X pins σ H s) (h : ∀ p ∈ pins', s.heap.get? p.1 = some p.2 ∧ H p.1 = none ∧ p.1 ≠ X.env.locals ∧ p.1 ∉ X.fs ∧ ∀ v, p.2.data ≠ .cell v) : Inv X pins' σ H s :=
  ⟨I.ok, I.os, I.bare, I.base, I.loc, I.cell, I.free, I.freeC, fun p hp => (List.mem_append.mp hp).elim (fun z => I.pin p (List.mem_append_left _ z)) (h p), I.hok, I.len⟩
theorem nodup_ix {N : List Str} (hN : N.Nodup) {i j : Nat} {x : Str} (a : N[i]? = some x) (b : N[j]? = some x) : i = j := by
  obtain ⟨h1, e1⟩ := List.getElem?_eq_some_iff.mp a
  obtain ⟨h2, e2⟩ := List.getElem?_eq_some_iff.mp b
  exact (List.getElem_inj hN).mp (e1.trans e2.symm)
theorem store_ok2 {M : Model} {A : Around} {E : Value → Shared → Prop} {i : Nat} {x : Str} {v : V} {u : Value} {Q : Unit → Shared → Prop} (I : Inv X pins σ H s) (hN : X.N.Nodup) (hi : X.N[i]? = some x) (hx : Loc X.env.scope x) (r : RelV v u)
    (h : ∀ s', Inv X pins (σ.set i (some v)) H s' → (∃ a, Heap.SameBut a s.heap s'.heap ∧ (a = X.env.locals ∨ X.env.cells.lookup x = some a)) → Q () s') (hf : X.fn x = true ∨ X.env.scope.names.lookup x = some .local := by first | exact .inl rfl | exact .inr rfl | assumption) : wpAny M A (storeName X.env x u) Q E s := by
  obtain ⟨m, hn, hl⟩ := id I.loc
  have hcls : (X.env.scope.kind == .class || (X.env.scope.kind == .module && X.env.locals != X.env.globals)) = false := by rw [I.ok.kind]; rfl
  have hiσ : i < σ.length := by rw [I.len]; exact (List.getElem?_eq_some_iff.mp hi).1
  have cne := I.cne
  have tracked : ∀ {a : Addr} {h' : Heap}, (∃ o, s.heap.get? a = some o ∧ H a = none) → Heap.SameBut a s.heap h' → HOk X.prog X.w H h' := fun {a h'} ha hs b ob e => by
    obtain ⟨_, _, hfree⟩ := ha
    refine (I.hok b ob e).stay (fun c w' hc q => (hs.2 c ?_).trans q) (fun _ q => q) fun _ _ q => q
    rintro rfl
    rcases hc with rfl | hc
    · rw [hfree] at e; cases e
    · rw [hfree] at hc; cases hc
  rcases hx with hk | hk
  · refine wpAny_storeName_local hk hn (fun h' hn' hs => ?_) hcls
    obtain ⟨oL, _, _, hoL, _⟩ := id hn
    refine h _ ⟨I.ok, I.os, I.bare, ⟨fun b o e n hb hx => ?_, fun b o e n hb hx => ?_, I.base.free, fun b o e hx => ?_, I.base.tups, I.base.frzs, I.base.tbls⟩, ⟨_, hn', fun j y v' e1 e2 e3 => ?_⟩, fun y c e => ?_, I.free, I.freeC, fun p hp => ?_, tracked ⟨oL, hoL, I.free⟩ hs, by simpa using I.len⟩ ⟨_, hs, .inl rfl⟩
    · exact (hs.2 b (Nat.ne_of_lt (Nat.lt_of_lt_of_le (Heap.lt_size e) I.ok.above))).trans (I.base.keep b o e n hb hx)
    · obtain ⟨sl, e1⟩ := I.base.slot b o e n hb hx
      exact ⟨sl, (hs.2 b (Nat.ne_of_lt (Nat.lt_of_lt_of_le (Heap.lt_size e) I.ok.above))).trans e1⟩
    · obtain ⟨o', e1⟩ := I.base.there b o e hx
      exact ⟨o', (hs.2 b (Nat.ne_of_lt (Nat.lt_of_lt_of_le (Heap.lt_size e) I.ok.above))).trans e1⟩
    · by_cases hj : j = i
      · subst hj
        rw [hi] at e1; cases e1
        rw [List.getElem?_set_self hiσ] at e2
        cases e2
        exact ⟨u, r, .inl ⟨hk, by simp⟩⟩
      · rw [List.getElem?_set_ne (Ne.symm hj)] at e2
        obtain ⟨u', r', q⟩ := hl j y v' e1 e2 e3
        refine ⟨u', r', ?_⟩
        rcases q with ⟨k, e⟩ | ⟨k, c, e, z⟩
        · refine .inl ⟨k, ?_⟩
          have : y ≠ x := fun e => hj (nodup_ix hN e1 (e ▸ hi))
          simp [this, e]
        · exact .inr ⟨k, c, e, z.sameBut hs (cne y c e)⟩
    · obtain ⟨w', z⟩ := I.cell y c e
      exact ⟨w', z.sameBut hs (cne y c e)⟩
    · obtain ⟨e, n, ne, nf, d⟩ := I.pin p hp
      exact ⟨(hs.2 p.1 ne).trans e, n, ne, nf, d⟩
  · have hfn : X.fn x = true := by
      rcases hf with z | z
      · exact z
      · rw [z] at hk; cases hk
    obtain ⟨c, hc⟩ := I.ok.has x (.inl hk)
    obtain ⟨w', z⟩ := I.cell x c hc
    refine wpAny_storeName_cell I.ok.kind hk hc z (fun h' hc' hs => ?_)
    obtain ⟨oc, hoc, hocd⟩ := id z
    refine h { s with heap := h' } ⟨I.ok, I.os, I.bare, ⟨fun b o e n hb hx => ?_, fun b o e n hb hx => ?_, I.base.free, fun b o e hx => ?_, I.base.tups, I.base.frzs, I.base.tbls⟩, ⟨m, hn.sameBut hs (Ne.symm (cne x c hc)), fun j y v' e1 e2 e3 => ?_⟩, fun y c' e => ?_, I.free, I.freeC, fun p hp => ?_, tracked ⟨oc, hoc, I.freeC x c hc⟩ hs, by simpa using I.len⟩ ⟨c, hs, .inr hc⟩
    · exact (hs.2 b (Nat.ne_of_lt (Nat.lt_of_lt_of_le (Heap.lt_size e) (I.ok.cab x c hfn hc)))).trans (I.base.keep b o e n hb hx)
    · obtain ⟨sl, e1⟩ := I.base.slot b o e n hb hx
      exact ⟨sl, (hs.2 b (Nat.ne_of_lt (Nat.lt_of_lt_of_le (Heap.lt_size e) (I.ok.cab x c hfn hc)))).trans e1⟩
    · obtain ⟨o', e1⟩ := I.base.there b o e hx
      exact ⟨o', (hs.2 b (Nat.ne_of_lt (Nat.lt_of_lt_of_le (Heap.lt_size e) (I.ok.cab x c hfn hc)))).trans e1⟩
    · by_cases hj : j = i
      · subst hj
        rw [hi] at e1; cases e1
        rw [List.getElem?_set_self hiσ] at e2
        cases e2
        exact ⟨u, r, .inr ⟨.inl hk, c, hc, hc'⟩⟩
      · rw [List.getElem?_set_ne (Ne.symm hj)] at e2
        obtain ⟨u', r', q⟩ := hl j y v' e1 e2 e3
        refine ⟨u', r', ?_⟩
        rcases q with q | ⟨k, c', e, z'⟩
        · exact .inl q
        · refine .inr ⟨k, c', e, z'.sameBut hs ?_⟩
          rintro rfl
          exact hj (nodup_ix hN e1 (I.ok.inj _ _ _ e hc ▸ hi))
    · by_cases hcc : c' = c
      · subst hcc; exact ⟨_, hc'⟩
      · obtain ⟨w2, z2⟩ := I.cell y c' e
        exact ⟨w2, z2.sameBut hs hcc⟩
    · obtain ⟨e, n, ne, nf, d⟩ := I.pin p hp
      refine ⟨(hs.2 p.1 ?_).trans e, n, ne, nf, d⟩
      intro q
      rw [q, hoc] at e
      have q' : oc = p.2 := Option.some.inj e
      exact d w' (by rw [← q']; exact hocd)
theorem store_ok {M : Model} {A : Around} {E : Value → Shared → Prop} {i : Nat} {x : Str} {v : V} {u : Value} {Q : Unit → Shared → Prop} (I : Inv X pins σ H s) (hN : X.N.Nodup) (hi : X.N[i]? = some x) (hx : Loc X.env.scope x) (r : RelV v u)
    (h : ∀ s', Inv X pins (σ.set i (some v)) H s' → Q () s') (hf : X.fn x = true ∨ X.env.scope.names.lookup x = some .local := by first | exact .inl rfl | exact .inr rfl | assumption) : wpAny M A (storeName X.env x u) Q E s :=
  store_ok2 I hN hi hx r (fun s' I' _ => h s' I') hf
theorem Inv.call' {s' : Shared} {ch : List Addr} (I : Inv X pins σ H s) (ho : s'.os = s.os) (u : Un (frs X.stack) ch H H' s.heap s'.heap) (hok : HOk X.prog X.w H' s'.heap) (hg : AllBare s'.gens)
    (hch : ∀ b ∈ ch, (b ∈ X.ex ∨ X.s_0.heap.objs.size ≤ b) ∧ b ≠ X.env.locals ∧ (∀ x c, X.env.cells.lookup x = some c → c ≠ b) ∧ ∀ p ∈ X.pn ++ pins, p.1 ≠ b) : Inv X pins σ H' s' := by
  obtain ⟨h', g', d', t', o'⟩ := s'
  have e : o' = s.os := ho
  subst e
  exact I.call (g' := g') (t' := t') (d' := d') u hok hg hch
end
abbrev XK := Value → Option Addr → Hp → Prop
abbrev St := List (Option V)
abbrev VK := V → Hp → Prop
abbrev TE := St → Hp → VK → Prop
abbrev TT := St → Hp → (Bool → Hp → Prop) → Prop
abbrev TA := St → Hp → (List V → Hp → Prop) → Prop
structure Ends where
  nx : St → Hp → Prop
  rt : VK
  bk : St → Hp → Prop := fun _ _ => False
  ct : St → Hp → Prop := fun _ _ => False
abbrev TS := Ends → St → Hp → Prop
def EP (X : Cx) (pins : List (Addr × Obj)) (σ : St) (Q : VK) (u : Value) (s' : Shared) : Prop := ∃ v H', Inv X pins σ H' s' ∧ RelV v u ∧ Q v H'
def TP (X : Cx) (pins : List (Addr × Obj)) (σ : St) (Q : Bool → Hp → Prop) (b : Bool) (s' : Shared) : Prop := ∃ H', Inv X pins σ H' s' ∧ Q b H'
def AP (X : Cx) (pins : List (Addr × Obj)) (σ : St) (Q : List V → Hp → Prop) (us : List Value) (s' : Shared) : Prop := ∃ vs H', Inv X pins σ H' s' ∧ Vals vs us ∧ Q vs H'
def SP (X : Cx) (pins : List (Addr × Obj)) (D : Ends) (f : Flow) (s' : Shared) : Prop :=
  match f with
  | .next => ∃ σ' H', Inv X pins σ' H' s' ∧ D.nx σ' H'
  | .brk => ∃ σ' H', Inv X pins σ' H' s' ∧ D.bk σ' H'
  | .cont => ∃ σ' H', Inv X pins σ' H' s' ∧ D.ct σ' H'
  | .ret u => ∃ v σ' H', Inv X pins σ' H' s' ∧ RelV v u ∧ D.rt v H'
def PE (X : Cx) (e : Expr) (t : TE) : Prop :=
  ∀ (pins : List (Addr × Obj)) (s : Shared) (σ : St) (H : Hp) (Q : VK), Inv X pins σ H s → t σ H Q → wpAny (model X.prog X.w) X.A (eval e X.env) (EP X pins σ Q) X.xe s
def PT (X : Cx) (e : Expr) (t : TT) : Prop :=
  ∀ (pins : List (Addr × Obj)) (s : Shared) (σ : St) (H : Hp) (Q : Bool → Hp → Prop), Inv X pins σ H s → t σ H Q → wpAny (model X.prog X.w) X.A (isTrue e X.env (eval e X.env)) (TP X pins σ Q) X.xe s
def PW (X : Cx) (e : Expr) (t : TT) : Prop :=
  ∀ (whole : Sem Value) (pins : List (Addr × Obj)) (s : Shared) (σ : St) (H : Hp) (Q : Bool → Hp → Prop), Inv X pins σ H s → t σ H Q → wpAny (model X.prog X.w) X.A (isTrue e X.env whole) (TP X pins σ Q) X.xe s
theorem PW.pt {X : Cx} {e : Expr} {t : TT} (h : PW X e t) : PT X e t := h _
def PA (X : Cx) (es : List Expr) (t : TA) : Prop :=
  ∀ (pos : Pos) (pins : List (Addr × Obj)) (s : Shared) (σ : St) (H : Hp) (Q : List V → Hp → Prop), Inv X pins σ H s → t σ H Q → wpAny (model X.prog X.w) X.A (spliced (backTo pos (starEach es X.env))) (AP X pins σ Q) X.xe s
def PS (X : Cx) (st : Stmt) (t : TS) : Prop :=
  ∀ (pins : List (Addr × Obj)) (s : Shared) (σ : St) (H : Hp) (D : Ends), Inv X pins σ H s → t D σ H → wpAny (model X.prog X.w) X.A (exec st X.env) (SP X pins D) X.xe s
def PSs (X : Cx) (st : List Stmt) (t : TS) : Prop :=
  ∀ (pins : List (Addr × Obj)) (s : Shared) (σ : St) (H : Hp) (D : Ends), Inv X pins σ H s → t D σ H → wpAny (model X.prog X.w) X.A (execs st X.env) (SP X pins D) X.xe s
theorem thn {α : Type} {t : Sem α} {Q Q' : α → Shared → Prop} {M : Model} {A : Around} {E : Value → Shared → Prop} {s : Shared} (h : wpAny M A t Q E s) (hQ : ∀ a s, Q a s → Q' a s) : wpAny M A t Q' E s := wpAny_mono h hQ fun _ _ x => x
end L2
namespace L2
open PySem PySem.Spec PyProof.Rows
section
variable {X : Cx}
theorem bin {a b : Expr} {ta tb : TE} (ha : PE X a ta) (hb : PE X b tb) {pins : List (Addr × Obj)} {s : Shared} {σ : St} {H : Hp} {R : V → V → Hp → Prop} (I : Inv X pins σ H s) (h : ta σ H fun x H1 => tb σ H1 fun y H2 => R x y H2)
    {α : Type} {Q : α → Shared → Prop} {f : Value → Value → Sem α}
    (hf : ∀ v u s2 x y H2, Inv X pins σ H2 s2 → RelV x v → RelV y u → R x y H2 → wpAny (model X.prog X.w) X.A (f v u) Q X.xe s2) :
    wpAny (model X.prog X.w) X.A (eval a X.env) (fun v s₁ => wpAny (model X.prog X.w) X.A (eval b X.env) (fun u s₂ => wpAny (model X.prog X.w) X.A (f v u) Q X.xe s₂) X.xe s₁) X.xe s := by
  refine thn (ha pins s σ H _ I h) fun v s1 ⟨x, H1, I1, r1, q1⟩ => ?_
  refine thn (hb pins s1 σ H1 _ I1 q1) fun u s2 ⟨y, H2, I2, r2, q2⟩ => ?_
  exact hf v u s2 x y H2 I2 r1 r2 q2
def tVar (i : Nat) : TE := fun σ H Q => ∃ v, σ[i]? = some (some v) ∧ Q v H
def tC (v : V) : TE := fun _ H Q => Q v H
theorem pe_var {i : Nat} {x : Str} {pos : Pos} (hN : X.N[i]? = some x) (hv : Vis X.env.scope x) (hd : (x == ("__debug__" : Str)) = false := by decide) (hcd : (x == ("__classdict__" : Str)) = false := by decide) : PE X (.Name x pos) (tVar i) := by
  intro pins s σ H Q I h
  obtain ⟨v, e, h⟩ := h
  obtain ⟨m, hn, hl⟩ := I.loc
  obtain ⟨u, r, l⟩ := hl i x v hN e hv
  have fin : EP X pins σ Q u s := ⟨v, H, I, r, h⟩
  rcases l with ⟨hk, hm⟩ | ⟨hk, c, hc, hcell⟩
  · exact wpAny_Name (wpAny_loadName_local I.ok.kind hk hn hm fin) hd
  · rcases hk with hk | hk
    · exact wpAny_Name (wpAny_loadName_cell I.ok.kind hk hc hcell fin) hd
    · exact wpAny_Name (wpAny_loadName_free I.ok.kind hk hc hcell fin hcd) hd
theorem pe_int {i j pos} : PE X (.Constant (.int i) j pos) (tC (.int i)) := fun _ _ _ H _ I h => wpAny_Constant_int ⟨.int i, H, I.tok _, ⟨_, rfl⟩, h⟩
theorem pe_bl {b j pos} : PE X (.Constant (.bool b) j pos) (tC (.bl b)) := fun _ _ _ H _ I h => Constant_bool ⟨.bl b, H, I, rfl, h⟩
theorem pe_non {j pos} : PE X (.Constant .none j pos) (tC .non) := fun _ _ _ H _ I h => Constant_none ⟨.non, H, I, rfl, h⟩
theorem pe_str {x j pos} : PE X (.Constant (.str x) j pos) (tC (.str x)) := fun _ _ _ H _ I h => Calls.Constant_str ⟨.str x, H, I.tok _, ⟨_, rfl⟩, h⟩
def Gl (X : Cx) (x : Str) : Prop := X.env.kindOf x = some .globalImplicit
theorem ld_glob {E : Value → Shared → Prop} {pins : List (Addr × Obj)} {s : Shared} {σ : St} {H : Hp} {x : Str} {u : Value} {pos : Pos} {Q : Value → Shared → Prop} (I : Inv X pins σ H s) (hg : Gl X x) (hm : X.mg x = some u) (h : Q u s)
    (hd : (x == ("__debug__" : Str)) = false := by decide) : wpAny (model X.prog X.w) X.A (eval (.Name x pos) X.env) Q E s :=
  Calls.Name_function_global I.ok.kind hg (Calls.loadGlobal_global (by rw [I.ok.glob]; exact I.mod.glob.keeps I.bk) hm h) hd
theorem ld_blt {E : Value → Shared → Prop} {pins : List (Addr × Obj)} {s : Shared} {σ : St} {H : Hp} {x : Str} {u : Value} {pos : Pos} {Q : Value → Shared → Prop} (I : Inv X pins σ H s) (hg : Gl X x) (hm : X.mg x = none) (hv : bootBuiltins x = some u) (h : Q u s)
    (hn : x ≠ "__name__" := by decide) (hd : (x == ("__debug__" : Str)) = false := by decide) : wpAny (model X.prog X.w) X.A (eval (.Name x pos) X.env) Q E s := by
  obtain ⟨mb, h1, h2⟩ := I.mod.blt
  exact Calls.Name_function_global I.ok.kind hg (Calls.loadGlobal_builtin (by rw [I.ok.glob]; exact I.mod.glob.keeps I.bk) hm (by rw [I.ok.blt]; exact h1.keeps I.bk) ((h2 x hn).trans hv) h) hd
theorem pe_glob {x : Str} {v : V} {u : Value} {pos : Pos} (hg : Gl X x) (hm : X.mg x = some u) (r : RelV v u) (hd : (x == ("__debug__" : Str)) = false := by decide) : PE X (.Name x pos) (tC v) :=
  fun _ _ _ H _ I h => ld_glob I hg hm ⟨v, H, I, r, h⟩ hd
variable {a b : Expr} {ta tb : TE} {pos : Pos}
def PC (X : Cx) (op : CmpOp) (a b : Expr) (t : TE) : Prop :=
  ∀ (pins : List (Addr × Obj)) (s : Shared) (σ : St) (H : Hp) (Q : VK), Inv X pins σ H s → t σ H Q →
    wpAny (model X.prog X.w) X.A (eval a X.env) (fun v s₁ => wpAny (model X.prog X.w) X.A (eval b X.env) (fun u s₂ => wpAny (model X.prog X.w) X.A (compareOp op v u) (EP X pins σ Q) X.xe s₂) X.xe s₁) X.xe s
theorem nobehind (b : Expr) {op : CmpOp} (h : op ≠ .In) (h2 : op ≠ .NotIn) : behindInMarks op b = false := by
  have e1 : (op == CmpOp.In) = false := by cases op <;> first | rfl | exact absurd rfl h
  have e2 : (op == CmpOp.NotIn) = false := by cases op <;> first | rfl | exact absurd rfl h2
  cases b <;> simp [behindInMarks, e1, e2]
def tB (t : TE) : TT := fun σ H Q => t σ H fun x H1 => ∃ c, x = .bl c ∧ Q c H1
theorem pt_cmp {op : CmpOp} {t : TE} (h : PC X op a b t) (h1 : behindInMarks op b = false := by first | exact nobehind _ (by decide) (by decide) | rfl) : PT X (.Compare a [op] [b] pos) (tB t) := by
  intro pins s σ H Q I hw
  refine wpAny_isTrue_Compare1 (thn (h pins s σ H _ I hw) fun v s1 h1 => thn h1 fun u s2 h2 => thn h2 fun c s3 ⟨x, H1, I1, r1, q1⟩ => ?_) h1
  obtain ⟨d, rfl, q⟩ := q1
  cases r1
  exact wpAny_truthy_bool ⟨H1, I1, q⟩
theorem pt_val {e : Expr} {t : TE} (h : PE X e t) (he : ∀ whole, isTrue e X.env whole = (do let v ← whole; standAt e.pos; holding [v] (truthy v)) := by intro _; rfl) : PT X e (tB t) := by
  intro pins s σ H Q I hw
  refine isTrue_plain (thn (h pins s σ H _ I hw) fun v s1 ⟨x, H1, I1, r1, q1⟩ => ?_) (he _)
  obtain ⟨d, rfl, q⟩ := q1
  cases r1
  exact wpAny_truthy_bool ⟨H1, I1, q⟩
variable {tA tB' : TT} {rest : List Expr}
def tAnd (t u : TT) : TT := fun σ H Q => t σ H fun c H1 => if c = true then u σ H1 Q else Q false H1
def tOr (t u : TT) : TT := fun σ H Q => t σ H fun c H1 => if c = true then Q true H1 else u σ H1 Q
def tNot (t : TT) : TT := fun σ H Q => t σ H fun c H1 => Q (!c) H1
theorem pw_and1 (ha : PT X a tA) : PW X (.BoolOp .And [a] pos) tA := by
  intro wh pins s σ H Q I h
  refine isTrue_and (thn (ha pins s σ H Q I h) fun c s1 e => ?_)
  cases c with
  | true => exact isTrue_and_nil e
  | false => exact e
theorem pw_or1 (ha : PT X a tA) : PW X (.BoolOp .Or [a] pos) tA := by
  intro wh pins s σ H Q I h
  refine isTrue_or (thn (ha pins s σ H Q I h) fun c s1 e => ?_)
  cases c with
  | false => exact isTrue_or_nil e
  | true => exact e
theorem pw_and (ha : PT X a tA) (hb : PW X (.BoolOp .And (b :: rest) pos) tB') : PW X (.BoolOp .And (a :: b :: rest) pos) (tAnd tA tB') := by
  intro wh pins s σ H Q I h
  refine isTrue_and (thn (ha pins s σ H _ I h) fun c s1 ⟨H1, I1, q1⟩ => ?_)
  cases c with
  | true => exact hb wh pins s1 σ H1 Q I1 q1
  | false => exact ⟨H1, I1, q1⟩
theorem pw_or (ha : PT X a tA) (hb : PW X (.BoolOp .Or (b :: rest) pos) tB') : PW X (.BoolOp .Or (a :: b :: rest) pos) (tOr tA tB') := by
  intro wh pins s σ H Q I h
  refine isTrue_or (thn (ha pins s σ H _ I h) fun c s1 ⟨H1, I1, q1⟩ => ?_)
  cases c with
  | true => exact ⟨H1, I1, q1⟩
  | false => exact hb wh pins s1 σ H1 Q I1 q1
theorem pt_not (ha : PT X a tA) : PT X (.UnaryOp .Not a pos) (tNot tA) := by
  intro pins s σ H Q I h
  exact isTrue_not (ha pins s σ H (fun c H1 => Q (!c) H1) I h)
def tAndV (ta tb : TE) : TE := fun σ H Q => ta σ H fun x H1 => ∃ c, x = .bl c ∧ if c = true then tb σ H1 Q else Q (.bl false) H1
theorem pe_one {op} {t : TE} (h : PE X a t) : PE X (.BoolOp op [a] pos) t := fun pins s σ H Q I hw => BoolOp_one (h pins s σ H Q I hw)
theorem pe_and (ha : PE X a ta) (hb : PE X (.BoolOp .And (b :: rest) pos) tb) : PE X (.BoolOp .And (a :: b :: rest) pos) (tAndV ta tb) := by
  intro pins s σ H Q I h
  refine BoolOp_and (thn (ha pins s σ H _ I h) fun v s1 ⟨x, H1, I1, r1, q1⟩ => ?_)
  obtain ⟨c, rfl, q1⟩ := q1
  cases r1
  refine wpAny_truthy_bool ?_
  cases c with
  | true => exact hb pins s1 σ H1 Q I1 q1
  | false => exact ⟨.bl false, H1, I1, rfl, q1⟩
def tIf (t : TT) (ta tb : TE) : TE := fun σ H Q => t σ H fun c H1 => if c = true then ta σ H1 Q else tb σ H1 Q
theorem pe_ifExp {c : Expr} (hc : PT X c tA) (ha : PE X a ta) (hb : PE X b tb) : PE X (.IfExp c a b pos) (tIf tA ta tb) := by
  intro pins s σ H Q I h
  refine wpAny_IfExp (thn (hc pins s σ H _ I h) fun d s1 ⟨H1, I1, q1⟩ => ?_)
  cases d with
  | true => exact ha pins s1 σ H1 Q I1 q1
  | false => exact hb pins s1 σ H1 Q I1 q1
end
end L2
namespace L2
open PySem PySem.Spec PyProof.Rows
def SqL (K : PySem.W.Frag) (H : Hp) (a : Addr) (xs : List V) : Prop :=
  Rd H a (.lst xs) ∨
    ∃ (o : Obj) (its : Array Value) (n : Nat), K.lookup a = some o ∧ o.cls = .type "list" ∧ o.dict = none ∧ o.data = .seq its n ∧ its.size ≤ sizeLine ∧ Vals xs its.toList
def SqT (K : PySem.W.Frag) (H : Hp) (a : Addr) (xs : List V) : Prop :=
  Rd H a (.tup xs) ∨
    ∃ (o : Obj) (its : Array Value) (n : Nat), K.lookup a = some o ∧ o.cls = .type "tuple" ∧ o.data = .seq its n ∧ its.size ≤ sizeLine ∧ Vals xs its.toList
def absV : Value → Option V
  | .none => some .non
  | .bool b => some (.bl b)
  | .int i _ => some (.int i)
  | .str x _ => some (.str x)
  | .bytes b _ => some (.byt b)
  | .float b _ => some (.flt b)
  | .ref a => some (.ref a)
  | .type n => some (.ty n)
  | _ => none
theorem RelV.abs {x : V} {u : Value} (r : RelV x u) : absV u = some x := by
  cases x with
  | non => cases r; rfl
  | bl _ => cases r; rfl
  | int _ => obtain ⟨t, rfl⟩ := r; rfl
  | str _ => obtain ⟨t, rfl⟩ := r; rfl
  | byt _ => obtain ⟨t, rfl⟩ := r; rfl
  | flt _ => obtain ⟨t, rfl⟩ := r; rfl
  | ref _ => cases r; rfl
  | ty _ => cases r; rfl
theorem RelV.inj {x y : V} {u : Value} (r : RelV x u) (q : RelV y u) : x = y := Option.some.inj (r.abs.symm.trans q.abs)
theorem Vals.inj : ∀ {xs ys : List V} {us : List Value}, Vals xs us → Vals ys us → xs = ys
  | _, _, _, .nil, .nil => rfl
  | _, _, _, .cons r t, .cons r' t' => by rw [r.inj r', Vals.inj t t']
section
variable {X : Cx} {pins : List (Addr × Obj)} {σ : St} {H : Hp} {s : Shared} {a : Addr} {xs ys : List V}
theorem SqL.of {K : PySem.W.Frag} (h : H a = some (.lst xs)) : SqL K H a xs := .inl (.inl h)
theorem SqT.of {K : PySem.W.Frag} (h : H a = some (.tup xs)) : SqT K H a xs := .inl (.inl h)
theorem Inv.list (I : Inv X pins σ H s) (h : SqL X.K H a xs) : ∃ its : List Value, Vals xs its ∧ PlainL s.heap a its.toArray ∧ xs.length ≤ sizeLine := by
  rcases h with h | ⟨o, its, n, hk, hc, hd, hs, hz, r⟩
  · obtain ⟨z, its, n, r, e⟩ := h.ok I.hok
    exact ⟨its, r, ⟨_, n, e, rfl, rfl, rfl⟩, z⟩
  · refine ⟨its.toList, r, ⟨o, n, I.kIn a o hk, hc, hd, by simpa using hs⟩, ?_⟩
    have e := r.length
    simp only [Array.length_toList] at e
    omega
theorem Inv.tuple (I : Inv X pins σ H s) (h : SqT X.K H a xs) : ∃ its : List Value, Vals xs its ∧ IsTup s.heap a its.toArray ∧ xs.length ≤ sizeLine := by
  rcases h with h | ⟨o, its, n, hk, hc, hs, hz, r⟩
  · obtain ⟨z, its, r, p⟩ := h.ok I.hok
    exact ⟨its, r, p, z⟩
  · refine ⟨its.toList, r, ⟨o, I.kIn a o hk, hc, n, by simpa using hs⟩, ?_⟩
    have e := r.length
    simp only [Array.length_toList] at e
    omega
theorem Inv.list_inj (I : Inv X pins σ H s) (h : SqL X.K H a xs) (h' : SqL X.K H a ys) : xs = ys := by
  obtain ⟨its, r, ⟨o, n, e, _, _, d⟩, _⟩ := I.list h
  obtain ⟨its', r', ⟨o', n', e', _, _, d'⟩, _⟩ := I.list h'
  rw [e] at e'; cases e'
  rw [d] at d'
  injection d' with d1 _
  have : its = its' := by simpa using congrArg Array.toList d1
  subst this
  exact r.inj r'
theorem Inv.tuple_inj (I : Inv X pins σ H s) (h : SqT X.K H a xs) (h' : SqT X.K H a ys) : xs = ys := by
  obtain ⟨its, r, ⟨o, e, _, n, d⟩, _⟩ := I.tuple h
  obtain ⟨its', r', ⟨o', e', _, n', d'⟩, _⟩ := I.tuple h'
  rw [e] at e'; cases e'
  rw [d] at d'
  injection d' with d1 _
  have : its = its' := by simpa using congrArg Array.toList d1
  subst this
  exact r.inj r'
end
abbrev Cx.wish (X : Cx) (E : Value → Shared → Prop) : Cx := { X with xe := E }
theorem Cx.Ok.wish {X : Cx} (ok : X.Ok) (E : Value → Shared → Prop) : (X.wish E).Ok :=
  ⟨ok.mod, ok.kind, ok.glob, ok.blt, ok.above, ok.inj, ok.has, ok.cab, ok.hd, ok.frames, ok.stk, ok.exf, ok.bs, ok.bsz, ok.noex, ok.exfs, ok.funs, ok.frf⟩
theorem Cx.Ok.unwish {X : Cx} {E : Value → Shared → Prop} (ok : (X.wish E).Ok) : X.Ok :=
  ⟨ok.mod, ok.kind, ok.glob, ok.blt, ok.above, ok.inj, ok.has, ok.cab, ok.hd, ok.frames, ok.stk, ok.exf, ok.bs, ok.bsz, ok.noex, ok.exfs, ok.funs, ok.frf⟩
section
variable {X : Cx} {pins : List (Addr × Obj)} {σ : St} {H : Hp} {s : Shared} {E : Value → Shared → Prop}
theorem Inv.wish (I : Inv X pins σ H s) (E : Value → Shared → Prop) : Inv (X.wish E) pins σ H s := ⟨I.ok.wish E, I.os, I.bare, I.base, I.loc, I.cell, I.free, I.freeC, I.pin, I.hok, I.len⟩
theorem Inv.unwish (I : Inv (X.wish E) pins σ H s) : Inv X pins σ H s := ⟨I.ok.unwish, I.os, I.bare, I.base, I.loc, I.cell, I.free, I.freeC, I.pin, I.hok, I.len⟩
end
section
variable {X : Cx} {st : Stmt} {rest : List Stmt} {t u : TS} {e : Expr} {te : TE} {pos : Pos}
def tNext : TS := fun D σ H => D.nx σ H
def tSeq (t u : TS) : TS := fun D σ H => t { D with nx := u D } σ H
theorem pss_nil : PSs X [] tNext := fun _ _ σ H _ I h => wpAny_execs_nil ⟨σ, H, I, h⟩
theorem pss_cons (h1 : PS X st t) (h2 : PSs X rest u) : PSs X (st :: rest) (tSeq t u) := by
  intro pins s σ H D I h
  refine wpAny_execs_cons (thn (h1 pins s σ H { D with nx := u D } I h) fun f s1 q => ?_)
  cases f with
  | next =>
    obtain ⟨σ', H', I', q⟩ := q
    exact h2 pins s1 σ' H' D I' q
  | ret v => exact q
  | brk => exact q
  | cont => exact q
theorem pss_one (h1 : PS X st t) : PSs X [st] t := by
  intro pins s σ H D I h
  refine wpAny_execs_cons (thn (h1 pins s σ H D I h) fun f s1 q => ?_)
  cases f with
  | next => exact wpAny_execs_nil q
  | ret v => exact q
  | brk => exact q
  | cont => exact q
theorem Inv.quiet {pins : List (Addr × Obj)} {σ : St} {H : Hp} {s : Shared} (I : Inv X pins σ H s) : interactive X.env = false := by simp [interactive, I.ok.kind]
def tDrop (te : TE) : TS := fun D σ H => te σ H fun _ H1 => D.nx σ H1
theorem ps_expr (he : PE X e te) (hs : swapsWith e none pos.line X.env = pure false := by rfl) : PS X (.Expr e pos) (tDrop te) := by
  intro pins s σ H D I h
  exact wpAny_Expr_any (thn (he pins s σ H _ I h) fun v s1 ⟨x, H1, I1, r1, q1⟩ => ⟨σ, H1, I1, q1⟩) I.quiet hs
def tRet (te : TE) : TS := fun D σ H => te σ H D.rt
theorem ps_ret (he : PE X e te) : PS X (.Return (some e) pos) (tRet te) := by
  intro pins s σ H D I h
  exact wpAny_Return_some (thn (he pins s σ H _ I h) fun v s1 ⟨x, H1, I1, r1, q1⟩ => ⟨x, σ, H1, I1, r1, q1⟩)
def tIfS (c : TT) (t u : TS) : TS := fun D σ H => c σ H fun b H1 => if b = true then t D σ H1 else u D σ H1
theorem ps_if {c : Expr} {a b : List Stmt} {tc : TT} (hc : PT X c tc) (ha : PSs X a t) (hb : PSs X b u) : PS X (.If c a b pos) (tIfS tc t u) := by
  intro pins s σ H D I h
  refine wpAny_If (thn (hc pins s σ H _ I h) fun d s1 ⟨H1, I1, q1⟩ => ?_)
  cases d with
  | true => exact ha pins s1 σ H1 D I1 q1
  | false => exact hb pins s1 σ H1 D I1 q1
def tNever : TS := fun _ _ _ => False
end
abbrev TG := V → St → Hp → (St → Hp → Prop) → Prop
abbrev TGs := List V → St → Hp → (St → Hp → Prop) → Prop
def PG (X : Cx) (target : Expr) (t : TG) : Prop :=
  ∀ (pins : List (Addr × Obj)) (s : Shared) (σ : St) (H : Hp) (v : V) (u : Value) (Q : St → Hp → Prop), Inv X pins σ H s → RelV v u → t v σ H Q →
    wpAny (model X.prog X.w) X.A (assign target X.env u) (fun _ s' => ∃ σ' H', Inv X pins σ' H' s' ∧ Q σ' H') X.xe s
def PGs (X : Cx) (ts : List Expr) (t : TGs) : Prop :=
  ∀ (pins : List (Addr × Obj)) (s : Shared) (σ : St) (H : Hp) (vs : List V) (us : List Value) (Q : St → Hp → Prop), Inv X pins σ H s → Vals vs us → t vs σ H Q →
    wpAny (model X.prog X.w) X.A (assignInOrder ((assignEach ts X.env).map (·.2)) us) (fun _ s' => ∃ σ' H', Inv X pins σ' H' s' ∧ Q σ' H') X.xe s
abbrev TSet := V → V → V → Hp → (Hp → Prop) → Prop
def PSet (X : Cx) (t : TSet) : Prop :=
  ∀ (pins : List (Addr × Obj)) (s : Shared) (σ : St) (H : Hp) (o i v : V) (ov iv u : Value) (Q : Hp → Prop), Inv X pins σ H s → RelV o ov → RelV i iv → RelV v u → t o i v H Q →
    wpAny (model X.prog X.w) X.A (setItem ov iv u) (fun _ s' => ∃ H', Inv X pins σ H' s' ∧ Q H') X.xe s
abbrev TIp := V → V → Hp → VK → Prop
def PIp (X : Cx) (op : Operator) (t : TIp) : Prop :=
  ∀ (pins : List (Addr × Obj)) (s : Shared) (σ : St) (H : Hp) (x y : V) (v u : Value) (Q : VK), Inv X pins σ H s → RelV x v → RelV y u → t x y H Q →
    wpAny (model X.prog X.w) X.A (inplaceOp op v u) (EP X pins σ Q) X.xe s
section
variable {X : Cx} {pos : Pos}
def gName (i : Nat) : TG := fun v σ H Q => Q (σ.set i (some v)) H
theorem pg_name {i : Nat} {x : Str} (hN : X.N.Nodup) (hi : X.N[i]? = some x) (hx : Loc X.env.scope x) (hf : X.fn x = true ∨ X.env.scope.names.lookup x = some .local := by first | exact .inl rfl | exact .inr rfl | assumption) : PG X (.Name x pos) (gName i) := by
  intro pins s σ H v u Q I r h
  exact wpAny_assign_Name (store_ok I hN hi hx r (fun s' I' => ⟨_, H, I', h⟩) hf)
def gNil : TGs := fun vs σ H Q => vs = [] ∧ Q σ H
def gCons (t : TG) (u : TGs) : TGs := fun vs σ H Q => ∃ v r, vs = v :: r ∧ t v σ H fun σ' H' => u r σ' H' Q
theorem pgs_nil : PGs X [] gNil := by
  intro pins s σ H vs us Q I r h
  obtain ⟨e, h⟩ := h
  subst e
  cases r
  exact assignInOrder_nil ⟨σ, H, I, h⟩
theorem pgs_cons {e : Expr} {es : List Expr} {t : TG} {u : TGs} (h1 : PG X e t) (h2 : PGs X es u)
    (hs : (assignEach (e :: es) X.env).map (·.2) = assign e X.env :: (assignEach es X.env).map (·.2) := by rfl) : PGs X (e :: es) (gCons t u) := by
  intro pins s σ H vs us Q I r h
  obtain ⟨v, vr, e1, h⟩ := h
  subst e1
  cases r with
  | cons r rr =>
    rw [hs]
    refine assignInOrder_cons (thn (h1 pins s σ H _ _ _ I r h) fun _ s1 ⟨σ1, H1, I1, q1⟩ => ?_)
    exact h2 pins s1 σ1 H1 _ _ Q I1 rr q1
def gTup (K : PySem.W.Frag) (n : Nat) (t : TGs) : TG := fun v σ H Q => ∃ a xs, v = .ref a ∧ SqT K H a xs ∧ xs.length = n ∧ t xs σ H Q
theorem pg_tup {es : List Expr} {k : Nat} {t : TGs} {n : Nat} (hc : X.calm = true) (h : PGs X es t)
    (hn : (assignEach es X.env).length = n := by rfl) (hst : (assignEach es X.env).findIdx? (·.1) = none := by rfl) : PG X (.Tuple es k pos) (gTup X.K n t) := by
  intro pins s σ H v u Q I r hw
  obtain ⟨a, xs, e1, hq, hl, hw⟩ := hw
  subst e1
  cases r
  obtain ⟨its, rv, ht, hz⟩ := I.tuple hq
  refine assign_Tuple_tuple (I.ok.hd hc) ht (by simp [hn, ← hl, rv.length]) hst fun h' hx => ?_
  have I1 : Inv X pins σ H { s with heap := h' } := I.kept (t' := s.toks) fun b o e => hx b o (Nat.ne_of_lt (Heap.lt_size e)) e
  exact h pins _ σ H xs _ Q I1 (by simpa using rv) hw
def gSub (to ti : TE) (t : TSet) : TG := fun v σ H Q => to σ H fun o H1 => ti σ H1 fun i H2 => t o i v H2 fun H3 => Q σ H3
theorem pg_sub {o i : Expr} {to ti : TE} {t : TSet} (ho : PE X o to) (hi : PE X i ti) (hs : PSet X t)
    (ha : ∀ v, assign (.Subscript o i pos) X.env v = (do
      let ov ← holding [v] (eval o X.env)
      let iv ← holding [v, ov] (eval i X.env)
      standAt pos
      holding [v, ov, iv] (setItem ov iv v)
      release [v, ov, iv] []) := by intro _; rfl) : PG X (.Subscript o i pos) (gSub to ti t) := by
  intro pins s σ H v u Q I r h
  rw [ha]
  refine wpAny_bind (wpAny_holding (thn (ho pins s σ H _ I h) fun ov s1 ⟨x, H1, I1, r1, q1⟩ => ?_))
  refine wpAny_bind (wpAny_holding (thn (hi pins s1 σ H1 _ I1 q1) fun iv s2 ⟨y, H2, I2, r2, q2⟩ => ?_))
  refine wpAny_bind (wpAny_standAt (wpAny_bind (wpAny_holding (thn (hs pins s2 σ H2 x y v ov iv u _ I2 r1 r2 r q2) fun _ s3 ⟨H3, I3, q3⟩ => ?_))))
  exact wpAny_release ⟨σ, H3, I3, q3⟩
def tAsg (te : TE) (g : TG) : TS := fun D σ H => te σ H fun x H1 => g x σ H1 D.nx
theorem ps_asg {tg e : Expr} {te : TE} {g : TG} (he : PE X e te) (hg : PG X tg g) (hs : swapsWithSole [tg] e pos.line X.env = pure false := by rfl) (hw : swappedStores [tg] e X.env = pure none := by rfl)
    (h1 : (assignEach [tg] X.env).map (·.2) = [assign tg X.env] := by rfl) : PS X (.Assign [tg] e pos) (tAsg te g) := by
  intro pins s σ H D I h
  refine wpAny_Assign_stores (thn (he pins s σ H _ I h) fun v s1 ⟨x, H1, I1, r1, q1⟩ => ?_) hs hw
  rw [h1]
  exact thn (hg pins s1 σ H1 x v _ I1 r1 q1) fun _ s2 q => q
theorem ps_set {i : Nat} {x : Str} {e : Expr} {te : TE} {pos' : Pos} (hN : X.N.Nodup) (hi : X.N[i]? = some x) (hx : Loc X.env.scope x) (he : PE X e te) (hs : swapsWith e (some (.Name x pos')) pos.line X.env = pure false := by rfl) (hf : X.fn x = true ∨ X.env.scope.names.lookup x = some .local := by first | exact .inl rfl | exact .inr rfl | assumption) :
    PS X (.Assign [.Name x pos'] e pos) (tAsg te (gName i)) := by
  intro pins s σ H D I h
  refine wpAny_Assign_Name (thn (he pins s σ H _ I h) fun v s1 ⟨y, H1, I1, r1, q1⟩ => ?_) hs
  exact store_ok I1 hN hi hx r1 (fun s2 I2 => ⟨_, H1, I2, q1⟩) hf
def tPar (i j : Nat) (ta : TA) : TS := fun D σ H => ta σ H fun vs H1 => ∃ v w, vs = [v, w] ∧ D.nx ((σ.set i (some v)).set j (some w)) H1
def tAug (i : Nat) (te : TE) (ti : TIp) : TS := fun D σ H => ∃ x, σ[i]? = some (some x) ∧ te σ H fun y H1 => ti x y H1 fun z H2 => D.nx (σ.set i (some z)) H2
theorem ps_aug {i : Nat} {x : Str} {e : Expr} {te : TE} {op : Operator} {ti : TIp} {pos' : Pos} (hN : X.N.Nodup) (hi : X.N[i]? = some x) (hx : Loc X.env.scope x) (he : PE X e te) (ho : PIp X op ti) (hf : X.fn x = true ∨ X.env.scope.names.lookup x = some .local := by first | exact .inl rfl | exact .inr rfl | assumption) :
    PS X (.AugAssign (.Name x pos') op e pos) (tAug i te ti) := by
  intro pins s σ H D I h
  obtain ⟨v, e1, h⟩ := h
  obtain ⟨m, hn, hl⟩ := I.loc
  have vis : Vis X.env.scope x := by rcases hx with k | k; exact .inl k; exact .inr (.inl k)
  obtain ⟨u, r, l⟩ := hl i x v hi e1 vis
  refine wpAny_AugAssign_Name ?_
  have go : wpAny (model X.prog X.w) X.A (eval e X.env) (fun w s₂ => wpAny (model X.prog X.w) X.A (inplaceOp op u w) (fun r s₃ => wpAny (model X.prog X.w) X.A (storeName X.env x r) (fun _ => SP X pins D .next) X.xe s₃) X.xe s₂) X.xe s := by
    refine thn (he pins s σ H _ I h) fun w s1 ⟨y, H1, I1, r1, q1⟩ => ?_
    refine thn (ho pins s1 σ H1 v y u w _ I1 r r1 q1) fun z s2 ⟨zv, H2, I2, r2, q2⟩ => ?_
    exact store_ok I2 hN hi hx r2 (fun s3 I3 => ⟨_, H2, I3, q2⟩) hf
  rcases l with ⟨hk, hm⟩ | ⟨hk, c, hc, hcell⟩
  · exact wpAny_loadName_local I.ok.kind hk hn hm go
  · rcases hk with hk | hk
    · exact wpAny_loadName_cell I.ok.kind hk hc hcell go
    · rcases hx with k | k
      · have : X.env.scope.names.lookup x = some .free := hk
        rw [k] at this; cases this
      · have : X.env.scope.names.lookup x = some .free := hk
        rw [k] at this; cases this
def ipI (f : Int → Int → Int) : TIp := fun x y H Q => ∃ i j, x = .int i ∧ y = .int j ∧ Q (.int (f i j)) H
theorem ip_add : PIp X .Add (ipI fun i j => i + j) := by
  intro pins s σ H x y v u Q I r1 r2 h
  obtain ⟨i, j, e1, e2, q⟩ := h
  subst e1; subst e2
  obtain ⟨t, rfl⟩ := r1
  obtain ⟨t', rfl⟩ := r2
  exact iadd_int ⟨.int _, H, I.tok _, ⟨_, rfl⟩, q⟩
end
section
variable {X : Cx} {pos : Pos}
def tWhile (c : TT) (tb : TS) : TS := fun D σ H => ∃ W : Nat → St → Hp → Prop, (∃ m, W m σ H) ∧ ∀ m σ H, W m σ H →
  c σ H fun b H1 => if b = true then ∃ N : St → Hp → Prop, (∀ σ' H', N σ' H' → ∃ m', m' < m ∧ W m' σ' H') ∧ tb { D with nx := N, ct := N, bk := D.nx } σ H1 else D.nx σ H1
theorem ps_while {c : Expr} {body : List Stmt} {tc : TT} {tb : TS} (hp : PassesOwn (model X.prog X.w) X.A X.env X.xe) (hc : PT X c tc) (hb : PSs X body tb) : PS X (.While c body [] pos) (tWhile tc tb) := by
  intro pins s σ H D I h
  obtain ⟨W, ⟨m0, w0⟩, turn⟩ := h
  refine wpAny_While (codeAny_whileLoop (fun n s' => ∃ σ' H', Inv X pins σ' H' s' ∧ W n σ' H') ?_ m0 ⟨σ, H, I, w0⟩)
  rintro n s1 ⟨σ1, H1, I1, w1⟩
  refine wpAny_passesOwn hp (thn (hc pins s1 σ1 H1 _ I1 (turn n σ1 H1 w1)) fun b s2 ⟨H2, I2, q2⟩ => ?_)
  cases b with
  | true =>
    obtain ⟨N, hN, q2⟩ := q2
    rw [if_pos rfl]
    refine wpAny_passesOwn hp (thn (hb pins s2 σ1 H2 _ I2 q2) fun f s3 q3 => ?_)
    cases f with
    | next =>
      obtain ⟨σ3, H3, I3, n3⟩ := q3
      obtain ⟨m', hm, w3⟩ := hN σ3 H3 n3
      exact ⟨m', hm, σ3, H3, I3, w3⟩
    | cont =>
      obtain ⟨σ3, H3, I3, n3⟩ := q3
      obtain ⟨m', hm, w3⟩ := hN σ3 H3 n3
      exact ⟨m', hm, σ3, H3, I3, w3⟩
    | brk => exact q3
    | ret v => exact q3
  | false =>
    rw [if_neg Bool.false_ne_true]
    exact wpAny_execs_nil ⟨σ1, H2, I2, q2⟩
end
structure It where
  go : Nat → Hp → Prop
  yld : Nat → Hp → V → Hp → Prop
  stop : Nat → Hp → Prop
def FpOk (X : Cx) (pins : List (Addr × Obj)) (H : Hp) (b : Addr) : Prop :=
  H b = none ∧ b ≠ X.env.locals ∧ b ∉ X.fs ∧ (b ∈ X.ex ∨ X.s_0.heap.objs.size ≤ b) ∧ (∀ x c, X.env.cells.lookup x = some c → c ≠ b) ∧ ∀ p ∈ X.pn ++ pins, p.1 ≠ b
theorem Inv.fpOk {X : Cx} {pins : List (Addr × Obj)} {σ : St} {H H' : Hp} {s : Shared} {b : Addr} (I : Inv X pins σ H s) (hb : s.heap.objs.size ≤ b) (hn : H' b = none) : FpOk X pins H' b := by
  refine ⟨hn, Nat.ne_of_gt (Nat.lt_of_lt_of_le I.lt hb), I.nofs hb, .inr (Nat.le_trans I.sz hb), fun x c e z => ?_, fun p hp z => ?_⟩
  · obtain ⟨v, q⟩ := I.cell x c e
    exact absurd (Nat.lt_of_lt_of_le q.lt (by rw [z]; exact hb)) (Nat.lt_irrefl _)
  · exact absurd (Nat.lt_of_lt_of_le (Heap.lt_size (I.pin p hp).1) (by rw [z]; exact hb)) (Nat.lt_irrefl _)
structure Turn (P : Program) (w : World) (K : PySem.W.Frag) (tg : Expr) (J : It) (fp : List Addr) (it : Addr) (tn : Nat → Heap → Prop) : Prop where
  mem : it ∈ fp
  obj : ∀ i h, tn i h → ∀ b ∈ fp, ∃ o, h.get? b = some o ∧ ∀ v, o.data ≠ .cell v
  keep : ∀ i h h', tn i h → (∀ b ∈ fp, ∀ o, h.get? b = some o → h'.get? b = some o) → tn i h'
  item : ∀ (X : Cx), X.prog = P → X.w = w → X.K = K → X.calm = true → ∀ (i : Nat) (pins : List (Addr × Obj)) (s : Shared) (σ : St) (H : Hp) (E : Value → Shared → Prop), Inv X pins σ H s → (∀ b ∈ fp, FpOk X pins H b) → tn i s.heap → J.go i H →
    wpAny (model P w) X.A (pyNext (.ref it)) (fun r s1 => ∃ u, r = some u ∧
      wpAny (model P w) X.A (letOwnedTupleGo tg (.ref it) u) (fun _ s2 => ∃ x H', Inv X pins σ H' s2 ∧ RelV x u ∧ J.yld i H x H' ∧ tn (i + 1) s2.heap ∧ ∀ b ∈ fp, H' b = none) E s1) E s
  done : ∀ (X : Cx), X.prog = P → X.w = w → X.K = K → X.calm = true → ∀ (i : Nat) (pins : List (Addr × Obj)) (s : Shared) (σ : St) (H : Hp) (E : Value → Shared → Prop), Inv X pins σ H s → (∀ b ∈ fp, FpOk X pins H b) → tn i s.heap → J.stop i H →
    wpAny (model P w) X.A (pyNext (.ref it)) (fun r s1 => r = none ∧ Inv X pins σ H s1) E s
  self : ∀ (A : Around) (i : Nat) (s : Shared) (Q : Value → Shared → Prop) (E : Value → Shared → Prop), tn i s.heap → Q (.ref it) s → wpAny (model P w) A (pyIter (.ref it)) Q E s
abbrev TI := St → Hp → (It → Hp → Prop) → Prop
def PIE (X : Cx) (pins : List (Addr × Obj)) (σ : St) (tg : Expr) (R : It → Hp → Prop) (itv : Value) (s2 : Shared) : Prop :=
  ∃ (it : Addr) (fp : List Addr) (tn : Nat → Heap → Prop) (J : It) (H' : Hp), itv = .ref it ∧ Inv X pins σ H' s2 ∧ Turn X.prog X.w X.K tg J fp it tn ∧ tn 0 s2.heap ∧ (∀ b ∈ fp, FpOk X pins H' b) ∧ R J H'
def PI (X : Cx) (tg iter : Expr) (wi : TI) : Prop :=
  ∀ (pins : List (Addr × Obj)) (s : Shared) (σ : St) (H : Hp) (R : It → Hp → Prop), Inv X pins σ H s → wi σ H R →
    wpAny (model X.prog X.w) X.A (eval iter X.env) (fun v s1 => wpAny (model X.prog X.w) X.A (pyIter v) (PIE X pins σ tg R) X.xe s1) X.xe s
theorem go_of {M : Model} {A : Around} {E : Value → Shared → Prop} {s : Shared} {tg : Expr} {it : Addr} {u : Value} {o : Obj} {n : String} {vs : Array Value} {Q : Unit → Shared → Prop} (ho : s.heap.get? it = some o) (hc : o.cls = .type n) (hd : o.data = .fields vs)
    (hn : ["enumerate", "zip", "dict_itemiterator", "dict_reverseitemiterator", "odict_iterator", "itertools.zip_longest", "itertools.pairwise"].contains n = false) (hQ : Q () s) : wpAny M A (letOwnedTupleGo tg (.ref it) u) Q E s := by
  unfold letOwnedTupleGo
  cases tg <;> first
    | exact wpAny_pure hQ
    | (cases u <;> first
        | exact wpAny_pure hQ
        | (refine wpAny_bind (wpAny_load ho ?_)
           rw [hc, hd]
           show wpAny M A (if (["enumerate", "zip", "dict_itemiterator", "dict_reverseitemiterator", "odict_iterator", "itertools.zip_longest", "itertools.pairwise"].contains n && vs[0]? == some (rawInt _)) = true then _ else _) Q E s
           rw [if_neg (by intro h; rw [hn, Bool.false_and] at h; cases h)]
           exact wpAny_pure hQ))
def Itl (K : PySem.W.Frag) (a : Addr) : It :=
  ⟨fun i H => ∃ xs x, SqL K H a xs ∧ xs[i]? = some x, fun i H x H' => H' = H ∧ ∀ xs, SqL K H a xs → xs[i]? = some x, fun i H => ∃ xs, SqL K H a xs ∧ xs.length ≤ i⟩
def Itt (K : PySem.W.Frag) (a : Addr) : It :=
  ⟨fun i H => ∃ xs x, SqT K H a xs ∧ xs[i]? = some x, fun i H x H' => H' = H ∧ ∀ xs, SqT K H a xs → xs[i]? = some x, fun i H => ∃ xs, SqT K H a xs ∧ xs.length ≤ i⟩
def Itr (lo : Int) (n : Nat) : It := ⟨fun i _ => i < n, fun i H x H' => H' = H ∧ x = .int (lo + i), fun i _ => n ≤ i⟩
theorem turn_list {P : Program} {w : World} {K : PySem.W.Frag} {tg : Expr} (a it : Addr) : Turn P w K tg (Itl K a) [it] it (fun i h => h.IsListIter it a i) where
  mem := by simp
  obj := fun i h st b hb => by
    have e : b = it := by simpa using hb
    subst e
    obtain ⟨o, e, c, d⟩ := st
    exact ⟨o, e, fun v z => by rw [d] at z; cases z⟩
  keep := fun i h h' st k => st.at fun o e => k it (by simp) o e
  item := by
    intro X hP hw hK hc i pins s σ H E I hf st hg
    subst hP hw hK
    obtain ⟨xs, x, hq, hx⟩ := hg
    obtain ⟨its, rv, p, hz⟩ := I.list hq
    obtain ⟨u, hu, ru⟩ := rv.get hx
    obtain ⟨f0, f1, f2, f3, f4, f5⟩ := hf it (by simp)
    refine wpAny_pyNext_list_item st p.isList (x := u) (by simpa using hu) fun h' st' sb => ?_
    have I1 : Inv X pins σ H { s with heap := h' } := I.turned (t' := s.toks) (fun b o hb e => (sb.2 b hb).trans e) f0 f1 f3 f4 f5
    obtain ⟨o, e, c, d⟩ := id st'
    exact ⟨u, rfl, go_of (s := { s with heap := h' }) e c d (by decide) ⟨x, H, I1, ru, ⟨rfl, fun ys hy => by rw [I.list_inj hy hq]; exact hx⟩, st', fun b hb => (hf b hb).1⟩⟩
  done := by
    intro X hP hw hK hc i pins s σ H E I hf st hg
    subst hP hw hK
    obtain ⟨xs, hq, hx⟩ := hg
    obtain ⟨its, rv, p, hz⟩ := I.list hq
    obtain ⟨f0, f1, f2, f3, f4, f5⟩ := hf it (by simp)
    have hl := rv.length
    exact wpAny_pyNext_list_end (I.ok.hd hc) st p.isList (by simp; omega) fun h' eb => ⟨rfl, I.turned (t' := s.toks) (fun b o hb e => eb b o hb e) f0 f1 f3 f4 f5⟩
  self := fun _ _ _ _ _ st h => wpAny_pyIter_listiter st h
theorem turn_tuple {P : Program} {w : World} {K : PySem.W.Frag} {tg : Expr} (a it : Addr) : Turn P w K tg (Itt K a) [it] it (fun i h => h.IsTupleIter it a i) where
  mem := by simp
  obj := fun i h st b hb => by
    have e : b = it := by simpa using hb
    subst e
    obtain ⟨o, e, c, d⟩ := st
    exact ⟨o, e, fun v z => by rw [d] at z; cases z⟩
  keep := fun i h h' st k => st.at fun o e => k it (by simp) o e
  item := by
    intro X hP hw hK hc i pins s σ H E I hf st hg
    subst hP hw hK
    obtain ⟨xs, x, hq, hx⟩ := hg
    obtain ⟨its, rv, p, hz⟩ := I.tuple hq
    obtain ⟨u, hu, ru⟩ := rv.get hx
    obtain ⟨f0, f1, f2, f3, f4, f5⟩ := hf it (by simp)
    refine wpAny_pyNext_tuple_item st (show s.heap.IsTuple a its.toArray from p) (x := u) (by simpa using hu) fun h' st' sb => ?_
    have I1 : Inv X pins σ H { s with heap := h' } := I.turned (t' := s.toks) (fun b o hb e => (sb.2 b hb).trans e) f0 f1 f3 f4 f5
    obtain ⟨o, e, c, d⟩ := id st'
    exact ⟨u, rfl, go_of (s := { s with heap := h' }) e c d (by decide) ⟨x, H, I1, ru, ⟨rfl, fun ys hy => by rw [I.tuple_inj hy hq]; exact hx⟩, st', fun b hb => (hf b hb).1⟩⟩
  done := by
    intro X hP hw hK hc i pins s σ H E I hf st hg
    subst hP hw hK
    obtain ⟨xs, hq, hx⟩ := hg
    obtain ⟨its, rv, p, hz⟩ := I.tuple hq
    obtain ⟨f0, f1, f2, f3, f4, f5⟩ := hf it (by simp)
    have hl := rv.length
    exact wpAny_pyNext_tuple_end (I.ok.hd hc) st (show s.heap.IsTuple a its.toArray from p) (by simp; omega) fun h' eb => ⟨rfl, I.turned (t' := s.toks) (fun b o hb e => eb b o hb e) f0 f1 f3 f4 f5⟩
  self := fun _ _ _ _ _ st h => wpAny_pyIter_tupleiter st h
theorem turn_range {P : Program} {w : World} {K : PySem.W.Frag} {tg : Expr} (it : Addr) (lo : Int) (n : Nat) : Turn P w K tg (Itr lo n) [it] it (fun i h => IsRangeIter h it (lo + (i : Nat) * 1) ((n : Int) - (i : Nat)) 1) where
  mem := by simp
  obj := fun i h st b hb => by
    have e : b = it := by simpa using hb
    subst e
    exact ⟨_, st, fun v z => by
      have z' : Data.fields _ = Data.cell v := z
      cases z'⟩
  keep := fun i h h' st k => k it (by simp) _ st
  item := by
    intro X hP hw hK hc i pins s σ H E I hf st hg
    subst hP hw hK
    obtain ⟨f0, f1, f2, f3, f4, f5⟩ := hf it (by simp)
    have W := Walks.range (prog := X.prog) (w := X.w) (I.ok.hd hc) it lo 1 n
    refine W.item i s _ _ hg st fun v h' tk hv st' kk => ?_
    obtain ⟨t, rfl⟩ := hv
    have I1 : Inv X pins σ H { s with heap := h', toks := tk } := I.turned (fun b o hb e => kk b o (by simpa using hb) e) f0 f1 f3 f4 f5
    refine ⟨_, rfl, go_of (s := { s with heap := h', toks := tk }) (n := "range_iterator") st' rfl rfl (by decide) ⟨.int (lo + i), H, I1, ⟨t, ?_⟩, ⟨rfl, rfl⟩, st', fun b hb => (hf b hb).1⟩⟩
    rw [Int.mul_one]
  done := by
    intro X hP hw hK hc i pins s σ H E I hf st hg
    subst hP hw hK
    obtain ⟨f0, f1, f2, f3, f4, f5⟩ := hf it (by simp)
    exact wpAny_pyNext_range_end (I.ok.hd hc) st (by have : n ≤ i := hg; omega) fun h' eb => ⟨rfl, I.turned (t' := s.toks) (fun b o hb e => eb b o hb e) f0 f1 f3 f4 f5⟩
  self := fun _ _ _ _ _ st h => wpAny_pyIter_rangeiter st h
end L2
namespace L2
open PySem PySem.Spec PyProof.Rows
section
variable {X : Cx} {tg : Expr}
def iList (K : PySem.W.Frag) (tl : TE) : TI := fun σ H R => tl σ H fun x H1 => ∃ a, x = .ref a ∧ (∃ xs, SqL K H1 a xs) ∧ R (Itl K a) H1
def iTup (K : PySem.W.Frag) (tl : TE) : TI := fun σ H R => tl σ H fun x H1 => ∃ a, x = .ref a ∧ (∃ xs, SqT K H1 a xs) ∧ R (Itt K a) H1
theorem pi_list {l : Expr} {tl : TE} (hl : PE X l tl) : PI X tg l (iList X.K tl) := by
  intro pins s σ H R I h
  refine thn (hl pins s σ H _ I h) fun v s1 ⟨x, H1, I1, r1, q1⟩ => ?_
  obtain ⟨a, e, ⟨xs, hq⟩, q⟩ := q1
  subst e
  cases r1
  obtain ⟨its, rv, p, hz⟩ := I1.list hq
  refine wpAny_pyIter_list p.isList ?_
  refine ⟨s1.heap.objs.size, [s1.heap.objs.size], _, _, H1, rfl, I1.kept (t' := s1.toks) fun b o e => Heap.get?_push_of_some _ e, turn_list a _, ⟨_, Heap.get?_push_size _ rfl, rfl, rfl⟩, fun b hb => ?_, q⟩
  have e : b = s1.heap.objs.size := by simpa using hb
  subst e
  exact I1.fpOk (Nat.le_refl _) (I1.hok.fresh (Nat.le_refl _))
theorem pi_tup {l : Expr} {tl : TE} (hl : PE X l tl) : PI X tg l (iTup X.K tl) := by
  intro pins s σ H R I h
  refine thn (hl pins s σ H _ I h) fun v s1 ⟨x, H1, I1, r1, q1⟩ => ?_
  obtain ⟨a, e, ⟨xs, hq⟩, q⟩ := q1
  subst e
  cases r1
  obtain ⟨its, rv, p, hz⟩ := I1.tuple hq
  refine wpAny_pyIter_tuple (show s1.heap.IsTuple a its.toArray from p) ?_
  refine ⟨s1.heap.objs.size, [s1.heap.objs.size], _, _, H1, rfl, I1.kept (t' := s1.toks) fun b o e => Heap.get?_push_of_some _ e, turn_tuple a _, ⟨_, Heap.get?_push_size _ rfl, rfl, rfl⟩, fun b hb => ?_, q⟩
  have e : b = s1.heap.objs.size := by simpa using hb
  subst e
  exact I1.fpOk (Nat.le_refl _) (I1.hok.fresh (Nat.le_refl _))
theorem range_it {pins : List (Addr × Obj)} {σ : St} {H : Hp} {s : Shared} {R : It → Hp → Prop} {E : Value → Shared → Prop} {lo hi : Int} {t u v : Tok} {tk : Nat} (I : Inv X pins σ H s) (h1 : -(2 ^ 62) ≤ lo) (h2 : lo < 2 ^ 62) (h3 : -(2 ^ 62) ≤ hi) (h4 : hi < 2 ^ 62)
    (q : R (Itr lo (hi - lo).toNat) H) : wpAny (model X.prog X.w) X.A (pyIter (.ref s.heap.objs.size)) (PIE X pins σ tg R) E { s with heap := s.heap.push { cls := .type "range", data := .fields #[.int lo t, .int hi u, .int 1 v] }, toks := tk } := by
  refine wpAny_pyIter_range (IsRange.new ..) (small_one h1 h2 h3 h4) ?_
  have I1 : Inv X pins σ H { s with heap := s.heap.push { cls := .type "range", data := .fields #[.int lo t, .int hi u, .int 1 v] }, toks := tk } := I.kept fun b o e => Heap.get?_push_of_some _ e
  refine ⟨(s.heap.push { cls := .type "range", data := .fields #[.int lo t, .int hi u, .int 1 v] }).objs.size, [(s.heap.push { cls := .type "range", data := .fields #[.int lo t, .int hi u, .int 1 v] }).objs.size], _, _, H, rfl,
    I1.kept (t' := tk) fun b o e => Heap.get?_push_of_some _ e, turn_range _ lo (hi - lo).toNat, ?_, fun b hb => ?_, q⟩
  · have e1 : lo + ((0 : Nat) : Int) * 1 = lo := by simp
    have e2 : (((hi - lo).toNat : Nat) : Int) - ((0 : Nat) : Int) = Builtin.Range.rangeSize lo hi 1 := by rw [rangeSize_one]; split <;> omega
    show IsRangeIter _ _ (lo + ((0 : Nat) : Int) * 1) ((((hi - lo).toNat : Nat) : Int) - ((0 : Nat) : Int)) 1
    rw [e1, e2]
    exact Heap.get?_push_size _ rfl
  · have e : b = (s.heap.push { cls := .type "range", data := .fields #[.int lo t, .int hi u, .int 1 v] }).objs.size := by simpa using hb
    subst e
    exact I1.fpOk (Nat.le_refl _) (I1.hok.fresh (Nat.le_refl _))
def iRng1 (ta : TA) : TI := fun σ H R => ta σ H fun vs H1 => ∃ j : Int, vs = [.int j] ∧ -(2 ^ 62) ≤ j ∧ j < 2 ^ 62 ∧ R (Itr 0 j.toNat) H1
theorem pi_range1 {a : Expr} {ta : TA} {p pos : Pos} (hg : Gl X "range") (hm : X.mg "range" = none) (ha : PA X [a] ta) (hs : starEach [a] X.env = [(false, eval a X.env)] := by rfl) : PI X tg (.Call (.Name "range" p) [a] [] pos) (iRng1 ta) := by
  intro pins s σ H R I h
  refine Call_ (ld_blt I hg hm boot_range (PyProof.Rows.callWith_type1 (thn (ha pos pins s σ H _ I h) fun us s1 ⟨vs, H1, I1, r1, q1⟩ => ?_) hs rfl))
  obtain ⟨j, e, q1, q2, q⟩ := q1
  subst e
  cases r1 with
  | cons r rr =>
    cases rr
    obtain ⟨t, rfl⟩ := r
    exact call_range_1 (range_it I1 (by omega) (by omega) q1 q2 (by simpa using q))
def tFor (wi : TI) (g : TG) (tb : TS) : TS := fun D σ H => wi σ H fun J H1 => ∃ W : Nat → Nat → St → Hp → Prop, (∃ m, W 0 m σ H1) ∧ ∀ i m σ H, W i m σ H →
  (J.stop i H ∧ D.nx σ H) ∨ (J.go i H ∧ ∃ N : St → Hp → Prop, (∀ σ' H', N σ' H' → ∃ m', m' < m ∧ W (i + 1) m' σ' H') ∧ ∀ x H', J.yld i H x H' → g x σ H' fun σ2 H2 => tb { D with nx := N, ct := N, bk := D.nx } σ2 H2)
def pinsAt (fp : List Addr) (h : Heap) : List (Addr × Obj) := fp.filterMap fun b => (h.get? b).map fun o => (b, o)
theorem mem_pinsAt {fp : List Addr} {h : Heap} {b : Addr} {o : Obj} (hb : b ∈ fp) (e : h.get? b = some o) : (b, o) ∈ pinsAt fp h := List.mem_filterMap.mpr ⟨b, hb, by rw [e]; rfl⟩
theorem of_pinsAt {fp : List Addr} {h : Heap} {p : Addr × Obj} (hp : p ∈ pinsAt fp h) : p.1 ∈ fp ∧ h.get? p.1 = some p.2 := by
  obtain ⟨b, hb, e⟩ := List.mem_filterMap.mp hp
  cases q : h.get? b with
  | none => rw [q] at e; cases e
  | some o =>
    rw [q] at e
    have e' : (b, o) = p := Option.some.inj e
    subst e'
    exact ⟨hb, q⟩
theorem Inv.pinned {pins : List (Addr × Obj)} {σ : St} {H : Hp} {s : Shared} {fp : List Addr} (I : Inv X pins σ H s) (hf : ∀ b ∈ fp, FpOk X pins H b) (ho : ∀ b ∈ fp, ∃ o, s.heap.get? b = some o ∧ ∀ v, o.data ≠ .cell v) : Inv X (pins ++ pinsAt fp s.heap) σ H s :=
  I.pins_of fun p hp => (List.mem_append.mp hp).elim (fun z => I.pin p (List.mem_append_right _ z)) fun z => by
    obtain ⟨hb, e⟩ := of_pinsAt z
    obtain ⟨f0, f1, f2, _⟩ := hf p.1 hb
    obtain ⟨o, e', d⟩ := ho p.1 hb
    rw [e] at e'; cases e'
    exact ⟨e, f0, f1, f2, d⟩
theorem Inv.unpinned {pins pl : List (Addr × Obj)} {σ : St} {H : Hp} {s : Shared} (I : Inv X (pins ++ pl) σ H s) : Inv X pins σ H s := I.pins_of fun p hp => I.pin p (List.mem_append_right _ (List.mem_append_left _ hp))
theorem ps_for {iter : Expr} {body : List Stmt} {wi : TI} {g : TG} {tb : TS} {pos : Pos} (hp : PassesOwn (model X.prog X.w) X.A X.env X.xe) (hc : X.calm = true) (hi : PI X tg iter wi) (hg : PG X tg g) (hb : PSs X body tb)
    (hs : ∀ x, foldedSetIterable iter X.env x = pure x := by intro _; rfl) : PS X (.For tg iter body [] pos) (tFor wi g tb) := by
  intro pins s σ H D I h
  refine wpAny_For (thn (hi pins s σ H _ I h) fun v s1 h1 => thn h1 fun itv s2 h2 => ?_) hs
  obtain ⟨it, fp, tn, J, H2, e, I2, T, st2, f2, W, ⟨m0, w0⟩, turn⟩ := h2
  subst e
  -- what stays true of the iterator's objects through the loop
  have stat : ∀ {H' : Hp}, (∀ b ∈ fp, H' b = none) → ∀ b ∈ fp, FpOk X pins H' b := fun hn b hb => ⟨hn b hb, (f2 b hb).2⟩
  refine codeAny_forLoop_any (fun n s' => ∃ i σ' H', Inv X pins σ' H' s' ∧ tn i s'.heap ∧ (∀ b ∈ fp, H' b = none) ∧ W i n σ' H') ?_ m0 ⟨0, σ, H2, I2, st2, fun b hb => (f2 b hb).1, w0⟩
  rintro n s3 ⟨i, σ3, H3, I3, st3, fr3, w3⟩
  rcases turn i n σ3 H3 w3 with ⟨stop, qn⟩ | ⟨go, N, hN, step⟩
  · refine wpAny_passesOwn hp (thn (T.done X rfl rfl rfl hc i pins s3 σ3 H3 X.xe I3 (stat fr3) st3 stop) fun r s4 ⟨hr, I4⟩ => ?_)
    subst hr
    exact wpAny_execs_nil ⟨σ3, H3, I4, qn⟩
  · refine wpAny_passesOwn hp (thn (T.item X rfl rfl rfl hc i pins s3 σ3 H3 X.xe I3 (stat fr3) st3 go) fun r s4 ⟨u, hr, h4⟩ => ?_)
    subst hr
    refine wpAny_passesOwn hp (thn h4 fun _ s5 ⟨x, H5, I5, r5, y5, st5, fr5⟩ => ?_)
    have I5' := I5.pinned (stat fr5) (T.obj _ _ st5)
    refine wpAny_passesOwn hp (thn (hg _ s5 σ3 H5 x u _ I5' r5 (step x H5 y5)) fun _ s6 ⟨σ6, H6, I6, q6⟩ => ?_)
    refine wpAny_passesOwn hp (thn (hb _ s6 σ6 H6 _ I6 q6) fun f s7 q7 => ?_)
    have again : ∀ {σ7 : St} {H7 : Hp}, Inv X (pins ++ pinsAt fp s5.heap) σ7 H7 s7 → N σ7 H7 → ∃ m, m < n ∧ ∃ i σ' H', Inv X pins σ' H' s7 ∧ tn i s7.heap ∧ (∀ b ∈ fp, H' b = none) ∧ W i m σ' H' := fun {σ7 H7} I7 n7 => by
      obtain ⟨m', hm, w7⟩ := hN σ7 H7 n7
      refine ⟨m', hm, i + 1, σ7, H7, I7.unpinned, T.keep _ _ _ st5 fun b hb o e => (I7.pin (b, o) (List.mem_append_right _ (List.mem_append_right _ (mem_pinsAt hb e)))).1, fun b hb => ?_, w7⟩
      obtain ⟨o, e, d⟩ := T.obj _ _ st5 b hb
      exact (I7.pin (b, o) (List.mem_append_right _ (List.mem_append_right _ (mem_pinsAt hb e)))).2.1
    cases f with
    | next => obtain ⟨σ7, H7, I7, n7⟩ := q7; exact again I7 n7
    | cont => obtain ⟨σ7, H7, I7, n7⟩ := q7; exact again I7 n7
    | brk => obtain ⟨σ7, H7, I7, q7⟩ := q7; exact ⟨σ7, H7, I7.unpinned, q7⟩
    | ret v => obtain ⟨x7, σ7, H7, I7, r7, q7⟩ := q7; exact ⟨x7, σ7, H7, I7.unpinned, r7, q7⟩
end
theorem for_list {K : PySem.W.Frag} {a : Addr} {xs : List V} {g : TG} {tb : TS} {D : Ends} {σ : St} {H : Hp} (Pv : Nat → St → Hp → Prop) (h0 : Pv 0 σ H) (hl : ∀ i σ H, i ≤ xs.length → Pv i σ H → SqL K H a xs)
    (hs : ∀ i x σ H, xs[i]? = some x → Pv i σ H → g x σ H fun σ2 H2 => tb { D with nx := Pv (i + 1), ct := Pv (i + 1), bk := D.nx } σ2 H2) (hd : ∀ σ H, Pv xs.length σ H → D.nx σ H) :
    ∃ W : Nat → Nat → St → Hp → Prop, (∃ m, W 0 m σ H) ∧ ∀ i m σ H, W i m σ H →
      ((Itl K a).stop i H ∧ D.nx σ H) ∨ ((Itl K a).go i H ∧ ∃ N : St → Hp → Prop, (∀ σ' H', N σ' H' → ∃ m', m' < m ∧ W (i + 1) m' σ' H') ∧ ∀ x H', (Itl K a).yld i H x H' → g x σ H' fun σ2 H2 => tb { D with nx := N, ct := N, bk := D.nx } σ2 H2) := by
  refine ⟨fun i m σ H => m = xs.length - i ∧ i ≤ xs.length ∧ Pv i σ H, ⟨xs.length, by simp, Nat.zero_le _, h0⟩, ?_⟩
  rintro i m σ H ⟨rfl, hi, p⟩
  have q := hl i σ H hi p
  by_cases hlt : i < xs.length
  · refine .inr ⟨⟨xs, xs[i], q, by simp [hlt]⟩, Pv (i + 1), fun σ' H' p' => ⟨xs.length - (i + 1), by omega, rfl, hlt, p'⟩, fun x H' y => ?_⟩
    obtain ⟨e, y⟩ := y
    subst e
    exact hs i x σ _ (y xs q) p
  · have e : i = xs.length := by omega
    subst e
    exact .inl ⟨⟨xs, q, Nat.le_refl _⟩, hd σ H p⟩
theorem for_tup {K : PySem.W.Frag} {a : Addr} {xs : List V} {g : TG} {tb : TS} {D : Ends} {σ : St} {H : Hp} (Pv : Nat → St → Hp → Prop) (h0 : Pv 0 σ H) (hl : ∀ i σ H, i ≤ xs.length → Pv i σ H → SqT K H a xs)
    (hs : ∀ i x σ H, xs[i]? = some x → Pv i σ H → g x σ H fun σ2 H2 => tb { D with nx := Pv (i + 1), ct := Pv (i + 1), bk := D.nx } σ2 H2) (hd : ∀ σ H, Pv xs.length σ H → D.nx σ H) :
    ∃ W : Nat → Nat → St → Hp → Prop, (∃ m, W 0 m σ H) ∧ ∀ i m σ H, W i m σ H →
      ((Itt K a).stop i H ∧ D.nx σ H) ∨ ((Itt K a).go i H ∧ ∃ N : St → Hp → Prop, (∀ σ' H', N σ' H' → ∃ m', m' < m ∧ W (i + 1) m' σ' H') ∧ ∀ x H', (Itt K a).yld i H x H' → g x σ H' fun σ2 H2 => tb { D with nx := N, ct := N, bk := D.nx } σ2 H2) := by
  refine ⟨fun i m σ H => m = xs.length - i ∧ i ≤ xs.length ∧ Pv i σ H, ⟨xs.length, by simp, Nat.zero_le _, h0⟩, ?_⟩
  rintro i m σ H ⟨rfl, hi, p⟩
  have q := hl i σ H hi p
  by_cases hlt : i < xs.length
  · refine .inr ⟨⟨xs, xs[i], q, by simp [hlt]⟩, Pv (i + 1), fun σ' H' p' => ⟨xs.length - (i + 1), by omega, rfl, hlt, p'⟩, fun x H' y => ?_⟩
    obtain ⟨e, y⟩ := y
    subst e
    exact hs i x σ _ (y xs q) p
  · have e : i = xs.length := by omega
    subst e
    exact .inl ⟨⟨xs, q, Nat.le_refl _⟩, hd σ H p⟩
theorem while_by {c : TT} {tb : TS} {D : Ends} {σ : St} {H : Hp} (Pv : St → Hp → Prop) (μ : St → Hp → Nat) (h0 : Pv σ H)
    (hs : ∀ σ H, Pv σ H → c σ H fun b H1 => if b = true then tb { D with nx := fun σ' H' => Pv σ' H' ∧ μ σ' H' < μ σ H, ct := fun σ' H' => Pv σ' H' ∧ μ σ' H' < μ σ H, bk := D.nx } σ H1 else D.nx σ H1)
    (mono : ∀ σ H Q Q', (∀ b H1, Q b H1 → Q' b H1) → c σ H Q → c σ H Q') : tWhile c tb D σ H := by
  refine ⟨fun m σ H => m = μ σ H ∧ Pv σ H, ⟨_, rfl, h0⟩, ?_⟩
  rintro m σ H ⟨rfl, p⟩
  refine mono σ H _ _ (fun b H1 q => ?_) (hs σ H p)
  cases b with
  | true => exact ⟨_, fun σ' H' ⟨p', l⟩ => ⟨_, l, rfl, p'⟩, q⟩
  | false => exact q
end L2
namespace L2
open PySem PySem.Spec PyProof.Rows
abbrev R2 := V → V → Hp → VK → Prop
def OpR (X : Cx) (f : Value → Value → Sem Value) (r : R2) : Prop :=
  ∀ (pins : List (Addr × Obj)) (s : Shared) (σ : St) (H : Hp) (x y : V) (v u : Value) (Q : VK), Inv X pins σ H s → RelV x v → RelV y u → r x y H Q →
    wpAny (model X.prog X.w) X.A (f v u) (EP X pins σ Q) X.xe s
def UnR (X : Cx) (f : Value → Sem Value) (r : V → Hp → VK → Prop) : Prop :=
  ∀ (pins : List (Addr × Obj)) (s : Shared) (σ : St) (H : Hp) (x : V) (v : Value) (Q : VK), Inv X pins σ H s → RelV x v → r x H Q →
    wpAny (model X.prog X.w) X.A (f v) (EP X pins σ Q) X.xe s
def CallR (X : Cx) (f : Value) (r : List V → Hp → VK → Prop) : Prop :=
  ∀ (pins : List (Addr × Obj)) (s : Shared) (σ : St) (H : Hp) (xs : List V) (us : List Value) (Q : VK), Inv X pins σ H s → Vals xs us → r xs H Q →
    wpAny (model X.prog X.w) X.A (call f us) (EP X pins σ Q) X.xe s
def tOp (r : R2) (ta tb : TE) : TE := fun σ H Q => ta σ H fun x H1 => tb σ H1 fun y H2 => r x y H2 Q
def tUn (r : V → Hp → VK → Prop) (ta : TE) : TE := fun σ H Q => ta σ H fun x H1 => r x H1 Q
def rI (C : Int → Int → Prop) (g : Int → Int → V) : R2 := fun x y H Q => ∃ i j, x = .int i ∧ y = .int j ∧ C i j ∧ Q (g i j) H
def rI0 (g : Int → Int → V) : R2 := fun x y H Q => ∃ i j, x = .int i ∧ y = .int j ∧ Q (g i j) H
def rU (g : Int → V) : V → Hp → VK → Prop := fun x H Q => ∃ i, x = .int i ∧ Q (g i) H
section
variable {X : Cx} {a b c : Expr} {ta tb tc : TE} {pos : Pos}
theorem binT (ha : PE X a ta) (hb : PE X b tb) {pins : List (Addr × Obj)} {s : Shared} {σ : St} {H : Hp} {R : V → V → Hp → Prop} (I : Inv X pins σ H s)
    (h : ta σ H fun x H1 => tb σ H1 fun y H2 => R x y H2) {Q : Value → Shared → Prop} {f : Value → Value → Sem Value}
    (hf : ∀ v u s2 x y H2, Inv X pins σ H2 s2 → RelV x v → RelV y u → R x y H2 → wpAny (model X.prog X.w) X.A (f v u) Q X.xe s2) :
    wpAny (model X.prog X.w) X.A (eval a X.env) (fun v s₁ => wpAny (model X.prog X.w) X.A (eval b X.env) (fun u s₂ => wpAny (model X.prog X.w) X.A (f v u) Q X.xe s₂) X.xe s₁) X.xe s := by
  refine thn (ha pins s σ H _ I h) fun v s1 ⟨x, H1, I1, r1, q1⟩ => ?_
  refine thn (hb pins s1 σ H1 _ I1 q1) fun u s2 ⟨y, H2, I2, r2, q2⟩ => ?_
  exact hf v u s2 x y H2 I2 r1 r2 q2
theorem pe_op {op : Operator} {r : R2} (ho : OpR X (binaryOp op) r) (ha : PE X a ta) (hb : PE X b tb) : PE X (.BinOp a op b pos) (tOp r ta tb) := by
  intro pins s σ H Q I h
  exact wpAny_BinOp (binT ha hb I h fun v u s2 x y H2 I2 rx ry q => ho pins s2 σ H2 x y v u Q I2 rx ry q)
theorem pe_un {op : UnaryOp} {r : V → Hp → VK → Prop} (ho : UnR X (unaryOp op) r) (ha : PE X a ta) : PE X (.UnaryOp op a pos) (tUn r ta) := by
  intro pins s σ H Q I h
  exact UnaryOp_ (thn (ha pins s σ H _ I h) fun v s1 ⟨x, H1, I1, r1, q1⟩ => ho pins s1 σ H1 x v Q I1 r1 q1)
theorem opI {f : Value → Value → Sem Value} {C : Int → Int → Prop} {g : Int → Int → Int}
    (rule : ∀ (i j : Int) (t u : Tok) (s : Shared) (Q : Value → Shared → Prop) (E : Value → Shared → Prop), C i j → Q (.int (g i j) s.toks) { s with toks := s.toks + 1 } → wpAny (model X.prog X.w) X.A (f (.int i t) (.int j u)) Q E s) :
    OpR X f (rI C fun i j => .int (g i j)) := by
  intro pins s σ H x y v u Q I rx ry h
  obtain ⟨i, j, rfl, rfl, hc, q⟩ := h
  obtain ⟨t, rfl⟩ := rx
  obtain ⟨t', rfl⟩ := ry
  exact rule i j t t' s _ _ hc ⟨.int (g i j), H, I.tok _, ⟨_, rfl⟩, q⟩
theorem opI0 {f : Value → Value → Sem Value} {g : Int → Int → Int}
    (rule : ∀ (i j : Int) (t u : Tok) (s : Shared) (Q : Value → Shared → Prop) (E : Value → Shared → Prop), Q (.int (g i j) s.toks) { s with toks := s.toks + 1 } → wpAny (model X.prog X.w) X.A (f (.int i t) (.int j u)) Q E s) :
    OpR X f (rI0 fun i j => .int (g i j)) := by
  intro pins s σ H x y v u Q I rx ry h
  obtain ⟨i, j, rfl, rfl, q⟩ := h
  obtain ⟨t, rfl⟩ := rx
  obtain ⟨t', rfl⟩ := ry
  exact rule i j t t' s _ _ ⟨.int (g i j), H, I.tok _, ⟨_, rfl⟩, q⟩
theorem opB0 {f : Value → Value → Sem Value} {g : Int → Int → Bool}
    (rule : ∀ (i j : Int) (t u : Tok) (s : Shared) (Q : Value → Shared → Prop) (E : Value → Shared → Prop), Q (.bool (g i j)) s → wpAny (model X.prog X.w) X.A (f (.int i t) (.int j u)) Q E s) :
    OpR X f (rI0 fun i j => .bl (g i j)) := by
  intro pins s σ H x y v u Q I rx ry h
  obtain ⟨i, j, rfl, rfl, q⟩ := h
  obtain ⟨t, rfl⟩ := rx
  obtain ⟨t', rfl⟩ := ry
  exact rule i j t t' s _ _ ⟨.bl (g i j), H, I, rfl, q⟩
def CDiv (i j : Int) : Prop := 0 < j ∧ j < 1073741824
def CMul (i j : Int) : Prop := (-(2 ^ 64) < i ∧ i < 2 ^ 64) ∨ (-(2 ^ 64) < j ∧ j < 2 ^ 64)
theorem CMul.ok {i j : Int} (h : CMul i j) : IntMulOk i j := by
  rcases h with ⟨h1, h2⟩ | ⟨h1, h2⟩
  · exact .of_left (intBits_le_64 h1 h2)
  · exact .of_right (intBits_le_64 h1 h2)
theorem op_add : OpR X (binaryOp .Add) (rI0 fun i j => .int (i + j)) := opI0 fun _ _ _ _ _ _ _ q => add_int q
theorem op_sub : OpR X (binaryOp .Sub) (rI0 fun i j => .int (i - j)) := opI0 fun _ _ _ _ _ _ _ q => sub_int q
theorem op_mul : OpR X (binaryOp .Mult) (rI CMul fun i j => .int (i * j)) := opI fun _ _ _ _ _ _ _ hc q => mul_int q hc.ok
theorem op_fdiv : OpR X (binaryOp .FloorDiv) (rI CDiv fun i j => .int (i / j)) := opI fun i j _ _ _ _ _ hc q => by
  have h1 : (0 : Int) < j := hc.1
  have h2 : j < 1073741824 := hc.2
  exact floordiv_int (by omega) (by rw [Int.fdiv_eq_ediv_of_nonneg i (by omega)]; exact q) (.inl (PyProof.noPylong_small (by omega)))
theorem op_mod : OpR X (binaryOp .Mod) (rI (fun _ j => 0 < j) fun i j => .int (i % j)) := opI fun i j _ _ _ _ _ hc q => by
  have h1 : (0 : Int) < j := hc
  exact mod_int' (by omega) (by rw [Int.fmod_eq_emod_of_nonneg i (by omega)]; exact q)
theorem unI {f : Value → Sem Value} {g : Int → Int}
    (rule : ∀ (i : Int) (t : Tok) (s : Shared) (Q : Value → Shared → Prop) (E : Value → Shared → Prop), Q (.int (g i) s.toks) { s with toks := s.toks + 1 } → wpAny (model X.prog X.w) X.A (f (.int i t)) Q E s) :
    UnR X f (rU fun i => .int (g i)) := by
  intro pins s σ H x v Q I rx h
  obtain ⟨i, rfl, q⟩ := h
  obtain ⟨t, rfl⟩ := rx
  exact rule i t s _ _ ⟨.int (g i), H, I.tok _, ⟨_, rfl⟩, q⟩
theorem un_neg : UnR X (unaryOp .USub) (rU fun i => .int (-i)) := unI fun _ _ _ _ _ q => neg_int q
end
def scal : V → V → Bool
  | .non, .non => true | .non, .int _ => true | .int _, .non => true | .non, .bl _ => true | .bl _, .non => true | .non, .str _ => true | .str _, .non => true
  | .int _, .int _ => true | .bl _, .bl _ => true | .str _, .str _ => true | .byt _, .byt _ => true
  | .int _, .str _ => true | .str _, .int _ => true | .bl _, .str _ => true | .str _, .bl _ => true
  | _, _ => false
def rEq : R2 := fun x y H Q => scal x y = true ∧ Q (.bl (decide (x = y))) H
def rNe : R2 := fun x y H Q => scal x y = true ∧ Q (.bl (!decide (x = y))) H
theorem dec_int {i j : Int} : decide (V.int i = V.int j) = (i == j) := by
  rw [Bool.eq_iff_iff]
  simp
theorem dec_bl {i j : Bool} : decide (V.bl i = V.bl j) = (i == j) := by
  rw [Bool.eq_iff_iff]
  simp
theorem dec_str {i j : Str} : decide (V.str i = V.str j) = (i == j) := by
  rw [Bool.eq_iff_iff]
  simp
theorem dec_byt {i j : Array UInt8} : decide (V.byt i = V.byt j) = (i.toList == j.toList) := by
  rw [Bool.eq_iff_iff]
  cases i
  cases j
  simp
section
variable {X : Cx} {a b c : Expr} {ta tb tc : TE} {pos : Pos}
theorem fin_bl {pins : List (Addr × Obj)} {σ : St} {H : Hp} {s : Shared} {Q : VK} {k k' : Bool} (I : Inv X pins σ H s) (q : Q (.bl k) H) (e : k = k') : EP X pins σ Q (.bool k') s := by
  subst e
  exact ⟨.bl k, H, I, rfl, q⟩
theorem op_eq : OpR X (compareOp .Eq) rEq := by
  intro pins s σ H x y v u Q I rx ry h
  obtain ⟨hs, q⟩ := h
  cases x with
  | non =>
    cases rx
    cases y with
    | non => cases ry; exact PySem.EqNone.eq_none_none (fin_bl I q (by simp))
    | bl j => cases ry; exact PySem.EqNone.eq_none_bool (fin_bl I q (by simp))
    | int j => obtain ⟨t', rfl⟩ := ry; exact PySem.EqNone.eq_none_int (fin_bl I q (by simp))
    | str j => obtain ⟨t', rfl⟩ := ry; exact PySem.EqNone.eq_none_str (fin_bl I q (by simp))
    | _ => exact absurd (show false = true from hs) Bool.false_ne_true
  | bl i =>
    cases rx
    cases y with
    | non => cases ry; exact PySem.EqNone.eq_bool_none (fin_bl I q (by simp))
    | bl j => cases ry; exact eq_bool (fin_bl I q dec_bl)
    | str j => obtain ⟨t', rfl⟩ := ry; exact PySem.EqMixed.eq_bool_str (fin_bl I q (by simp))
    | _ => exact absurd (show false = true from hs) Bool.false_ne_true
  | int i =>
    obtain ⟨t, rfl⟩ := rx
    cases y with
    | non => cases ry; exact PySem.EqNone.eq_int_none (fin_bl I q (by simp))
    | int j => obtain ⟨t', rfl⟩ := ry; exact eq_int (fin_bl I q dec_int)
    | str j => obtain ⟨t', rfl⟩ := ry; exact PySem.EqMixed.eq_int_str (fin_bl I q (by simp))
    | _ => exact absurd (show false = true from hs) Bool.false_ne_true
  | str i =>
    obtain ⟨t, rfl⟩ := rx
    cases y with
    | non => cases ry; exact PySem.EqNone.eq_str_none (fin_bl I q (by simp))
    | bl j => cases ry; exact PySem.EqMixed.eq_str_bool (fin_bl I q (by simp))
    | int j => obtain ⟨t', rfl⟩ := ry; exact PySem.EqMixed.eq_str_int (fin_bl I q (by simp))
    | str j => obtain ⟨t', rfl⟩ := ry; exact eq_str (fin_bl I q dec_str)
    | _ => exact absurd (show false = true from hs) Bool.false_ne_true
  | byt i =>
    obtain ⟨t, rfl⟩ := rx
    cases y with
    | byt j => obtain ⟨t', rfl⟩ := ry; exact PySem.W.eq_bytes (fin_bl I q dec_byt)
    | _ => exact absurd (show false = true from hs) Bool.false_ne_true
  | _ => cases y <;> exact absurd (show false = true from hs) Bool.false_ne_true
theorem op_ne : OpR X (compareOp .NotEq) rNe := by
  intro pins s σ H x y v u Q I rx ry h
  obtain ⟨hs, q⟩ := h
  cases x with
  | non =>
    cases rx
    cases y with
    | non => cases ry; exact PySem.EqNone.ne_none_none (fin_bl I q (by simp))
    | bl j => cases ry; exact PySem.EqNone.ne_none_bool (fin_bl I q (by simp))
    | int j => obtain ⟨t', rfl⟩ := ry; exact PySem.EqNone.ne_none_int (fin_bl I q (by simp))
    | str j => obtain ⟨t', rfl⟩ := ry; exact PySem.EqNone.ne_none_str (fin_bl I q (by simp))
    | _ => exact absurd (show false = true from hs) Bool.false_ne_true
  | bl i =>
    cases rx
    cases y with
    | non => cases ry; exact PySem.EqNone.ne_bool_none (fin_bl I q (by simp))
    | bl j => cases ry; exact ne_bool (fin_bl I q (congrArg not dec_bl))
    | str j => obtain ⟨t', rfl⟩ := ry; exact PySem.EqMixed.ne_bool_str (fin_bl I q (by simp))
    | _ => exact absurd (show false = true from hs) Bool.false_ne_true
  | int i =>
    obtain ⟨t, rfl⟩ := rx
    cases y with
    | non => cases ry; exact PySem.EqNone.ne_int_none (fin_bl I q (by simp))
    | int j => obtain ⟨t', rfl⟩ := ry; exact ne_int (fin_bl I q (congrArg not dec_int))
    | str j => obtain ⟨t', rfl⟩ := ry; exact PySem.EqMixed.ne_int_str (fin_bl I q (by simp))
    | _ => exact absurd (show false = true from hs) Bool.false_ne_true
  | str i =>
    obtain ⟨t, rfl⟩ := rx
    cases y with
    | non => cases ry; exact PySem.EqNone.ne_str_none (fin_bl I q (by simp))
    | bl j => cases ry; exact PySem.EqMixed.ne_str_bool (fin_bl I q (by simp))
    | int j => obtain ⟨t', rfl⟩ := ry; exact PySem.EqMixed.ne_str_int (fin_bl I q (by simp))
    | str j => obtain ⟨t', rfl⟩ := ry; exact ne_str (fin_bl I q (congrArg not dec_str))
    | _ => exact absurd (show false = true from hs) Bool.false_ne_true
  | byt i =>
    obtain ⟨t, rfl⟩ := rx
    cases y with
    | byt j => obtain ⟨t', rfl⟩ := ry; exact PySem.W.ne_bytes (fin_bl I q (congrArg not dec_byt))
    | _ => exact absurd (show false = true from hs) Bool.false_ne_true
  | _ => cases y <;> exact absurd (show false = true from hs) Bool.false_ne_true
theorem op_lt : OpR X (compareOp .Lt) (rI0 fun i j => .bl (decide (i < j))) := opB0 fun _ _ _ _ _ _ _ q => lt_int q
theorem op_le : OpR X (compareOp .LtE) (rI0 fun i j => .bl (decide (i ≤ j))) := opB0 fun _ _ _ _ _ _ _ q => le_int q
theorem op_gt : OpR X (compareOp .Gt) (rI0 fun i j => .bl (decide (j < i))) := opB0 fun _ _ _ _ _ _ _ q => gt_int q
theorem op_ge : OpR X (compareOp .GtE) (rI0 fun i j => .bl (decide (j ≤ i))) := opB0 fun _ _ _ _ _ _ _ q => ge_int q
theorem op_isN : OpR X (compareOp .Is) (fun x y H Q => y = .non ∧ Q (.bl (decide (x = .non))) H) := by
  intro pins s σ H x y v u Q I rx ry h
  obtain ⟨rfl, q⟩ := h
  cases ry
  refine is_none_gen (fin_bl I q ?_)
  cases x <;> first
    | (cases rx; rfl)
    | (obtain ⟨t, rfl⟩ := rx; rfl)
theorem op_notN : OpR X (compareOp .IsNot) (fun x y H Q => y = .non ∧ Q (.bl (!decide (x = .non))) H) := by
  intro pins s σ H x y v u Q I rx ry h
  obtain ⟨rfl, q⟩ := h
  cases ry
  refine isnot_none_gen (fin_bl I q ?_)
  cases x <;> first
    | (cases rx; rfl)
    | (obtain ⟨t, rfl⟩ := rx; rfl)
theorem nomark (b : Expr) {op : CmpOp} (h : op ≠ .In := by decide) (h2 : op ≠ .NotIn := by decide) : behindInMarks op b = false := by
  have e1 : (op == CmpOp.In) = false := by cases op <;> first | rfl | exact absurd rfl h
  have e2 : (op == CmpOp.NotIn) = false := by cases op <;> first | rfl | exact absurd rfl h2
  cases b <;> simp [behindInMarks, e1, e2]
theorem pe_cmpR {op : CmpOp} {r : R2} (ho : OpR X (compareOp op) r) (ha : PE X a ta) (hb : PE X b tb) (hm : behindInMarks op b = false) : PE X (.Compare a [op] [b] pos) (tOp r ta tb) := by
  intro pins s σ H Q I h
  exact wpAny_Compare1 (binT ha hb I h fun v u s2 x y H2 I2 rx ry q => ho pins s2 σ H2 x y v u Q I2 rx ry q) hm
def tTest (t : TE) : TT := fun σ H Q => t σ H fun x H' => ∃ k, x = .bl k ∧ Q k H'
theorem pt_cmpR {op : CmpOp} {r : R2} (ho : OpR X (compareOp op) r) (ha : PE X a ta) (hb : PE X b tb) (hm : behindInMarks op b = false) : PT X (.Compare a [op] [b] pos) (tTest (tOp r ta tb)) := by
  intro pins s σ H Q I h
  refine wpAny_isTrue_Compare1 (thn (ha pins s σ H _ I h) fun v s1 ⟨x, H1, I1, r1, q1⟩ => thn (hb pins s1 σ H1 _ I1 q1) fun u s2 ⟨y, H2, I2, r2, q2⟩ =>
    thn (ho pins s2 σ H2 x y v u _ I2 r1 r2 q2) fun c s3 ⟨z, H3, I3, r3, k, e, q3⟩ => ?_) hm
  subst e
  cases r3
  exact wpAny_truthy_bool ⟨H3, I3, q3⟩
def tChain (r r' : R2) (ta tb tc : TE) : TE := fun σ H Q => ta σ H fun x H1 => tb σ H1 fun y H2 => r x y H2 fun z H3 => ∃ k, z = .bl k ∧
  (if k = true then tc σ H3 fun w' H4 => r' y w' H4 Q else Q (.bl false) H3)
theorem pe_chain {op op' : CmpOp} {r r' : R2} (ho : OpR X (compareOp op) r) (ho' : OpR X (compareOp op') r') (ha : PE X a ta) (hb : PE X b tb) (hc : PE X c tc)
    (hm : lastMarks [op, op'] [b, c] = false := by with_unfolding_all rfl) : PE X (.Compare a [op, op'] [b, c] pos) (tChain r r' ta tb tc) := by
  intro pins s σ H Q I h
  refine Compare_chain (thn (ha pins s σ H _ I h) fun v s1 ⟨x, H1, I1, r1, q1⟩ => chain_link (thn (hb pins s1 σ H1 _ I1 q1) fun u s2 ⟨y, H2, I2, r2, q2⟩ =>
    thn (ho pins s2 σ H2 x y v u _ I2 r1 r2 q2) fun d s3 ⟨z, H3, I3, r3, k, e, q3⟩ => ?_)) hm
  subst e
  cases r3
  refine wpAny_truthy_bool ?_
  cases k with
  | false => exact ite_ff ⟨.bl false, H3, I3, rfl, q3⟩
  | true => exact ite_tt (chain_last (thn (hc pins s3 σ H3 _ I3 q3) fun w' s4 ⟨z', H4, I4, r4, q4⟩ => ho' pins s4 σ H4 y z' u w' Q I4 r2 r4 q4))
theorem line63 : (sizeLine : Nat) < 2 ^ 63 := by rw [sizeLine_eq]; decide
theorem op_add_str : OpR X (binaryOp .Add) (fun x y H Q => ∃ i j, x = .str i ∧ y = .str j ∧ i.length + j.length ≤ sizeLine ∧ Q (.str (i ++ j)) H) := by
  intro pins s σ H x y v u Q I rx ry h
  obtain ⟨i, j, rfl, rfl, hz, q⟩ := h
  obtain ⟨t, rfl⟩ := rx
  obtain ⟨t', rfl⟩ := ry
  exact add_str (fun t' tk => ⟨.str (i ++ j), H, I.tok _, ⟨_, rfl⟩, q⟩) hz
theorem vals1 {x : V} {us : List Value} (r : Vals [x] us) : ∃ u, us = [u] ∧ RelV x u := by
  cases r with
  | cons r1 r2 => cases r2; exact ⟨_, rfl, r1⟩
theorem call_abs : CallR X (.builtin "abs") (fun xs H Q => ∃ i, xs = [.int i] ∧ Q (.int (if i < 0 then -i else i)) H) := by
  intro pins s σ H xs us Q I r h
  obtain ⟨i, rfl, q⟩ := h
  obtain ⟨u, rfl, t, rfl⟩ := vals1 r
  exact call_abs_int fun u tk => ⟨.int (if i < 0 then -i else i), H, I.tok _, ⟨_, rfl⟩, q⟩
theorem call_ord : CallR X (.builtin "ord") (fun xs H Q => ∃ x, xs = [.str x] ∧ x.length = 1 ∧ Q (.int (x.cps.getD 0 0 : Nat)) H) := by
  intro pins s σ H xs us Q I r h
  obtain ⟨x, rfl, hz, q⟩ := h
  obtain ⟨u, rfl, t, rfl⟩ := vals1 r
  exact ord_of_one hz ⟨.int _, H, I.tok _, ⟨_, rfl⟩, q⟩
end
end L2
namespace L2
open PySem PySem.Spec PyProof.Rows
structure ObjM (h : Heap) (x dx C : Addr) (mA : Str → Option Value) : Prop where
  obj : h.get? x = some (PySem.W.instObj C dx)
  ns : h.Ns1 dx mA
  ne : dx ≠ x
theorem lookIn_ns {h : Heap} {dx : Addr} {mA : Str → Option Value} (n : h.Ns1 dx mA) : ∃ od, h.get? dx = some od ∧ ∀ name, PySem.W.lookIn name od = some (mA name) := by
  obtain ⟨o, es, ep, ho, hd, hk, _, hm⟩ := n
  refine ⟨o, ho, fun name => ?_⟩
  have e := hm name
  unfold nsFind findBy at e
  rw [← Array.find?_toList] at e
  unfold PySem.W.lookIn
  rw [hd]
  dsimp only
  split
  · rename_i y q
    rw [q] at e
    exact congrArg some e
  · rename_i q
    rw [q] at e
    have a : es.toList.any (·.refKey) = false := by
      rw [List.any_eq_false]
      intro y hy
      obtain ⟨z, t, hkey⟩ := hk y (Array.mem_toList_iff.mp hy)
      simp [DictEntry.refKey, hkey]
    have a' : ¬ es.toList.any (·.refKey) = true := by rw [a]; exact Bool.false_ne_true
    rw [if_neg a']
    exact congrArg some e
theorem ObjM.look {h : Heap} {x dx C : Addr} {mA : Str → Option Value} (I : ObjM h x dx C mA) : ∃ od, PySem.W.InstAt h x (PySem.W.instObj C dx) C (some od) ∧ ∀ name, PySem.W.lookIn name od = some (mA name) :=
  let ⟨od, ho, hl⟩ := lookIn_ns I.ns
  ⟨od, ⟨I.obj, rfl, rfl, ho⟩, hl⟩
section
variable {prog : Program} {w : World} {A : Around} {E : Value → Shared → Prop} {s : Shared} {K : PySem.W.Frag} {x dx C f : Addr} {mA : Str → Option Value} {name : Str} {v : Value}
theorem get_map {expr : Bool} {Q : Value → Shared → Prop} (X : K.In s.heap) (I : ObjM s.heap x dx C mA) (hg : PySem.W.plainGet K C name = true) (hh : PySem.W.hasDictIn K C = true)
    (ha : PySem.W.findIn K (.ref C) name = some none) (hv : mA name = some v) (hv' : PySem.W.handedIn v = true) (h : Q v { s with toks := s.toks + 1 }) :
    wpAny (model prog w) A (getAttr (.ref x) name expr) Q E s := by
  obtain ⟨od, J, hl⟩ := I.look
  exact PySem.W.get_value X J (PySem.W.plainGet_of hg).1 (PySem.W.findObj_own hh ha rfl (by rw [hl, hv])) hv' h
theorem get_meth {pl : Sem Bool} {Q : Value × List Value → Shared → Prop} (X : K.In s.heap) (I : ObjM s.heap x dx C mA) (hg : PySem.W.plainGet K C name = true)
    (hf : PySem.W.findIn K (.ref C) name = some (some (.ref f))) (ht : PySem.W.isFn K (.ref f) = true) (hv : mA name = none) (h : Q (.ref f, [.ref x]) s) :
    wpAny (model prog w) A (getMethod (.ref x) name pl) Q E s := by
  obtain ⟨od, J, hl⟩ := I.look
  exact PySem.W.method_fn X J (PySem.W.plainGet_of hg).1 (PySem.W.plainGet_of hg).2 hf (beq_iff_eq.mp ht) (by show (PySem.W.lookIn name od).map (·.isSome) = some false; rw [hl, hv]; rfl) h
theorem set_map {ns : List Str} {Q : Unit → Shared → Prop} (X : K.In s.heap) (I : ObjM s.heap x dx C mA)
    (hs : PySem.W.findIn K (.ref C) "__setattr__" = some (some (.builtin "object.__setattr__"))) (hp : PySem.W.plainOver K C = true) (ht : PySem.W.takerIn K C name = some none) (hh : PySem.W.hasDictIn K C = true)
    (hw : PySem.Within mA ns) (hsz : ns.length ≤ sizeLine)
    (h : ∀ h', ObjM h' x dx C (fun y => if y = name then some v else mA y) → Heap.SameBut dx s.heap h' → Q () { s with heap := h', toks := s.toks + 2 }) :
    wpAny (model prog w) A (setAttr (.ref x) name v) Q E s := by
  obtain ⟨od, J, hl⟩ := I.look
  refine PySem.W.set_plain X J hs (PySem.W.osa_open (s := { s with toks := s.toks + 1 }) (r := none) X J hp ht fun b => ?_)
  obtain ⟨cd, hc, hd'⟩ := PySem.W.any_some hh
  have hx : s.heap.get? x = some ⟨.ref C, some dx, .plain, #[]⟩ := I.obj
  refine wpAny_bind (wpAny_pure (wpAny_bind (wpAny_bind (wpAny_loadPart hx (wpAny_bind (PySem.W.Looks.here (s := { s with toks := s.toks + 1 }) (PySem.W.looks_clsIn X hc) ?_))))))
  rw [hd']
  refine wpAny_pure (a := some dx) (wpAny_bind (wpAny_pure (wpAny_bind ?_)))
  refine wpAny_nsSet1 (s := { s with toks := s.toks + 1 }) I.ns fun h' hn2 hs2 => ?_
  obtain ⟨oD, esD, epD, hoD, hdD, hcD⟩ := hn2.count (PySem.Within.cons name v hw)
  refine wpAny_bind (wpAny_lookBehind hoD (by rw [hdD]; exact pastItsLine_dict (Nat.le_trans hcD (by rw [List.length_cons]; omega))) ?_)
  exact wpAny_pure (h _ ⟨(hs2.2 _ (Ne.symm I.ne)).trans I.obj, hn2, I.ne⟩ hs2)
theorem make_map {R : Result → Shared → Prop} {vs : List Value} {kw : List (Str × Value)} (X : K.In s.heap) (hm : PySem.W.makesIn K C = true)
    (hi : PySem.W.findIn K (.ref C) "__init__" = some (some (.ref f))) (hf : PySem.W.typeIn K (.ref f) = some (.type "function"))
    (h : codeAny (model prog w) (A.under (.builtin "type.__call__" ⟨.ref C :: vs, kw⟩)) (.call (.ref f) ⟨.ref (s.heap.objs.size + 1) :: vs, kw⟩) (PySem.W.InitBack (s.heap.objs.size + 1) R)
      { s with heap := (s.heap.push PySem.W.emptyDict).push (PySem.W.instObj C s.heap.objs.size) }) :
    codeAny (model prog w) A (.call (.ref C) ⟨vs, kw⟩) R s := by
  obtain ⟨hh, g, d, t, os⟩ := s
  exact PySem.W.make_core (PySem.W.makes_of X hm) (PySem.W.looks_findIn X hi) (fun self => PySem.W.bind_fn X self hf) (.inl rfl) h
end
def putF (f : Str) (v : V) : List (Str × V) → List (Str × V)
  | [] => [(f, v)]
  | (g, x) :: r => if g = f then (g, v) :: r else (g, x) :: putF f v r
theorem lookup_putF (f g : Str) (v : V) : ∀ fs : List (Str × V), (putF f v fs).lookup g = if g = f then some v else fs.lookup g
  | [] => by
    show List.lookup g [(f, v)] = _
    by_cases h : g = f
    · have hb : (g == f) = true := beq_iff_eq.mpr h
      simp only [List.lookup, hb, if_pos h]
    · have hb : (g == f) = false := beq_eq_false_iff_ne.mpr h
      simp only [List.lookup, hb, if_neg h]
  | (k, x) :: r => by
    have ih := lookup_putF f g v r
    rw [show putF f v ((k, x) :: r) = (if k = f then (k, v) :: r else (k, x) :: putF f v r) from rfl]
    by_cases hk : k = f
    · rw [if_pos hk]
      by_cases h : g = k
      · have hb : (g == k) = true := beq_iff_eq.mpr h
        simp only [List.lookup, hb, if_pos (h.trans hk)]
      · have hb : (g == k) = false := beq_eq_false_iff_ne.mpr h
        simp only [List.lookup, hb, if_neg (fun e : g = f => h (e.trans hk.symm))]
    · rw [if_neg hk]
      by_cases h : g = k
      · have hb : (g == k) = true := beq_iff_eq.mpr h
        simp only [List.lookup, hb, if_neg (fun e : g = f => hk (h.symm.trans e))]
      · have hb : (g == k) = false := beq_eq_false_iff_ne.mpr h
        simp only [List.lookup, hb]
        exact ih
theorem keys_putF (f : Str) (v : V) : ∀ fs : List (Str × V), f ∈ (putF f v fs).map (·.1) ∧ ∀ g, g ∈ fs.map (·.1) → g ∈ (putF f v fs).map (·.1)
  | [] => ⟨by simp [putF], fun g h => by simp at h⟩
  | (k, x) :: r => by
    obtain ⟨i1, i2⟩ := keys_putF f v r
    rw [show putF f v ((k, x) :: r) = (if k = f then (k, v) :: r else (k, x) :: putF f v r) from rfl]
    by_cases hk : k = f
    · rw [if_pos hk]
      subst hk
      exact ⟨by simp, fun g h => by simpa using h⟩
    · rw [if_neg hk]
      refine ⟨?_, fun g h => ?_⟩
      · rw [List.map_cons]
        exact List.mem_cons_of_mem _ i1
      · rw [List.map_cons] at h ⊢
        rcases List.mem_cons.mp h with e | e
        · exact List.mem_cons.mpr (.inl e)
        · exact List.mem_cons_of_mem _ (i2 g e)
theorem length_putF (f : Str) (v : V) : ∀ fs : List (Str × V), (putF f v fs).length ≤ fs.length + 1
  | [] => by simp [putF]
  | (k, x) :: r => by
    have ih := length_putF f v r
    rw [show putF f v ((k, x) :: r) = (if k = f then (k, v) :: r else (k, x) :: putF f v r) from rfl]
    by_cases hk : k = f
    · rw [if_pos hk, List.length_cons, List.length_cons]; omega
    · rw [if_neg hk, List.length_cons, List.length_cons]; omega
theorem RelO.some_of {v : V} {o : Option Value} (r : RelO (some v) o) : ∃ u, o = some u ∧ RelV v u := by
  cases o with
  | none => exact (show False from r).elim
  | some u => exact ⟨u, rfl, r⟩
theorem RelO.none_of {o : Option Value} (r : RelO none o) : o = none := by
  cases o with
  | none => rfl
  | some u => exact (show False from r).elim
theorem handed_of {v : V} {u : Value} (r : RelV v u) : PySem.W.handedIn u = true := by
  cases v with
  | non => cases (show u = Value.none from r); rfl
  | bl b => cases (show u = Value.bool b from r); rfl
  | int i => obtain ⟨t, e⟩ := (show ∃ t, u = Value.int i t from r); cases e; rfl
  | str x => obtain ⟨t, e⟩ := (show ∃ t, u = Value.str x t from r); cases e; rfl
  | byt b => obtain ⟨t, e⟩ := (show ∃ t, u = Value.bytes b t from r); cases e; rfl
  | flt b => obtain ⟨t, e⟩ := (show ∃ t, u = Value.float b t from r); cases e; rfl
  | ref a => cases (show u = Value.ref a from r); rfl
  | ty n => cases (show u = Value.type n from r); rfl
section
variable {P : Program} {w : World} {H H' : Hp} {h h' : Heap} {a C dx : Addr} {fs fs' : List (Str × V)}
theorem ins_get (hok : HOk P w H h) (e : H a = some (.ins C dx fs)) : ∃ mA, ObjM h a dx C mA ∧ (∀ f, RelO (fs.lookup f) (mA f)) ∧ PySem.Within mA (fs.map (·.1)) ∧ fs.length ≤ 1000 ∧ H dx = some (.own a) := by
  obtain ⟨d, z, ne, ob, mA, n, r, q⟩ := (show ObjOk P w H h a (.ins C dx fs) from hok a _ e)
  exact ⟨mA, ⟨ob, n, ne⟩, r, q, z, d⟩
end
structure Cls (K : PySem.W.Frag) (C : Addr) : Prop where
  pg : PySem.W.plainGet K C Str.empty = true
  hd : PySem.W.hasDictIn K C = true
  po : PySem.W.plainOver K C = true
  sa : PySem.W.findIn K (.ref C) "__setattr__" = some (some (.builtin "object.__setattr__"))
theorem Cls.get {K : PySem.W.Frag} {C : Addr} (c : Cls K C) (f : Str) : PySem.W.plainGet K C f = true := c.pg
def NoAttr (K : PySem.W.Frag) (C : Addr) (f : Str) : Prop := PySem.W.findIn K (.ref C) f = some none
theorem NoAttr.taker {K : PySem.W.Frag} {C : Addr} {f : Str} (n : NoAttr K C f) : PySem.W.takerIn K C f = some none := by
  unfold PySem.W.takerIn
  rw [show PySem.W.findIn K (.ref C) f = some none from n]
  rfl
structure Meth (K : PySem.W.Frag) (C : Addr) (m : Str) (f : Addr) : Prop where
  at_ : PySem.W.findIn K (.ref C) m = some (some (.ref f))
  fn : PySem.W.isFn K (.ref f) = true
  kp : PySem.W.keepIn K (.ref f) = true
section
variable {X : Cx} {pins : List (Addr × Obj)} {σ : St} {H : Hp} {s : Shared} {a C dx : Addr} {fs : List (Str × V)} {f : Str} {v : V} {A : Around} {E : Value → Shared → Prop}
theorem getattr_ok {b : Bool} {Q : Value → Shared → Prop} (I : Inv X pins σ H s) (e : H a = some (.ins C dx fs)) (c : Cls X.K C) (n : NoAttr X.K C f) (l : fs.lookup f = some v)
    (h : ∀ u s', Inv X pins σ H s' → RelV v u → Q u s') : wpAny (model X.prog X.w) A (getAttr (.ref a) f b) Q E s := by
  obtain ⟨mA, O, r, _, _, _⟩ := ins_get I.hok e
  obtain ⟨u, hu, ru⟩ := RelO.some_of (v := v) (o := mA f) (by rw [← l]; exact r f)
  exact get_map I.kIn O (c.get f) c.hd n hu (handed_of ru) (h u _ (I.tok _) ru)
theorem getmeth_ok {m : Str} {g : Addr} {pl : Sem Bool} {Q : Value × List Value → Shared → Prop} (I : Inv X pins σ H s) (e : H a = some (.ins C dx fs)) (c : Cls X.K C) (k : Meth X.K C m g) (l : fs.lookup m = none)
    (h : Q (.ref g, [.ref a]) s) : wpAny (model X.prog X.w) A (getMethod (.ref a) m pl) Q E s := by
  obtain ⟨mA, O, r, _, _, _⟩ := ins_get I.hok e
  have hn : mA m = none := RelO.none_of (by rw [← l]; exact r m)
  exact get_meth I.kIn O (c.get m) k.at_ k.fn hn h
theorem setattr_ok {y : V} {u : Value} {Q : Unit → Shared → Prop} (I : Inv X pins σ H s) (e : H a = some (.ins C dx fs)) (c : Cls X.K C) (n : NoAttr X.K C f) (hl : fs.length < 1000) (ry : RelV y u)
    (h : ∀ s', Inv X pins σ (upd H a (.ins C dx (putF f y fs))) s' → Q () s') : wpAny (model X.prog X.w) A (setAttr (.ref a) f u) Q E s := by
  obtain ⟨mA, O, r, wi, _, ho⟩ := ins_get I.hok e
  have hz : (fs.map (·.1)).length ≤ sizeLine := by rw [List.length_map, sizeLine_eq]; omega
  refine set_map I.kIn O c.sa c.po n.taker c.hd wi hz fun h' O' sb => h _ ?_
  have hd : ∃ o, h'.get? dx = some o := let ⟨o, _, _, e', _⟩ := O'.ns; ⟨o, e'⟩
  refine I.write (x := a) (e := dx) (by rw [e]; exact True.intro) (.inr ho) (fun b q hb z => (sb.2 b hb).trans z) hd ?_
  refine ⟨by rw [upd_ne O.ne]; exact ho, ?_, O.ne, O'.obj, _, O'.ns, fun g => ?_, fun g hg => ?_⟩
  · have := length_putF f y fs; omega
  · show RelO ((putF f y fs).lookup g) (if g = f then some u else mA g)
    rw [lookup_putF]
    by_cases q : g = f
    · rw [if_pos q, if_pos q]; exact ry
    · rw [if_neg q, if_neg q]; exact r g
  · by_cases q : g = f
    · rw [q]; exact (keys_putF f y fs).1
    · refine (keys_putF f y fs).2 g (wi g fun z => hg ?_)
      show (if g = f then some u else mA g) = none
      rw [if_neg q]; exact z
theorem Inv.made (I : Inv X pins σ H s) : Inv X pins σ (upd (upd H s.heap.objs.size (.own (s.heap.objs.size + 1))) (s.heap.objs.size + 1) (.ins C s.heap.objs.size []))
    { s with heap := (s.heap.push PySem.W.emptyDict).push (PySem.W.instObj C s.heap.objs.size) } := by
  have e1 : (s.heap.push PySem.W.emptyDict).get? s.heap.objs.size = some PySem.W.emptyDict := Heap.get?_push_size s.heap rfl
  have e2 : ((s.heap.push PySem.W.emptyDict).push (PySem.W.instObj C s.heap.objs.size)).get? (s.heap.objs.size + 1) = some (PySem.W.instObj C s.heap.objs.size) := by
    have := Heap.get?_push_size (s.heap.push PySem.W.emptyDict) (o := PySem.W.instObj C s.heap.objs.size) rfl
    rwa [Heap.size_push] at this
  have e3 : (s.heap.push PySem.W.emptyDict).Ns s.heap.objs.size (fun _ => none) := ⟨PySem.W.emptyDict, #[], _, e1, rfl, (fun e he => absurd he (by simp)), fun _ => rfl⟩
  have I1 := I.laid (a := s.heap.objs.size) (o := .own (s.heap.objs.size + 1)) (h' := s.heap.push PySem.W.emptyDict) (t' := s.toks) (fun b u q => Heap.get?_push_of_some _ q) (Nat.le_refl _) ⟨_, e1⟩
  refine I1.laid (a := s.heap.objs.size + 1) (o := .ins C s.heap.objs.size []) (t' := s.toks) (fun b u q => Heap.get?_push_of_some _ q) (Nat.le_of_eq (Heap.size_push _ _)) ?_
  have ne : s.heap.objs.size ≠ s.heap.objs.size + 1 := Nat.ne_of_lt (Nat.lt_succ_self _)
  refine ⟨by rw [upd_ne ne, upd_same], Nat.zero_le _, ne, e2, fun _ => none, (Heap.Ns1.of_empty e3).at fun o q => Heap.get?_push_of_some _ q, fun _ => True.intro, fun y hy => absurd rfl hy⟩
theorem attr_of {prog : Program} {w : World} {env : Env} {e : Expr} {f : Str} {pos : Pos} {s : Shared} {Q : Value → Shared → Prop} (hb : attributeBase e f env (eval e env) = eval e env)
    (h : wpAny (model prog w) A (eval e env) (fun o s₁ => wpAny (model prog w) A (getAttr o f true) Q E s₁) E s) : wpAny (model prog w) A (eval (.Attribute e f pos) env) Q E s :=
  Attribute_any_ h (by rw [arm_eval_Attribute, hb])
end
def tFld (K : PySem.W.Frag) (ta : TE) (f : Str) : TE := fun σ H Q => ta σ H fun x H1 => ∃ a C dx fs v, x = .ref a ∧ H1 a = some (.ins C dx fs) ∧ Cls K C ∧ NoAttr K C f ∧ fs.lookup f = some v ∧ Q v H1
def sFld (K : PySem.W.Frag) (ta tv : TE) (f : Str) : TS := fun D σ H => tv σ H fun y H1 => ta σ H1 fun x H2 => ∃ a C dx fs, x = .ref a ∧ H2 a = some (.ins C dx fs) ∧ Cls K C ∧ NoAttr K C f ∧ fs.length < 1000 ∧
  D.nx σ (upd H2 a (.ins C dx (putF f y fs)))
def InOp (X : Cx) (op : Operator) (rd : V → V → Hp → VK → Prop) : Prop :=
  ∀ (pins : List (Addr × Obj)) (s : Shared) (σ : St) (H : Hp) (x y : V) (u v : Value) (Q : VK), Inv X pins σ H s → RelV x u → RelV y v → rd x y H Q → wpAny (model X.prog X.w) X.A (inplaceOp op u v) (EP X pins σ Q) X.xe s
def sFldAug (K : PySem.W.Frag) (ta tv : TE) (rd : V → V → Hp → VK → Prop) (f : Str) : TS := fun D σ H => ta σ H fun x H1 => ∃ a C dx fs v, x = .ref a ∧ H1 a = some (.ins C dx fs) ∧ Cls K C ∧ NoAttr K C f ∧ fs.lookup f = some v ∧
  tv σ H1 fun y H2 => rd v y H2 fun z H3 => ∃ dx' fs', H3 a = some (.ins C dx' fs') ∧ fs'.length < 1000 ∧ D.nx σ (upd H3 a (.ins C dx' (putF f z fs')))
section
variable {X : Cx} {o e value : Expr} {f : Str} {pos pos' tpos : Pos} {ta tv : TE}
theorem pe_fld (he : PE X e ta) (hb : attributeBase e f X.env (eval e X.env) = eval e X.env) : PE X (.Attribute e f pos) (tFld X.K ta f) := by
  intro pins s σ H Q I h
  refine attr_of hb (thn (he pins s σ H _ I h) fun u s1 ⟨x, H1, I1, rx, a, C, dx, fs, v, ex, ea, c, n, l, q⟩ => ?_)
  subst ex
  obtain rfl : u = Value.ref a := rx
  exact getattr_ok I1 ea c n l fun u' s2 I2 ru => ⟨v, H1, I2, ru, q⟩
theorem ps_fld (ha : PE X o ta) (hv : PE X value tv) (hs : swapsWith value (some (.Attribute o f pos')) pos.line X.env = pure false) : PS X (.Assign [.Attribute o f pos'] value pos) (sFld X.K ta tv f) := by
  intro pins s σ H D I h
  refine plainObj_wpAny_Assign_Attribute (thn (hv pins s σ H _ I h) fun u s1 ⟨y, H1, I1, ry, q⟩ => thn (ha pins s1 σ H1 _ I1 q) fun ov s2 ⟨x, H2, I2, rx, a, C, dx, fs, ex, ea, c, n, l, q2⟩ => ?_) hs
  subst ex
  obtain rfl : ov = Value.ref a := rx
  exact setattr_ok I2 ea c n l ry fun s3 I3 => ⟨σ, _, I3, q2⟩
theorem ps_fldaug {op : Operator} {rd : V → V → Hp → VK → Prop} (ha : PE X o ta) (hv : PE X value tv) (hop : InOp X op rd) : PS X (.AugAssign (.Attribute o f tpos) op value pos) (sFldAug X.K ta tv rd f) := by
  intro pins s σ H D I h
  refine wpAny_AugAssign_AttributeAny (thn (ha pins s σ H _ I h) fun ov s1 ⟨x, H1, I1, rx, a, C, dx, fs, v, ex, ea, c, n, l, q⟩ => ?_)
  subst ex
  obtain rfl : ov = Value.ref a := rx
  refine getattr_ok I1 ea c n l fun u s2 I2 ru => thn (hv pins s2 σ H1 _ I2 q) fun w3 s3 ⟨y, H2, I3, ry, q3⟩ => thn (hop pins s3 σ H2 v y u w3 _ I3 ru ry q3) fun w4 s4 ⟨z, H3, I4, rz, dx', fs', ea', l', q4⟩ => ?_
  exact setattr_ok I4 ea' c n l' rz fun s5 I5 => ⟨σ, _, I5, q4⟩
def rAdd : V → V → Hp → VK → Prop := fun x y H Q => ∃ i j, x = .int i ∧ y = .int j ∧ Q (.int (i + j)) H
theorem in_add : InOp X .Add rAdd := by
  rintro pins s σ H x y u v Q I rx ry ⟨i, j, rfl, rfl, q⟩
  obtain ⟨t, rfl⟩ := (show ∃ t, u = Value.int i t from rx)
  obtain ⟨t', rfl⟩ := (show ∃ t', v = Value.int j t' from ry)
  exact PyProof.Rows.iadd_int ⟨.int (i + j), H, I.tok _, ⟨_, rfl⟩, q⟩
theorem methcall_of {pl : Sem Bool} {m : Str} {apos : Pos} {args : List Expr} {pins : List (Addr × Obj)} {s : Shared} {σ : St} {H : Hp} {Q : Value → Shared → Prop} {te : TE} (he : PE X e te) (I : Inv X pins σ H s)
    (h : te σ H fun x H1 => ∃ a C dx fs g, x = .ref a ∧ H1 a = some (.ins C dx fs) ∧ Cls X.K C ∧ Meth X.K C m g ∧ fs.lookup m = none ∧
      ∀ s1, Inv X pins σ H1 s1 → wpAny (model X.prog X.w) X.A (callWith pos (.ref g) [.ref a] (backTo pos (starEach args X.env)) (backToKw pos (keywordEach [] X.env))) Q X.xe s1)
    (ht : eval (.Call (.Attribute e m apos) args [] pos) X.env = (do
      let ov ← eval e X.env
      standAt apos.atName
      let (f, first) ← holding [ov] (getMethod ov m pl)
      callWith pos f first (backTo pos (starEach args X.env)) (backToKw pos (keywordEach [] X.env)))) :
    wpAny (model X.prog X.w) X.A (eval (.Call (.Attribute e m apos) args [] pos) X.env) Q X.xe s := by
  refine PySem.W.methodCall_KW (pl := pl) (thn (he pins s σ H _ I h) fun u s1 ⟨x, H1, I1, rx, a, C, dx, fs, g, ex, ea, c, k, l, q⟩ => ?_) ht
  subst ex
  obtain rfl : u = Value.ref a := rx
  exact getmeth_ok I1 ea c k l (q s1 I1)
end
end L2
namespace L2
open PySem PySem.Spec PyProof.Rows
structure Room (k : Nat) (A : Around) : Prop where
  hd : A.handled = none
  dp : A.depth + 3 * k + 5 < recursionLimit
  un : A.units + 16 * k + 200 < cLine
theorem Room.mono {j k : Nat} {A : Around} (r : Room k A) (h : j ≤ k) : Room j A := ⟨r.hd, by have := r.dp; omega, by have := r.un; omega⟩
theorem Room.deeper {k : Nat} {A : Around} (r : Room (k + 1) A) (env : Env) : Room k (A.deeper env) :=
  ⟨r.hd, by have := r.dp; show A.depth + 1 + 3 * k + 5 < _; omega, by have := r.un; show A.units + 3 + 16 * k + 200 < _; omega⟩
theorem make_depth {A : Around} {C : Addr} {us : List Value} {kw : List (Str × Value)} : (A.under (.builtin "type.__call__" ⟨.ref C :: us, kw⟩)).depth = A.depth + 1 := by
  first | rfl | simp [Around.under, Code.weight, Code.isCreation, Code.isGuard, Code.isCaller, Code.frames, Code.isFrame, guardIds]
theorem make_units {A : Around} {C : Addr} {us : List Value} {kw : List (Str × Value)} : (A.under (.builtin "type.__call__" ⟨.ref C :: us, kw⟩)).units = A.units + 1 := by
  first | rfl | simp [Around.under, Code.cUnits, Code.frames, Code.isFrame]
theorem Room.make {k : Nat} {A : Around} (r : Room (k + 1) A) (C : Addr) (us : List Value) (kw : List (Str × Value)) : Room k (A.under (.builtin "type.__call__" ⟨.ref C :: us, kw⟩)) :=
  ⟨r.hd, by have := r.dp; rw [make_depth]; omega, by have := r.un; rw [make_units]; omega⟩
theorem Room.depth {k : Nat} {A : Around} (r : Room k A) : A.depth < recursionLimit := by have := r.dp; omega
theorem Room.units {k : Nat} {A : Around} (r : Room k A) : A.units + 64 < cLine := by have := r.un; omega
def tNil : TA := fun _ H Q => Q [] H
def tCons (ta : TE) (tr : TA) : TA := fun σ H Q => ta σ H fun x H1 => tr σ H1 fun xs H2 => Q (x :: xs) H2
section
variable {X : Cx} {e : Expr} {es : List Expr} {te : TE} {t : TA} {pos : Pos}
theorem pa_nil : PA X [] tNil := fun _ _ _ _ H Q I h => Calls.spliced_nil ⟨[], H, I, .nil, h⟩
theorem pa_cons (ha : PE X e te) (hr : PA X es t) (hs : starEach (e :: es) X.env = (false, eval e X.env) :: starEach es X.env := by rfl) : PA X (e :: es) (tCons te t) := by
  intro pos pins s σ H Q I h
  rw [hs]
  show wpAny _ _ (spliced ((false, eval e X.env) :: backTo pos (starEach es X.env))) _ _ s
  refine Calls.spliced_cons (thn (ha pins s σ H _ I h) fun u s1 ⟨x, H1, I1, r1, q1⟩ => ?_)
  exact thn (hr pos pins s1 σ H1 _ I1 q1) fun us s2 ⟨xs, H2, I2, r2, q2⟩ => ⟨x :: xs, H2, I2, .cons r1 r2, q2⟩
def tTup (t : TA) : TE := fun σ H Q => t σ H fun xs H1 => xs.length ≤ sizeLine ∧ ∀ p, H1 p = none → Q (.ref p) (upd H1 p (.tup xs))
def tLst (t : TA) : TE := fun σ H Q => t σ H fun xs H1 => xs.length ≤ sizeLine ∧ ∀ p, H1 p = none → Q (.ref p) (upd H1 p (.lst xs))
theorem pe_tup {x1} (h : PA X es t) : PE X (.Tuple es x1 pos) (tTup t) := by
  intro pins s σ H Q I hq
  refine wpAny_Tuple_spliced (thn (h pos pins s σ H _ I hq) fun us s1 ⟨xs, H1, I1, r, z, q⟩ => ⟨by rw [← r.length]; exact z, ?_⟩)
  have hf : H1 s1.heap.objs.size = none := I1.hok.fresh (Nat.le_refl _)
  refine ⟨.ref s1.heap.objs.size, upd H1 s1.heap.objs.size (.tup xs), I1.laid (t' := s1.toks) (fun b u e => Heap.get?_push_of_some _ e) (Nat.le_refl _) ?_, rfl, q _ hf⟩
  exact ⟨z, us, r, ⟨_, Heap.get?_push_size _ rfl, rfl, _, rfl⟩⟩
theorem pe_lst (h : PA X es t) : PE X (.List es pos) (tLst t) := by
  intro pins s σ H Q I hq
  refine wpAny_List_spliced (thn (h pos pins s σ H _ I hq) fun us s1 ⟨xs, H1, I1, r, z, q⟩ => ⟨by rw [← r.length]; exact z, ?_⟩)
  have hf : H1 s1.heap.objs.size = none := I1.hok.fresh (Nat.le_refl _)
  refine ⟨.ref s1.heap.objs.size, upd H1 s1.heap.objs.size (.lst xs), I1.laid (t' := s1.toks) (fun b u e => Heap.get?_push_of_some _ e) (Nat.le_refl _) ?_, rfl, q _ hf⟩
  exact ⟨z, us, 0, r, Heap.get?_push_size _ rfl⟩
end
abbrev Sp := List V → Hp → VK → XK → Prop
abbrev CXT := List Env → Hp → Shared → XK → Value → Shared → Prop
structure Env0 (P : Program) (w : World) (K : PySem.W.Frag) (mg : Str → Option Value) (base : Heap) (A : Around) (outer : List Env) (s : Shared) (H : Hp) : Prop where
  frames : A.frames = some outer
  mod : Mod K mg base
  bs : ∀ b o, base.get? b = some o → s.heap.get? b = some o ∧ H b = none
  bsz : base.objs.size ≤ s.heap.objs.size
  funs : s.heap.FunFrames base outer
  frf : ∀ b ∈ frs outer, H b = none
  hok : HOk P w H s.heap
  bare : AllBare s.gens
def CE (outer : List Env) (P : Program) (w : World) (H : Hp) (s : Shared) (Q : VK) (u : Value) (s' : Shared) : Prop :=
  ∃ v H', s'.os = s.os ∧ AllBare s'.gens ∧ Un (frs outer) [] H H' s.heap s'.heap ∧ HOk P w H' s'.heap ∧ RelV v u ∧ Q v H'
def CR (CX : CXT) (outer : List Env) (P : Program) (w : World) (H : Hp) (s : Shared) (Q : VK) (E : XK) (r : Result) (s' : Shared) : Prop :=
  match r with
  | .ok (.ret u) => CE outer P w H s Q u s'
  | .ok _ => False
  | .error e => CX outer H s E e s'
structure FnOk (P : Program) (w : World) (K : PySem.W.Frag) (mg : Str → Option Value) (base : Heap) (CX : CXT) (k : Nat) (f : Addr) (fd : FuncData) (ps : List Str) (sp : Sp) : Prop where
  len : ∀ vs H Q E, sp vs H Q E → vs.length = ps.length
  run : ∀ (A : Around) (outer : List Env) (s : Shared) (H : Hp) (args : Args) (us : List Value) (vs : List V) (Q : VK) (E : XK), Room k A → Env0 P w K mg base A outer s H → BindsTo s fd args (ps.zip us) → Vals vs us → sp vs H Q E →
    codeAny (model P w) A (.call (.ref f) args) (CR CX outer P w H s Q E) s
theorem FnOk.mono {P : Program} {w : World} {K : PySem.W.Frag} {mg : Str → Option Value} {base : Heap} {CX : CXT} {j k : Nat} {f : Addr} {fd : FuncData} {ps : List Str} {sp : Sp} (F : FnOk P w K mg base CX j f fd ps sp) (h : j ≤ k) :
    FnOk P w K mg base CX k f fd ps sp := ⟨F.len, fun A outer s H args us vs Q E hr => F.run A outer s H args us vs Q E (hr.mono h)⟩
theorem Env0.make {P : Program} {w : World} {K : PySem.W.Frag} {mg : Str → Option Value} {base : Heap} {A : Around} {outer : List Env} {s : Shared} {H : Hp} (e : Env0 P w K mg base A outer s H) (C : Addr) (us : List Value) (kw : List (Str × Value)) :
    Env0 P w K mg base (A.under (.builtin "type.__call__" ⟨.ref C :: us, kw⟩)) outer s H := ⟨by first | exact e.frames | (simpa [Around.under, Code.envs, Code.isFrame, pushEnvs] using e.frames), e.mod, e.bs, e.bsz, e.funs, e.frf, e.hok, e.bare⟩
section
variable {X : Cx} {pins : List (Addr × Obj)} {σ : St} {H : Hp} {s s' : Shared}
theorem Inv.env0 (I : Inv X pins σ H s) : Env0 X.prog X.w X.K X.mg X.base X.A X.stack s H :=
  ⟨I.ok.frames, I.ok.mod, I.bs, Nat.le_trans I.ok.bsz I.sz, I.stack, I.stkFree, I.hok, I.bare⟩
theorem Inv.after {Q : VK} {u : Value} (I : Inv X pins σ H s) (h : CE X.stack X.prog X.w H s Q u s') : EP X pins σ Q u s' := by
  obtain ⟨v, H', os, bare, un, hok, r, q⟩ := h
  obtain ⟨hh, g, d, t, os'⟩ := s'
  obtain rfl : os' = s.os := os
  exact ⟨v, H', I.call (h' := hh) (g' := g) (d' := d) (t' := t) (ch := []) un hok bare (fun b z => absurd z (by simp)), r, q⟩
end
def tCall (sp : Sp) (dvs : List V) (E : XK) (t : TA) : TE := fun σ H Q => t σ H fun vs H1 => sp (vs ++ dvs) H1 Q E
def tMeth (C : Addr) (m : Str) (sp : Sp) (dvs : List V) (E : XK) (ta : TE) (t : TA) : TE := fun σ H Q => ta σ H fun x H1 => ∃ a dx fs, x = .ref a ∧ H1 a = some (.ins C dx fs) ∧ fs.lookup m = none ∧
  t σ H1 fun vs H2 => sp (x :: (vs ++ dvs)) H2 Q E
def tMake (C : Addr) (sp : Sp) (dvs : List V) (E : XK) (t : TA) : TE := fun σ H Q => t σ H fun vs H1 => ∀ x dx, H1 x = none → H1 dx = none → dx ≠ x →
  sp (.ref x :: (vs ++ dvs)) (upd (upd H1 dx (.own x)) x (.ins C dx [])) (fun v H2 => v = .non ∧ Q (.ref x) H2) E
def Binds (K : PySem.W.Frag) (fd : FuncData) (ps : List Str) (ds : List Value) : Prop :=
  ∀ (s : Shared) (us : List Value), K.In s.heap → (us ++ ds).length = ps.length → BindsTo s fd ⟨us, []⟩ (ps.zip (us ++ ds))
theorem Binds.all {K : PySem.W.Frag} {fd : FuncData} {ps : List Str} (h : ∀ us : List Value, us.length = ps.length → bindArgs fd ⟨us, []⟩ = pure (ps.zip us)) : Binds K fd ps [] := fun s us _ hl => by
  rw [List.append_nil] at hl ⊢
  exact .of_eq (h us hl)
def Passes (CX : CXT) (X : Cx) (E : XK) : Prop := ∀ (pins : List (Addr × Obj)) (σ : St) (H : Hp) (s : Shared) (e : Value) (s' : Shared), Inv X pins σ H s → CX X.stack H s E e s' → X.xe e s'
section
variable {X : Cx} {CX : CXT} {k : Nat} {f C : Addr} {fd : FuncData} {ps : List Str} {sp : Sp} {dvs : List V} {ds : List Value} {E : XK} {x m : Str} {p pos apos : Pos} {e o : Expr} {es : List Expr} {ta : TE} {t : TA}
theorem run_fn {pins : List (Addr × Obj)} {σ : St} {H : Hp} {s : Shared} {Q : VK} {us : List Value} {vs : List V} (F : FnOk X.prog X.w X.K X.mg X.base CX k f fd ps sp) (hr : Room k X.A) (hb : Binds X.K fd ps ds) (hd : Vals dvs ds) (hx : Passes CX X E)
    (I : Inv X pins σ H s) (r : Vals vs us) (h : sp (vs ++ dvs) H Q E) : wpAny (model X.prog X.w) X.A (call (.ref f) us) (EP X pins σ Q) X.xe s := by
  have r2 : Vals (vs ++ dvs) (us ++ ds) := r.append hd
  have hl : (us ++ ds).length = ps.length := by rw [← r2.length]; exact F.len _ _ _ _ h
  refine wpAny_call (codeAny_mono (F.run X.A X.stack s H ⟨us, []⟩ (us ++ ds) (vs ++ dvs) Q E hr I.env0 (hb s us I.kIn hl) r2 h) fun r s' hq => ?_)
  cases r with
  | error e => exact hx pins σ H s e s' I hq
  | ok fl =>
    cases fl with
    | ret u => exact I.after hq
    | next => exact False.elim hq
    | brk => exact False.elim hq
    | cont => exact False.elim hq
theorem pe_call (F : FnOk X.prog X.w X.K X.mg X.base CX k f fd ps sp) (hr : Room k X.A) (hg : Gl X x) (hm : X.mg x = some (.ref f)) (hk : PySem.W.keepIn X.K (.ref f) = true) (hb : Binds X.K fd ps ds) (hd : Vals dvs ds) (hx : Passes CX X E)
    (ha : PA X (e :: es) t) (hdb : (x == ("__debug__" : Str)) = false := by decide) (he : starEach (e :: es) X.env = (false, eval e X.env) :: starEach es X.env := by rfl) (hpl : (backTo pos (starEach es X.env)).any (·.1) = false := by rfl) :
    PE X (.Call (.Name x p) (e :: es) [] pos) (tCall sp dvs E t) := by
  intro pins s σ H Q I h
  refine wpAny_Call_Name_kw (ld_glob I hg hm ?_ hdb)
  refine PySem.W.callWith_K (h₀ := X.base) I.ok.mod.kin hk (thn (ha pos pins s σ H _ I h) fun us s1 ⟨vs, H1, I1, r, q⟩ => ⟨I1.kIn, ?_⟩) he hpl
  exact run_fn F hr hb hd hx I1 r q
theorem pe_meth {pl : Sem Bool} (he : PE X o ta) (c : Cls X.K C) (hm : Meth X.K C m f) (F : FnOk X.prog X.w X.K X.mg X.base CX k f fd ps sp) (hr : Room k X.A) (hb : Binds X.K fd ps ds) (hd : Vals dvs ds) (hx : Passes CX X E) (ha : PA X (e :: es) t)
    (hst : starEach (e :: es) X.env = (false, eval e X.env) :: starEach es X.env := by rfl) (hpl : (backTo pos (starEach es X.env)).any (·.1) = false := by rfl)
    (ht : eval (.Call (.Attribute o m apos) (e :: es) [] pos) X.env = (do
      let ov ← eval o X.env
      standAt apos.atName
      let (f, first) ← holding [ov] (getMethod ov m pl)
      callWith pos f first (backTo pos (starEach (e :: es) X.env)) (backToKw pos (keywordEach [] X.env))) := by rfl) :
    PE X (.Call (.Attribute o m apos) (e :: es) [] pos) (tMeth C m sp dvs E ta t) := by
  intro pins s σ H Q I h
  refine PySem.W.methodCall_KW (pl := pl) (thn (he pins s σ H _ I h) fun u s1 ⟨x, H1, I1, rx, a, dx, fs, ex, ea, l, q⟩ => ?_) ht
  subst ex
  obtain rfl : u = Value.ref a := rx
  refine getmeth_ok I1 ea c hm l ?_
  refine PySem.W.callWith_K (first := [.ref a]) (h₀ := X.base) I.ok.mod.kin hm.kp (thn (ha pos pins s1 σ H1 _ I1 q) fun us s2 ⟨vs, H2, I2, r, q2⟩ => ⟨I2.kIn, ?_⟩) hst hpl
  exact run_fn (us := .ref a :: us) (vs := .ref a :: vs) F hr hb hd hx I2 (.cons rfl r) q2
theorem pe_meth0 {pl : Sem Bool} (he : PE X o ta) (c : Cls X.K C) (hm : Meth X.K C m f) (F : FnOk X.prog X.w X.K X.mg X.base CX k f fd ps sp) (hr : Room k X.A) (hb : Binds X.K fd ps ds) (hd : Vals dvs ds) (hx : Passes CX X E)
    (ht : eval (.Call (.Attribute o m apos) [] [] pos) X.env = (do
      let ov ← eval o X.env
      standAt apos.atName
      let (f, first) ← holding [ov] (getMethod ov m pl)
      callWith pos f first (backTo pos (starEach [] X.env)) (backToKw pos (keywordEach [] X.env))) := by rfl) :
    PE X (.Call (.Attribute o m apos) [] [] pos) (tMeth C m sp dvs E ta tNil) := by
  intro pins s σ H Q I h
  refine PySem.W.methodCall_KW (pl := pl) (thn (he pins s σ H _ I h) fun u s1 ⟨x, H1, I1, rx, a, dx, fs, ex, ea, l, q⟩ => ?_) ht
  subst ex
  obtain rfl : u = Value.ref a := rx
  refine getmeth_ok I1 ea c hm l ?_
  exact PySem.W.callWith_K0 (first := [.ref a]) I1.kIn hm.kp (run_fn (us := [.ref a]) (vs := [.ref a]) F hr hb hd hx I1 (.cons rfl .nil) q)
structure Mk (K : PySem.W.Frag) (C f : Addr) : Prop where
  makes : PySem.W.makesIn K C = true
  init : PySem.W.findIn K (.ref C) "__init__" = some (some (.ref f))
  fn : PySem.W.isFn K (.ref f) = true
  kp : PySem.W.keepIn K (.ref C) = true
theorem run_make {pins : List (Addr × Obj)} {σ : St} {H : Hp} {s : Shared} {Q : VK} {us : List Value} {vs : List V} (M : Mk X.K C f) (F : FnOk X.prog X.w X.K X.mg X.base CX k f fd ps sp) (hr : Room (k + 1) X.A) (hb : Binds X.K fd ps ds) (hd : Vals dvs ds)
    (hx : Passes CX X E) (I : Inv X pins σ H s) (r : Vals vs us)
    (h : ∀ x dx, H x = none → H dx = none → dx ≠ x → sp (.ref x :: (vs ++ dvs)) (upd (upd H dx (.own x)) x (.ins C dx [])) (fun v H2 => v = .non ∧ Q (.ref x) H2) E) :
    wpAny (model X.prog X.w) X.A (call (.ref C) us) (EP X pins σ Q) X.xe s := by
  have hq := h (s.heap.objs.size + 1) s.heap.objs.size (I.hok.fresh (Nat.le_succ _)) (I.hok.fresh (Nat.le_refl _)) (Nat.ne_of_lt (Nat.lt_succ_self _))
  have I2 := Inv.made (C := C) I
  have r2 : Vals (V.ref (s.heap.objs.size + 1) :: (vs ++ dvs)) (Value.ref (s.heap.objs.size + 1) :: (us ++ ds)) := .cons rfl (r.append hd)
  have hl : (Value.ref (s.heap.objs.size + 1) :: us ++ ds).length = ps.length := by
    have e := r2.length
    rw [F.len _ _ _ _ hq] at e
    exact e.symm
  refine wpAny_call (make_map (f := f) I.kIn M.makes M.init (beq_iff_eq.mp M.fn) (codeAny_mono (F.run _ X.stack _ _ ⟨Value.ref (s.heap.objs.size + 1) :: us, []⟩ (Value.ref (s.heap.objs.size + 1) :: (us ++ ds)) _ _ E (hr.make C us [])
    (I2.env0.make C us []) (hb _ (Value.ref (s.heap.objs.size + 1) :: us) I2.kIn hl) r2 hq) fun r s' hq' => ?_))
  cases r with
  | error e => exact hx pins σ _ _ e s' I2 hq'
  | ok fl =>
    cases fl with
    | ret u =>
      obtain ⟨v, H', I3, rv, ev, q3⟩ := I2.after hq'
      subst ev
      exact ⟨rv, ⟨V.ref (s.heap.objs.size + 1), H', I3, rfl, q3⟩⟩
    | next => exact False.elim hq'
    | brk => exact False.elim hq'
    | cont => exact False.elim hq'
theorem pe_make (M : Mk X.K C f) (F : FnOk X.prog X.w X.K X.mg X.base CX k f fd ps sp) (hr : Room (k + 1) X.A) (hg : Gl X x) (hm : X.mg x = some (.ref C)) (hb : Binds X.K fd ps ds) (hd : Vals dvs ds) (hx : Passes CX X E)
    (ha : PA X (e :: es) t) (hdb : (x == ("__debug__" : Str)) = false := by decide) (he : starEach (e :: es) X.env = (false, eval e X.env) :: starEach es X.env := by rfl) (hpl : (backTo pos (starEach es X.env)).any (·.1) = false := by rfl) :
    PE X (.Call (.Name x p) (e :: es) [] pos) (tMake C sp dvs E t) := by
  intro pins s σ H Q I h
  refine wpAny_Call_Name_kw (ld_glob I hg hm ?_ hdb)
  refine PySem.W.callWith_K (h₀ := X.base) I.ok.mod.kin M.kp (thn (ha pos pins s σ H _ I h) fun us s1 ⟨vs, H1, I1, r, q⟩ => ⟨I1.kIn, ?_⟩) he hpl
  exact run_make M F hr hb hd hx I1 r q
theorem pe_make0 (M : Mk X.K C f) (F : FnOk X.prog X.w X.K X.mg X.base CX k f fd ps sp) (hr : Room (k + 1) X.A) (hg : Gl X x) (hm : X.mg x = some (.ref C)) (hb : Binds X.K fd ps ds) (hd : Vals dvs ds) (hx : Passes CX X E)
    (hdb : (x == ("__debug__" : Str)) = false := by decide) : PE X (.Call (.Name x p) [] [] pos) (tMake C sp dvs E tNil) := by
  intro pins s σ H Q I h
  refine wpAny_Call_Name_kw (ld_glob I hg hm ?_ hdb)
  exact PySem.W.callWith_K0 I.kIn M.kp (run_make (us := []) M F hr hb hd hx I .nil h)
end
def PK (X : Cx) (kws : List Keyword) (t : TA) : Prop :=
  ∀ (pos : Pos) (pins : List (Addr × Obj)) (s : Shared) (σ : St) (H : Hp) (Q : List V → Hp → Prop), Inv X pins σ H s → t σ H Q → wpAny (model X.prog X.w) X.A (evalAll ((backToKw pos (keywordEach kws X.env)).map (·.2))) (AP X pins σ Q) X.xe s
section
variable {X : Cx} {CX : CXT} {k : Nat} {f C : Addr} {fd : FuncData} {ps ks : List Str} {sp : Sp} {E : XK} {x m : Str} {p pos apos kpos : Pos} {e o : Expr} {es : List Expr} {kws : List Keyword} {te ta : TE} {t tk : TA} {nm : Option Str}
theorem pk_cons (ha : PE X e te) (hr : PK X kws t) : PK X (⟨nm, e, kpos⟩ :: kws) (tCons te t) := by
  intro pos pins s σ H Q I h
  show wpAny _ _ (evalAll ((do let v ← eval e X.env; standAt pos; pure v) :: (backToKw pos (keywordEach kws X.env)).map (·.2))) _ _ s
  refine wpAny_evalAll_cons (wpAny_bind (thn (ha pins s σ H _ I h) fun u s1 ⟨x, H1, I1, r1, q1⟩ => wpAny_bind (wpAny_standAt (wpAny_pure ?_))))
  exact thn (hr pos pins s1 σ H1 _ I1 q1) fun us s2 ⟨xs, H2, I2, r2, q2⟩ => ⟨x :: xs, H2, I2, .cons r1 r2, q2⟩
variable {g : List Value → List Value → List Value} {gV : List V → List V → List V}
end
structure FnScope (N P : List Str) (sc : Scope) : Prop where
  kind : sc.kind = .function
  co : sc.isCoroutine = false
  gen : sc.isGenerator = false
  nd : N.Nodup
  pre : N.take P.length = P
  par : ∀ x ∈ P, sc.names.lookup x = some .local ∨ sc.names.lookup x = some .cell
  nofree : ∀ y ∈ sc.names, y.2 ≠ .free
theorem bindL_out {kindOf : Str → Option NameKind} {x : Str} : ∀ {binds : List (Str × Value)} {m : Str → Option Value}, (∀ v, (x, v) ∉ binds) → bindL kindOf binds m x = m x
  | [], _, _ => rfl
  | (n, v) :: r, m, h => by
    unfold bindL
    rw [bindL_out fun w hw => h w (List.mem_cons_of_mem _ hw)]
    split
    · have : x ≠ n := by rintro rfl; exact h v List.mem_cons_self
      simp [this]
    · rfl
theorem bindC_out {kindOf : Str → Option NameKind} {x : Str} : ∀ {binds : List (Str × Value)} {m : Str → Option Value}, (∀ v, (x, v) ∉ binds) → bindC kindOf binds m x = m x
  | [], _, _ => rfl
  | (n, v) :: r, m, h => by
    unfold bindC
    rw [bindC_out fun w hw => h w (List.mem_cons_of_mem _ hw)]
    split
    · rfl
    · have : x ≠ n := by rintro rfl; exact h v List.mem_cons_self
      simp [this]
theorem bindL_get {kindOf : Str → Option NameKind} {x : Str} {v : Value} : ∀ {P : List Str} {vs : List Value} {i : Nat} {m : Str → Option Value}, P.Nodup → P[i]? = some x → vs[i]? = some v → kindOf x = some .local →
    bindL kindOf (P.zip vs) m x = some v
  | [], _, _, _, _, h, _, _ => by simp at h
  | _ :: _, [], _, _, _, _, h, _ => by simp at h
  | p :: P, w :: vs, 0, m, nd, h1, h2, hk => by
    simp at h1 h2; subst h1; subst h2
    show bindL kindOf ((p, w) :: P.zip vs) m p = _
    unfold bindL
    rw [bindL_out fun v hv => (List.nodup_cons.mp nd).1 (List.of_mem_zip hv).1, if_pos hk]
    simp
  | p :: P, w :: vs, i + 1, m, nd, h1, h2, hk => by
    show bindL kindOf ((p, w) :: P.zip vs) m x = _
    unfold bindL
    exact bindL_get (i := i) (List.nodup_cons.mp nd).2 (by simpa using h1) (by simpa using h2) hk
theorem bindC_get {kindOf : Str → Option NameKind} {x : Str} {v : Value} : ∀ {P : List Str} {vs : List Value} {i : Nat} {m : Str → Option Value}, P.Nodup → P[i]? = some x → vs[i]? = some v → kindOf x ≠ some .local →
    bindC kindOf (P.zip vs) m x = some v
  | [], _, _, _, _, h, _, _ => by simp at h
  | _ :: _, [], _, _, _, _, h, _ => by simp at h
  | p :: P, w :: vs, 0, m, nd, h1, h2, hk => by
    simp at h1 h2; subst h1; subst h2
    show bindC kindOf ((p, w) :: P.zip vs) m p = _
    unfold bindC
    rw [bindC_out fun v hv => (List.nodup_cons.mp nd).1 (List.of_mem_zip hv).1, if_neg hk]
    simp
  | p :: P, w :: vs, i + 1, m, nd, h1, h2, hk => by
    show bindC kindOf ((p, w) :: P.zip vs) m x = _
    unfold bindC
    exact bindC_get (i := i) (List.nodup_cons.mp nd).2 (by simpa using h1) (by simpa using h2) hk
def start (N : List Str) (vs : List V) : St := vs.map some ++ List.replicate (N.length - vs.length) none
def cxOf (CX : CXT) (P : Program) (w : World) (K : PySem.W.Frag) (mg : Str → Option Value) (base : Heap) (N : List Str) (qual : Str) (scope : Scope) (f : Addr) (cd : Value) (A : Around) (outer : List Env) (s : Shared) (H : Hp) (E : XK) : Cx where
  prog := P
  w := w
  K := K
  mg := mg
  base := base
  A := A.deeper (envOfC qual scope s.heap.objs.size f cd)
  N := N
  s_0 := s
  H_0 := H
  env := envOfC qual scope s.heap.objs.size f cd
  outer := outer
  stack := envOfC qual scope s.heap.objs.size f cd :: outer
  ex := []
  calm := true
  fn := fun _ => true
  pn := []
  xe := fun e s' => wpAny (model P w) (A.deeper (envOfC qual scope s.heap.objs.size f cd)) (leaving (envOfC qual scope s.heap.objs.size f cd) e) (fun _ s'' => CX outer H s E e s'') (fun e' s'' => CX outer H s E e' s'') s'
theorem cell_has {sc : Scope} {n : Nat} {x : Str} (h : sc.names.lookup x = some .cell) : ∃ c, (cellsFrom n sc.names []).lookup x = some c := by
  have q := PySem.W.cellsFrom_some sc.names n [] (.inl h)
  exact Option.isSome_iff_exists.mp q
theorem inv_start {CX : CXT} {P : Program} {w : World} {K : PySem.W.Frag} {mg : Str → Option Value} {base : Heap} {N ps : List Str} {qual : Str} {scope : Scope} {f : Addr} {cd : Value} {A : Around} {outer : List Env} {s s1 : Shared} {H : Hp} {E : XK} {us : List Value} {vs : List V}
    (S : FnScope N ps scope) (hd : A.handled = none) (e0 : Env0 P w K mg base A outer s H) (hl : vs.length = ps.length) (r : Vals vs us)
    (x : InCallC s s.heap.objs.size (bindL (envOfC qual scope s.heap.objs.size f cd).kindOf (ps.zip us) fun _ => none) (cellsFrom (s.heap.objs.size + 1) scope.names []) (bindC (envOfC qual scope s.heap.objs.size f cd).kindOf (ps.zip us) fun _ => none) s1) :
    Inv (cxOf CX P w K mg base N qual scope f cd A outer s H E) [] (start N vs) H s1 := by
  have hpl : ps.length ≤ N.length := by have := congrArg List.length S.pre; rw [List.length_take] at this; omega
  obtain ⟨h1, tk, rfl, hk⟩ := x.done
  have noA : ∀ b : Addr, b ∉ (cxOf CX P w K mg base N qual scope f cd A outer s H E).ex := fun b z => absurd (show b ∈ ([] : List Addr) from z) (by simp)
  refine ⟨⟨e0.mod, S.kind, rfl, rfl, Nat.le_refl _, fun y z c h1 h2 => ?_, fun y hy => ?_, fun y c _ h => ?_, fun _ => hd, Around.frames_deeper e0.frames, .inr ⟨rfl, rfl⟩, fun b z => absurd z (noA b), e0.bs, e0.bsz, fun b _ _ => noA b, fun b z => absurd z (noA b), e0.funs, e0.frf⟩,
    rfl, e0.bare, Un.kept hk, ⟨_, x.toInCall.ns, fun i y v h1 h2 h3 => ?_⟩, fun y c h => ⟨_, x.cell y c h⟩, e0.hok.fresh (Nat.le_refl _), fun y c h => ?_, fun p hp => absurd (show p ∈ ([] : List (Addr × Obj)) from hp) (by simp), e0.hok.kept hk, ?_⟩
  · exact name_of_addr x.apart (PySem.mem_of_lookup h1) (PySem.mem_of_lookup h2)
  · have hy : scope.names.lookup y = some .cell ∨ scope.names.lookup y = some .free := hy
    rcases hy with hy | hy
    · exact cell_has hy
    · exact absurd rfl (S.nofree _ (PySem.mem_of_lookup hy))
  · exact Nat.le_of_lt (x.above y c (PySem.mem_of_lookup h))
  · have hi : i < vs.length := by
      unfold start at h2
      by_cases hi : i < vs.length
      · exact hi
      · rw [List.getElem?_append_right (by simpa using hi)] at h2
        rw [List.getElem?_replicate] at h2
        split at h2 <;> cases h2
    have ha : vs[i]? = some v := by
      unfold start at h2
      rw [List.getElem?_append_left (by simpa using hi), List.getElem?_map] at h2
      cases e : vs[i]? with
      | none => rw [e] at h2; cases h2
      | some a => rw [e] at h2; cases h2; rfl
    obtain ⟨u, hu, rv⟩ := r.get ha
    have hp : ps[i]? = some y := by
      rw [← S.pre, List.getElem?_take_of_lt (by omega)]; exact h1
    have ndP : ps.Nodup := by rw [← S.pre]; exact S.nd.sublist (List.take_sublist _ _)
    refine ⟨u, rv, ?_⟩
    rcases S.par y (List.mem_of_getElem? hp) with k | k
    · exact .inl ⟨k, bindL_get ndP hp hu k⟩
    · obtain ⟨c, e⟩ := cell_has (n := s.heap.objs.size + 1) k
      refine .inr ⟨.inl k, c, e, ?_⟩
      have q := x.cell y c e
      rw [bindC_get ndP hp hu (by show scope.names.lookup y ≠ _; rw [k]; decide)] at q
      exact q
  · exact e0.hok.fresh (Nat.le_of_lt (x.above y c (PySem.mem_of_lookup h)))
  · unfold start
    show _ = N.length
    rw [List.length_append, List.length_map, List.length_replicate]
    omega
theorem fn_of {CX : CXT} {P : Program} {w : World} {K : PySem.W.Frag} {mg : Str → Option Value} {base : Heap} {k : Nat} {f : Addr} {name qual : Str} {params : Arguments} {body : List Stmt} {scope : Scope} {dV kV doc pm cdv ct oc : Value} {an od : Option Addr}
    {osl : Array (Option Value)} {N ps : List Str} {sp : Sp} (lk : K.lookup f = some ⟨oc, od, .func (PySem.W.fnOf name qual params body scope dV kV doc pm an cdv ct), osl⟩) (hcd : PySem.W.codeIn K cdv qual = true) (S : FnScope N ps scope)
    (len : ∀ vs H Q E, sp vs H Q E → vs.length = ps.length)
    (hbody : ∀ (A : Around) (outer : List Env) (s : Shared) (H : Hp) (vs : List V) (Q : VK) (E : XK), Room k (A.deeper (envOfC qual scope s.heap.objs.size f cdv)) → sp vs H Q E →
      ∃ t, PSs (cxOf CX P w K mg base N qual scope f cdv A outer s H E) body t ∧ t { nx := fun _ H' => Q .non H', rt := Q } (start N vs) H) :
    FnOk P w K mg base CX (k + 1) f (PySem.W.fnOf name qual params body scope dV kV doc pm an cdv ct) ps sp := by
  refine ⟨len, fun A outer s H args us vs Q E hr e0 hb r hsp => ?_⟩
  have hl := len _ _ _ _ hsp
  have KX : K.In s.heap := e0.mod.kin.keeps fun b o e => (e0.bs b o e).1
  have lim : s.heap.NoLimit := e0.mod.nolimit.keeps fun b o e => (e0.bs b o e).1
  have hkind : ∀ y ∈ ps.zip us, scope.names.lookup y.1 = some .local ∨ (scope.names.lookup y.1 = some .cell ∧ ((cellsFrom (s.heap.objs.size + 1) scope.names []).lookup y.1).isSome = true) := fun ⟨n, v⟩ hy => by
    rcases S.par n (List.of_mem_zip hy).1 with q | q
    · exact .inl q
    · exact .inr ⟨q, PySem.W.cellsFrom_some _ _ _ (.inl q)⟩
  refine codeAny_call_function hr.depth (KX _ _ lk) rfl S.co S.gen rfl (PySem.W.codeRec_of KX hcd) (hb _ _ _ _ ?_)
  refine wpAny_newFunctionEnv_cells S.kind hkind fun env he s1 x => ?_
  subst he
  refine ⟨lim.keeps x.toInCall.keep, codeAny_func ?_⟩
  obtain ⟨t, ht, hq⟩ := hbody A outer s H vs Q E (hr.deeper _) hsp
  have I : Inv (cxOf CX P w K mg base N qual scope f cdv A outer s H E) [] (start N vs) H s1 := inv_start S hr.hd e0 hl r x
  refine wpAny_mono (ht [] s1 (start N vs) H _ I hq) (fun fl s' hs => ?_) fun e s' hs => hs
  have fin : ∀ {σ' : St} {H' : Hp} {v : V} {u : Value}, Inv (cxOf CX P w K mg base N qual scope f cdv A outer s H E) [] σ' H' s' → RelV v u → Q v H' → CE outer P w H s Q u s' :=
    fun {σ' H' v u} J rv q => ⟨v, H', J.os, J.bare, J.base, J.hok, rv, q⟩
  cases fl with
  | ret u =>
    obtain ⟨v, σ', H', J, rv, q⟩ := hs
    exact fin J rv q
  | next =>
    obtain ⟨σ', H', J, q⟩ := hs
    exact fin (v := V.non) (u := Value.none) J rfl q
  | brk =>
    obtain ⟨_, _, _, q⟩ := hs
    exact False.elim q
  | cont =>
    obtain ⟨_, _, _, q⟩ := hs
    exact False.elim q
end L2
namespace L2
open PySem PySem.Spec PyProof.Rows
section
variable {X : Cx} {x : Str} {p pos : Pos} {e : Expr} {es : List Expr} {t : TA} {id T : String} {r : List V → Hp → VK → Prop}
def tCB (r : List V → Hp → VK → Prop) (t : TA) : TE := fun σ H Q => t σ H fun vs H1 => r vs H1 Q
theorem pe_callB (hc : CallR X (.builtin id) r) (hg : Gl X x) (hm : X.mg x = none) (hv : bootBuiltins x = some (.builtin id)) (ha : PA X (e :: es) t) (hn : x ≠ "__name__" := by decide) (hdb : (x == ("__debug__" : Str)) = false := by decide)
    (he : starEach (e :: es) X.env = (false, eval e X.env) :: starEach es X.env := by rfl) (hpl : (backTo pos (starEach es X.env)).any (·.1) = false := by rfl) : PE X (.Call (.Name x p) (e :: es) [] pos) (tCB r t) := by
  intro pins s σ H Q I h
  refine wpAny_Call_Name_kw (ld_blt I hg hm hv ?_ hn hdb)
  exact PyProof.Rows.callWith_builtin1 (thn (ha pos pins s σ H _ I h) fun us s1 ⟨vs, H1, I1, r1, q1⟩ => hc pins s1 σ H1 vs us Q I1 r1 q1) he hpl
theorem pe_callTy (hc : CallR X (.type T) r) (hg : Gl X x) (hm : X.mg x = none) (hv : bootBuiltins x = some (.type T)) (ha : PA X (e :: es) t) (hn : x ≠ "__name__" := by decide) (hdb : (x == ("__debug__" : Str)) = false := by decide)
    (he : starEach (e :: es) X.env = (false, eval e X.env) :: starEach es X.env := by rfl) (hpl : (backTo pos (starEach es X.env)).any (·.1) = false := by rfl) : PE X (.Call (.Name x p) (e :: es) [] pos) (tCB r t) := by
  intro pins s σ H Q I h
  refine wpAny_Call_Name_kw (ld_blt I hg hm hv ?_ hn hdb)
  exact PyProof.Rows.callWith_type1 (thn (ha pos pins s σ H _ I h) fun us s1 ⟨vs, H1, I1, r1, q1⟩ => hc pins s1 σ H1 vs us Q I1 r1 q1) he hpl
end
end L2
namespace HT
open PySem PyProof.Rows
section
open PySem.SeqAt
open PySem.AutoSeq1 (wpAny_loadPart')
open PySem.MeetsSeq PySem.MeetsSeq2 PySem.MeetsSeq3
end
section
variable {prog : Program} {w : World} {A : Around} {E : Value → Shared → Prop} {s : Shared}
def sIx (n d : Nat) : Option Int → Nat
  | none => d
  | some v => if v < 0 then (v + (n : Int)).toNat else min v.toNat n
theorem sIx_le (n d : Nat) (hd : d ≤ n) (o : Option Int) : sIx n d o ≤ n := by
  cases o with
  | none => exact hd
  | some v =>
    show (if v < 0 then (v + (n : Int)).toNat else min v.toNat n) ≤ n
    by_cases hv : v < 0
    · rw [if_pos hv]; omega
    · rw [if_neg hv]; exact Nat.min_le_right _ _
theorem clip_eq (v : Int) (n d : Nat) : (if v < 0 then max (v + (n : Int)) 0 else min v (n : Int)) = ((sIx n d (some v) : Nat) : Int) := by
  show (if v < 0 then max (v + (n : Int)) 0 else min v (n : Int)) = (((if v < 0 then (v + (n : Int)).toNat else min v.toNat n) : Nat) : Int)
  by_cases hv : v < 0
  · simp only [if_pos hv]; omega
  · simp only [if_neg hv]; omega
theorem adjust_gen (lo hi : Option Int) (n : Nat) : Builtin.Slice.sliceAdjust lo hi 1 (n : Int) = (((sIx n 0 lo : Nat) : Int), ((sIx n n hi : Nat) : Int)) := by
  have h1 : ¬ ((1 : Int) < 0) := by omega
  unfold Builtin.Slice.sliceAdjust
  simp only [h1, if_false]
  refine Prod.ext ?_ ?_
  · cases lo with
    | none => rfl
    | some v => exact clip_eq v n 0
  · cases hi with
    | none => rfl
    | some v => exact clip_eq v n n
theorem places_gen (i j : Nat) : Builtin.Slice.slicePlaces (i : Int) (j : Int) 1 = j - i := by
  unfold Builtin.Slice.slicePlaces
  have h1 : (1 : Int) > 0 := by omega
  simp only [h1, if_true, Int.ediv_one]
  split <;> omega
theorem slicePart_ {v : Value} {o : Option Int} {Q : Option Int → Shared → Prop} (p : IsPart v o) (h : Q o s) : wpAny (model prog w) A (Builtin.Slice.slicePartIndex v) Q E s := by
  cases p with
  | none => exact slicePart_none h
  | int i t => exact slicePart_int h
theorem sliceApplied_gen {sl : Addr} {vl vu : Value} {lo hi : Option Int} {n : Nat} {Q : Int × Int × Nat → Shared → Prop} (hs : s.heap.IsSliceOf sl vl vu .none) (pl : IsPart vl lo) (pu : IsPart vu hi)
    (h : Q (((sIx n 0 lo : Nat) : Int), 1, sIx n n hi - sIx n 0 lo) s) : wpAny (model prog w) A (Builtin.Slice.sliceApplied (.ref sl) (pure (n : Int))) Q E s := by
  obtain ⟨os, hos, hcs, hds⟩ := id hs
  unfold Builtin.Slice.sliceApplied Builtin.Slice.sliceFields
  refine wpAny_bind (wpAny_bind (wpAny_field hos hds (x := vl) rfl (wpAny_bind (wpAny_field hos hds (x := vu) rfl (wpAny_bind (wpAny_field hos hds (x := .none) rfl (wpAny_pure ?_)))))))
  refine wpAny_bind (slicePart_none ?_)
  show wpAny _ _ (if ((1 : Int) == 0) = true then _ else _) _ _ s
  rw [if_neg (by decide)]
  refine wpAny_bind (slicePart_ pl (wpAny_bind (slicePart_ pu (wpAny_bind (wpAny_pure ?_)))))
  show wpAny _ _ (match Builtin.Slice.sliceAdjust lo hi 1 (n : Int) with | (lo, hi) => pure (lo, (1 : Int), Builtin.Slice.slicePlaces lo hi 1)) _ _ s
  rw [adjust_gen lo hi n]
  show wpAny _ _ (pure (((sIx n 0 lo : Nat) : Int), (1 : Int), Builtin.Slice.slicePlaces ((sIx n 0 lo : Nat) : Int) ((sIx n n hi : Nat) : Int) 1)) _ _ s
  rw [places_gen]
  exact wpAny_pure h
theorem pick_gen (xs : Array Value) (i k : Nat) : ((List.range k).filterMap fun (m : Nat) => xs[((i : Int) + (m : Int) * 1).toNat]?).toArray = ((xs.toList.drop i).take k).toArray := by
  have e : (fun (m : Nat) => xs[((i : Int) + (m : Int) * 1).toNat]?) = fun m => xs[i + m]? := by
    funext m
    have : ((i : Int) + (m : Int) * 1).toNat = i + m := by omega
    rw [this]
  rw [e]
  have := pick_run xs i k
  rw [List.filterMap_map] at this
  have e2 : ((fun x => xs[x]?) ∘ fun x => i + x) = fun m => xs[i + m]? := rfl
  rw [e2] at this
  rw [this]
theorem getItem_tuple_cut {t sl : Addr} {items : Array Value} {vl vu : Value} {lo hi : Option Int} {Q : Value → Shared → Prop} (ht : IsTup s.heap t items) (hs : s.heap.IsSliceOf sl vl vu .none) (pl : IsPart vl lo) (pu : IsPart vu hi)
    (hw : ¬ (sIx items.size 0 lo = 0 ∧ sIx items.size items.size hi = items.size))
    (h : Q (.ref s.heap.objs.size) { s with heap := s.heap.push { cls := .type "tuple", data := .seq ((items.toList.drop (sIx items.size 0 lo)).take (sIx items.size items.size hi - sIx items.size 0 lo)).toArray } })
    (hsz : items.size ≤ sizeLine) : wpAny (model prog w) A (getItem (.ref t) (.ref sl)) Q E s := by
  have htake : sizeOk (.seq ((items.toList.drop (sIx items.size 0 lo)).take (sIx items.size items.size hi - sIx items.size 0 lo)).toArray) := by
    show ((items.toList.drop (sIx items.size 0 lo)).take (sIx items.size items.size hi - sIx items.size 0 lo)).toArray.size ≤ sizeLine
    rw [List.size_toArray, List.length_take, List.length_drop, Array.length_toList]
    omega
  have hj : sIx items.size items.size hi ≤ items.size := sIx_le _ _ (Nat.le_refl _) hi
  obtain ⟨os, hos, hcs, hds⟩ := id hs
  have hTs : s.TypeIs (.ref sl) "slice" := ⟨os, hos, hcs⟩
  unfold getItem
  try with_reducible refine wpAny_holding ?_
  first | refine wpAny_bind (wpAny_pure ?_) | skip
  refine wpAny_bind (wpAny_sequenceKey ht.typeIs (by decide) ?_)
  refine wpAny_bind (wpAny_callSpecial?_slot (name := Str.ofString "__getitem__") ht.typeIs PyProof.Rows.slot_tuple_getitem
    (wpAny_call_entry PyProof.Rows.slot_tuple_getitem ht.typeIs entry_tuple_getitem ?_ (args_tuple_getitem _ _)))
  show wpAny _ _ (Builtin.Tuple.tupleItemsOf (.ref t) >>= _) _ _ s
  refine wpAny_bind (tupleItemsOf_ ht ?_)
  refine wpAny_bind (wpAny_typeOf hTs ?_)
  rw [if_pos (by decide)]
  refine wpAny_bind (sliceApplied_gen hs pl pu ?_)
  have hno : ¬ ((((sIx items.size 0 lo : Nat) : Int) == 0 && (1 : Int) == 1 && (sIx items.size items.size hi - sIx items.size 0 lo) == items.size) = true) := by
    intro q
    rw [Bool.and_eq_true, Bool.and_eq_true] at q
    have q1 : ((sIx items.size 0 lo : Nat) : Int) = 0 := eq_of_beq q.1.1
    have q2 : sIx items.size items.size hi - sIx items.size 0 lo = items.size := eq_of_beq q.2
    exact hw ⟨by omega, by omega⟩
  show wpAny _ _ (if (((sIx items.size 0 lo : Nat) : Int) == 0 && (1 : Int) == 1 && (sIx items.size items.size hi - sIx items.size 0 lo) == items.size) = true then _ else _) _ _ s
  rw [if_neg hno, pick_gen]
  first
    | exact wpAny_bind (m := Builtin.Tuple.tupleExact _) (wpAny_newObj_type (wpAny_pure ⟨_, rfl, wpAny_pure h⟩) htake)
    | exact wpAny_bind (m := Builtin.Tuple.tupleExact _) (wpAny_newObj_type (wpAny_bind (wpAny_pure (wpAny_pure ⟨_, rfl, wpAny_pure h⟩))) htake)
    | exact wpAny_bind (wpAny_bind (m := Builtin.Tuple.tupleExact _) (wpAny_newObj_type (wpAny_pure (wpAny_pure ⟨_, rfl, wpAny_pure h⟩)) htake))
    | exact wpAny_bind (wpAny_bind (m := Builtin.Tuple.tupleExact _) (wpAny_newObj_type (wpAny_pure ⟨_, rfl, wpAny_pure h⟩) htake))
end
end HT
namespace L2
open PySem PySem.Spec PyProof.Rows
abbrev TO := St → Hp → (Option Int → Hp → Prop) → Prop
def PO (X : Cx) (e : Option Expr) (t : TO) : Prop :=
  ∀ (pins : List (Addr × Obj)) (s : Shared) (σ : St) (H : Hp) (Q : Option Int → Hp → Prop), Inv X pins σ H s → t σ H Q →
    wpAny (model X.prog X.w) X.A (evalPart e X.env) (fun u s' => ∃ o H', Inv X pins σ H' s' ∧ IsPart u o ∧ Q o H') X.xe s
def tNoPart : TO := fun _ H Q => Q none H
def tPart (t : TE) : TO := fun σ H Q => t σ H fun x H1 => ∃ i, x = .int i ∧ Q (some i) H1
section
variable {X : Cx} {e : Expr} {te : TE} {lo hi : Option Expr} {tl th : TO} {pos p2 : Pos}
theorem po_none : PO X none tNoPart := by
  intro pins s σ H Q I h
  rw [evalPart_none]
  exact wpAny_pure ⟨none, H, I, .none, h⟩
theorem po_some (h : PE X e te) : PO X (some e) (tPart te) := by
  intro pins s σ H Q I hw
  rw [evalPart_some]
  refine thn (h pins s σ H _ I hw) fun u s1 ⟨x, H1, I1, r1, q1⟩ => ?_
  obtain ⟨i, rfl, q⟩ := q1
  obtain ⟨t, rfl⟩ := r1
  exact ⟨some i, H1, I1, .int i t, q⟩
def SlR (X : Cx) (r : V → Option Int → Option Int → Hp → VK → Prop) : Prop :=
  ∀ (pins : List (Addr × Obj)) (s : Shared) (σ : St) (H : Hp) (x : V) (v vl vu : Value) (lo hi : Option Int) (sl : Addr) (Q : VK), Inv X pins σ H s → RelV x v → s.heap.IsSliceOf sl vl vu .none → IsPart vl lo → IsPart vu hi → r x lo hi H Q →
    ∃ T id, typeLookup (.type T) "__getitem__" = pure (some (.builtin id)) ∧ s.TypeIs v T ∧ wpAny (model X.prog X.w) X.A (getItem v (.ref sl)) (EP X pins σ Q) X.xe s
def tSl (r : V → Option Int → Option Int → Hp → VK → Prop) (te : TE) (tl th : TO) : TE := fun σ H Q => te σ H fun x H1 => tl σ H1 fun l H2 => th σ H2 fun u H3 => r x l u H3 Q
theorem pe_slice {r : V → Option Int → Option Int → Hp → VK → Prop} (hr : SlR X r) (he : PE X e te) (hl : PO X lo tl) (hu : PO X hi th) : PE X (.Subscript e (.Slice lo hi none p2) pos) (tSl r te tl th) := by
  intro pins s σ H Q I h
  refine Subscript_ (thn (he pins s σ H _ I h) fun v s1 ⟨x, H1, I1, r1, q1⟩ => ?_)
  refine wpAny_Slice (thn (hl pins s1 σ H1 _ I1 q1) fun vl s2 ⟨l, H2, I2, pl, q2⟩ => thn (hu pins s2 σ H2 _ I2 q2) fun vu s3 ⟨u, H3, I3, pu, q3⟩ => ?_)
  rw [evalPart_none]
  refine wpAny_pure ?_
  have I4 : Inv X pins σ H3 { s3 with heap := s3.heap.push { cls := .type "slice", data := .fields #[vl, vu, .none] } } := I3.kept (t' := s3.toks) fun b ob q => Heap.get?_push_of_some _ q
  obtain ⟨T, id, hT, ht, hg⟩ := hr pins { s3 with heap := s3.heap.push { cls := .type "slice", data := .fields #[vl, vu, .none] } } σ H3 x v vl vu l u s3.heap.objs.size Q I4 r1 (Heap.IsSliceOf.new ..) pl pu q3
  show wpAny (model X.prog X.w) X.A (subscriptTail e (.Slice lo hi none p2) v (.ref s3.heap.objs.size)) (EP X pins σ Q) X.xe { s3 with heap := s3.heap.push { cls := .type "slice", data := .fields #[vl, vu, .none] } }
  exact tail_any (ops := [.ref s3.heap.objs.size, v]) ht hT hg (by with_unfolding_all rfl)
def cutV (xs : List V) (lo hi : Option Int) : List V := (xs.drop (HT.sIx xs.length 0 lo)).take (HT.sIx xs.length xs.length hi - HT.sIx xs.length 0 lo)
theorem cutV_length (xs : List V) (lo hi : Option Int) : (cutV xs lo hi).length ≤ xs.length := by
  unfold cutV
  rw [List.length_take, List.length_drop]
  omega
def rSlT (K : PySem.W.Frag) : V → Option Int → Option Int → Hp → VK → Prop := fun x lo hi H Q => ∃ a xs, x = .ref a ∧ SqT K H a xs ∧
  ¬ (HT.sIx xs.length 0 lo = 0 ∧ HT.sIx xs.length xs.length hi = xs.length) ∧ ∀ p, H p = none → Q (.ref p) (upd H p (.tup (cutV xs lo hi)))
theorem sl_tup : SlR X (rSlT X.K) := by
  intro pins s σ H x v vl vu lo hi sl Q I rx hs pl pu h
  obtain ⟨a, xs, rfl, hx, hw, q⟩ := h
  cases rx
  obtain ⟨its, r, ht, hz⟩ := I.tuple hx
  have hlen : its.toArray.size = xs.length := by rw [List.size_toArray]; exact r.length.symm
  refine ⟨"tuple", _, PyProof.Rows.slot_tuple_getitem.lookup, ht.typeIs, ?_⟩
  refine HT.getItem_tuple_cut ht hs pl pu (by rw [hlen]; exact hw) ?_ (by rw [hlen]; exact hz)
  rw [hlen]
  refine ⟨.ref s.heap.objs.size, _, I.laid (t' := s.toks) (o := .tup (cutV xs lo hi)) (fun b ob q => Heap.get?_push_of_some _ q) (Nat.le_refl _) ?_, rfl, q _ (I.hok.fresh (Nat.le_refl _))⟩
  exact ⟨Nat.le_trans (cutV_length xs lo hi) hz, _, (r.drop (HT.sIx xs.length 0 lo)).take (HT.sIx xs.length xs.length hi - HT.sIx xs.length 0 lo), IsTup.new _ _⟩
end
end L2
namespace L2
open PySem PySem.Spec PyProof.Rows
def ixN (n : Nat) (i : Int) : Option Nat := if 0 ≤ i then (if i < n then some i.toNat else none) else if -(n : Int) ≤ i then some (i + n).toNat else none
def atI {α : Type} (xs : List α) (i : Int) : Option α := (ixN xs.length i).bind fun j => xs[j]?
theorem ixN_seq {n : Nat} {i : Int} {j : Nat} (h : ixN n i = some j) : seqIndex? i n = some j ∧ j < n ∧ -(n : Int) ≤ i ∧ i < n := by
  unfold ixN at h
  by_cases h0 : 0 ≤ i
  · rw [if_pos h0] at h
    by_cases h1 : i < n
    · rw [if_pos h1] at h
      have e : i.toNat = j := Option.some.inj h
      exact ⟨by rw [seqIndex_of h0 h1, e], by omega, by omega, h1⟩
    · rw [if_neg h1] at h; cases h
  · rw [if_neg h0] at h
    by_cases h1 : -(n : Int) ≤ i
    · rw [if_pos h1] at h
      have e : (i + n).toNat = j := Option.some.inj h
      exact ⟨by rw [seqIndex_neg (by omega) h1, e], by omega, h1, by omega⟩
    · rw [if_neg h1] at h; cases h
theorem atI_get {α : Type} {xs : List α} {i : Int} {v : α} (h : atI xs i = some v) : ∃ j, seqIndex? i xs.length = some j ∧ xs[j]? = some v ∧ j < xs.length ∧ -(xs.length : Int) ≤ i ∧ i < xs.length := by
  unfold atI at h
  cases e : ixN xs.length i with
  | none => rw [e] at h; cases h
  | some j =>
    rw [e] at h
    obtain ⟨h1, h2, h3, h4⟩ := ixN_seq e
    exact ⟨j, h1, h, h2, h3, h4⟩
theorem atI_nat {α : Type} {xs : List α} {j : Nat} {v : α} (h : xs[j]? = some v) : atI xs (j : Int) = some v := by
  have hj : j < xs.length := (List.getElem?_eq_some_iff.mp h).1
  have e : ixN xs.length (j : Int) = some j := by
    unfold ixN
    rw [if_pos (by omega), if_pos (by omega)]; simp
  unfold atI; rw [e]; exact h
theorem atI_last {α : Type} (xs : List α) (v : α) : atI (xs ++ [v]) (-1) = some v := by
  have hl : (xs ++ [v]).length = xs.length + 1 := by simp
  have e : ixN (xs ++ [v]).length (-1) = some xs.length := by
    unfold ixN
    rw [hl, if_neg (by decide), if_pos (by omega)]
    congr 1
    omega
  unfold atI
  rw [e]
  show (xs ++ [v])[xs.length]? = some v
  simp
def PlainIx (b : Expr) : Prop := ∀ o i, subscripted b false o i = operate [o, i] (getItem o i)
def IxR (X : Cx) (r : R2) : Prop :=
  ∀ (value slice : Expr) (pins : List (Addr × Obj)) (s : Shared) (σ : St) (H : Hp) (x y : V) (v u : Value) (Q : VK), Inv X pins σ H s → RelV x v → RelV y u → r x y H Q →
    subscripted slice false v u = operate [v, u] (getItem v u) → wpAny (model X.prog X.w) X.A (subscriptTail value slice v u) (EP X pins σ Q) X.xe s
def MtR (X : Cx) (id : String) (r : V → List V → Hp → VK → Prop) : Prop :=
  ∀ (pins : List (Addr × Obj)) (s : Shared) (σ : St) (H : Hp) (x : V) (xs : List V) (v : Value) (us : List Value) (Q : VK), Inv X pins σ H s → RelV x v → Vals xs us → r x xs H Q →
    wpAny (model X.prog X.w) X.A (call (.builtin id) (v :: us)) (EP X pins σ Q) X.xe s
section
variable {X : Cx} {a b : Expr} {ta tb : TE} {pos : Pos}
theorem pe_ix {r : R2} (hr : IxR X r) (ha : PE X a ta) (hb : PE X b tb) (hs : PlainIx b) : PE X (.Subscript a b pos) (tOp r ta tb) := by
  intro pins s σ H Q I h
  exact Subscript_ (binT ha hb I h fun v u s2 x y H2 I2 rx ry q => hr a b pins s2 σ H2 x y v u Q I2 rx ry q (hs _ _))
def rIxL (K : PySem.W.Frag) : R2 := fun x y H Q => ∃ p xs i v, x = .ref p ∧ y = .int i ∧ SqL K H p xs ∧ atI xs i = some v ∧ Q v H
def rIxT (K : PySem.W.Frag) : R2 := fun x y H Q => ∃ p xs i v, x = .ref p ∧ y = .int i ∧ SqT K H p xs ∧ atI xs i = some v ∧ Q v H
def rIxS : R2 := fun x y H Q => ∃ z i c, x = .str z ∧ y = .int i ∧ z.length ≤ sizeLine ∧ atI z.cps.toList i = some c ∧ Q (.str ⟨#[c]⟩) H
theorem ix_list : IxR X (rIxL X.K) := by
  intro value slice pins s σ H x y v u Q I rx ry h hs
  obtain ⟨p, xs, i, z, rfl, rfl, hq, he, q⟩ := h
  cases rx
  obtain ⟨t, rfl⟩ := ry
  obtain ⟨its, r, pl, hz⟩ := I.list hq
  obtain ⟨j, h1, h2, h3, h4, h5⟩ := atI_get he
  obtain ⟨w, ew, rw'⟩ := r.get h2
  have hl := r.length
  have hn := line63
  have fin : EP X pins σ Q w s := ⟨z, H, I, rw', q⟩
  by_cases h0 : 0 ≤ i
  · have hj : i.toNat = j := by
      rw [seqIndex_of h0 h5] at h1
      exact Option.some.inj h1
    exact item_listR pl.isList h0 (by omega) (by rw [hj]; simpa using ew) fin hs
  · have hj : (i + (its.toArray.size : Int)).toNat = j := by
      rw [seqIndex_neg (by omega) h4] at h1
      rw [List.size_toArray, ← hl]
      exact Option.some.inj h1
    exact subscriptTail_builtinR (x := w) pl.isList.typeIs slot_list_getitem.lookup
      (wpAny_getItem_list_neg (Q := fun r s' => r = w ∧ EP X pins σ Q r s') pl.isList (by omega) (by rw [List.size_toArray] <;> omega) (by omega) (by rw [hj]; simpa using ew) ⟨rfl, fin⟩) hs
theorem ix_tup : IxR X (rIxT X.K) := by
  intro value slice pins s σ H x y v u Q I rx ry h hs
  obtain ⟨p, xs, i, z, rfl, rfl, hq, he, q⟩ := h
  cases rx
  obtain ⟨t, rfl⟩ := ry
  obtain ⟨its, r, pl, hz⟩ := I.tuple hq
  obtain ⟨j, h1, h2, h3, h4, h5⟩ := atI_get he
  obtain ⟨w, ew, rw'⟩ := r.get h2
  have hl := r.length
  have hn := line63
  have fin : EP X pins σ Q w s := ⟨z, H, I, rw', q⟩
  exact subscriptTail_builtinR (x := w) pl.typeIs slot_tuple_getitem.lookup
    (getItem_tuple (j := j) (Q := fun r s' => r = w ∧ EP X pins σ Q r s') pl (by omega) (by omega) (by rw [List.size_toArray, ← hl]; exact h1) (by simpa using ew) ⟨rfl, fin⟩) hs
theorem ix_str : IxR X rIxS := by
  intro value slice pins s σ H x y v u Q I rx ry h hs
  obtain ⟨z, i, c, rfl, rfl, hz, he, q⟩ := h
  obtain ⟨t, rfl⟩ := rx
  obtain ⟨t', rfl⟩ := ry
  obtain ⟨j, h1, h2, h3, h4, h5⟩ := atI_get he
  have hl : z.cps.toList.length = z.length := by simp [Str.length]
  rw [hl] at h1 h4 h5
  have hn := line63
  exact tail_any (typeIs_str s z t) slot_str_getitem.lookup (getItem_str (c := c) (by
    have e1 : decide (i < -(2 ^ 63 : Int)) = false := decide_eq_false (by omega)
    have e2 : decide (i ≥ 2 ^ 63) = false := decide_eq_false (by omega)
    rw [e1, e2, Bool.or_false]) (by rw [h1]; simpa using h2) ⟨.str ⟨#[c]⟩, H, I.tok _, ⟨_, rfl⟩, q⟩) hs
theorem mapSeq_set (its : List Value) (n j : Nat) (u : Value) : Obj.mapSeq (·.setIfInBounds j u) { cls := .type "list", data := .seq its.toArray n } = { cls := .type "list", data := .seq (its.set j u).toArray n } := by
  simp [Obj.mapSeq]
theorem Inv.lst {pins : List (Addr × Obj)} {σ : St} {H : Hp} {s : Shared} {p : Addr} {xs : List V} (I : Inv X pins σ H s) (h : H p = some (.lst xs)) :
    ∃ (its : List Value) (n : Nat), Vals xs its ∧ s.heap.get? p = some { cls := .type "list", data := .seq its.toArray n } ∧ xs.length ≤ sizeLine := by
  obtain ⟨z, its, n, r, e⟩ := I.hok p _ h
  exact ⟨its, n, r, e, z⟩
theorem Inv.lstUpd {pins : List (Addr × Obj)} {σ : St} {H : Hp} {s : Shared} {p : Addr} {xs ys : List V} {its its' : List Value} {n n' : Nat} {f : Obj → Obj} (I : Inv X pins σ H s) (h : H p = some (.lst xs))
    (ho : s.heap.get? p = some { cls := .type "list", data := .seq its.toArray n }) (hf : f { cls := .type "list", data := .seq its.toArray n } = { cls := .type "list", data := .seq its'.toArray n' }) (r : Vals ys its') (hz : ys.length ≤ sizeLine) (t : Nat) :
    Inv X pins σ (upd H p (.lst ys)) { s with heap := s.heap.update p f, toks := t } := by
  have e : (s.heap.update p f).get? p = some { cls := .type "list", data := .seq its'.toArray n' } := by
    rw [Heap.get?_update_self f ho (by rw [hf] <;> rfl), hf]
  refine I.write (x := p) (e := p) (by rw [h]; trivial) (.inl rfl) (fun b u hb q => (Heap.get?_update_other _ _ (Ne.symm hb)).trans q) ⟨_, e⟩ ?_
  exact ⟨hz, its', n', r, e⟩
def rSetL : V → V → V → Hp → (Hp → Prop) → Prop := fun o i v H Q => ∃ p xs k j, o = .ref p ∧ i = .int k ∧ H p = some (.lst xs) ∧ ixN xs.length k = some j ∧ Q (upd H p (.lst (xs.set j v)))
theorem set_list : PSet X rSetL := by
  intro pins s σ H o i v ov iv u Q I ro ri rv h
  obtain ⟨p, xs, k, j, rfl, rfl, hp, hj, q⟩ := h
  cases ro
  obtain ⟨t, rfl⟩ := ri
  obtain ⟨its, n, r, ho, hz⟩ := I.lst hp
  obtain ⟨h1, h2, h3, h4⟩ := ixN_seq hj
  have hl := r.length
  have hn := line63
  have I' : Inv X pins σ (upd H p (.lst (xs.set j v))) { s with heap := s.heap.update p (Obj.mapSeq (·.setIfInBounds j u)) } :=
    I.lstUpd hp ho (mapSeq_set its n j u) (r.set rv j) (by rw [List.length_set]; exact hz) s.toks
  by_cases h0 : 0 ≤ k
  · have hk : k.toNat = j := by
      rw [seqIndex_of h0 h4] at h1
      exact Option.some.inj h1
    exact PySem.W.ki_setAt ho h0 (by omega) (by rw [List.size_toArray, ← hl]; exact h4) (by rw [hk]; exact ⟨_, I', q⟩)
  · have hk : (k + (its.toArray.size : Int)).toNat = j := by
      rw [seqIndex_neg (by omega) h3] at h1
      rw [List.size_toArray, ← hl]
      exact Option.some.inj h1
    exact PySem.W.ki_setBack ho (by omega) (by rw [List.size_toArray, ← hl]; exact h3) (by omega) (by rw [hk]; exact ⟨_, I', q⟩)
theorem slice_bounds (lo hi : Option Int) (n : Nat) : (sliceBounds lo hi none n).1 = ((HT.sIx n 0 lo : Nat) : Int) ∧ (sliceBounds lo hi none n).2.1 = ((HT.sIx n n hi : Nat) : Int) ∧ (sliceBounds lo hi none n).2.2 = 1 := by
  refine ⟨?_, ?_, rfl⟩
  · cases lo with
    | none => simp [sliceBounds, HT.sIx]
    | some i =>
      simp only [sliceBounds, HT.sIx, Option.getD_none, show (1 : Int) > 0 by decide, if_true]
      by_cases h : i < 0
      · simp only [h, if_true] <;> omega
      · simp only [h, if_false] <;> omega
  · cases hi with
    | none => simp [sliceBounds, HT.sIx]
    | some i =>
      simp only [sliceBounds, HT.sIx, Option.getD_none, show (1 : Int) > 0 by decide, if_true]
      by_cases h : i < 0
      · simp only [h, if_true] <;> omega
      · simp only [h, if_false] <;> omega
theorem slicePick_cut (its : List Value) (lo hi : Option Int) : slicePick its.toArray lo hi none = ((its.drop (HT.sIx its.length 0 lo)).take (HT.sIx its.length its.length hi - HT.sIx its.length 0 lo)).toArray := by
  obtain ⟨h1, h2, h3⟩ := slice_bounds lo hi its.toArray.size
  unfold slicePick
  rw [h1, h2, h3]
  simp only [sliceRange_one, pick_run, List.size_toArray] <;> rfl
def rSlL (K : PySem.W.Frag) : V → Option Int → Option Int → Hp → VK → Prop := fun x lo hi H Q => ∃ a xs, x = .ref a ∧ SqL K H a xs ∧ ∀ p, H p = none → Q (.ref p) (upd H p (.lst (cutV xs lo hi)))
theorem sl_list : SlR X (rSlL X.K) := by
  intro pins s σ H x v vl vu lo hi sl Q I rx hs pl pu h
  obtain ⟨a, xs, rfl, hx, q⟩ := h
  cases rx
  obtain ⟨its, r, ht, hz⟩ := I.list hx
  have hlen := r.length
  refine ⟨"list", _, slot_list_getitem.lookup, ht.isList.typeIs, ?_⟩
  refine wpAny_getItem_list_slice ht.isList hs pl pu .none (by simp) ?_ (by rw [List.size_toArray] <;> omega)
  rw [slicePick_cut, ← hlen]
  refine ⟨.ref s.heap.objs.size, _, I.laid (t' := s.toks) (o := .lst (cutV xs lo hi)) (fun b ob q => Heap.get?_push_of_some _ q) (Nat.le_refl _) ?_, rfl, q _ (I.hok.fresh (Nat.le_refl _))⟩
  exact ⟨Nat.le_trans (cutV_length xs lo hi) hz, _, 0, (r.drop (HT.sIx xs.length 0 lo)).take (HT.sIx xs.length xs.length hi - HT.sIx xs.length 0 lo), Heap.get?_push_size _ rfl⟩
theorem call_len_seq : CallR X (.builtin "len") (fun xs H Q => ∃ p ys, xs = [.ref p] ∧ (SqL X.K H p ys ∨ SqT X.K H p ys) ∧ Q (.int ys.length) H) := by
  intro pins s σ H xs us Q I r h
  obtain ⟨p, ys, rfl, hq, q⟩ := h
  obtain ⟨u, rfl, rx⟩ := vals1 r
  cases rx
  have hn := line63
  rcases hq with hq | hq
  · obtain ⟨its, r', pl, hz⟩ := I.list hq
    have hlen := r'.length
    exact Calls.call_len_list pl.isList (by simp only [List.size_toArray] <;> omega) ⟨.int ys.length, H, I.tok _, ⟨s.toks + 1, by rw [List.size_toArray, hlen]⟩, q⟩
  · obtain ⟨its, r', pl, hz⟩ := I.tuple hq
    have hlen := r'.length
    exact len_tuple pl (by simp only [List.size_toArray] <;> omega) ⟨.int ys.length, H, I.tok _, ⟨s.toks + 1, by rw [List.size_toArray, hlen]⟩, q⟩
theorem call_len_str : CallR X (.builtin "len") (fun xs H Q => ∃ z, xs = [.str z] ∧ z.length ≤ sizeLine ∧ Q (.int z.length) H) := by
  intro pins s σ H xs us Q I r h
  obtain ⟨z, rfl, hz, q⟩ := h
  obtain ⟨u, rfl, t, rfl⟩ := vals1 r
  have hn := line63
  exact len_str (by omega) ⟨.int z.length, H, I.tok _, ⟨_, rfl⟩, q⟩
theorem call_tuple_of : CallR X (.type "tuple") (fun xs H Q => ∃ p ys, xs = [.ref p] ∧ ((SqL X.K H p ys ∧ ∀ l, H l = none → Q (.ref l) (upd H l (.tup ys))) ∨ (SqT X.K H p ys ∧ Q (.ref p) H))) := by
  intro pins s σ H xs us Q I r h
  obtain ⟨p, ys, rfl, h⟩ := h
  obtain ⟨u, rfl, rx⟩ := vals1 r
  cases rx
  rcases h with ⟨hq, q⟩ | ⟨hq, q⟩
  · obtain ⟨its, r', pl, hz⟩ := I.list hq
    have hlen := r'.length
    refine call_tuple_list pl.isList (fun h' kp => ?_) (by simp only [List.size_toArray] <;> omega)
    have I1 : Inv X pins σ H { s with heap := h' } := I.kept (t' := s.toks) kp
    have I2 : Inv X pins σ (upd H h'.objs.size (.tup ys)) { s with heap := h'.push { cls := .type "tuple", data := .seq its.toArray } } :=
      I1.laid (t' := s.toks) (fun b o e => Heap.get?_push_of_some _ e) (Nat.le_refl _) (show ObjOk X.prog X.w _ _ _ (.tup ys) from ⟨hz, its, r', IsTup.new _ _⟩)
    exact ⟨.ref h'.objs.size, _, I2, rfl, q _ (I1.hok.fresh (Nat.le_refl _))⟩
  · obtain ⟨its, r', pl, hz⟩ := I.tuple hq
    exact call_tuple_same pl ⟨.ref p, H, I, rfl, q⟩
def tyV (K : PySem.W.Frag) (T : String) (x : V) (H : Hp) : Prop := match x with
  | .str _ => T = "str"
  | .int _ => T = "int"
  | .ref p => (T = "list" ∧ ∃ xs, SqL K H p xs) ∨ (T = "tuple" ∧ ∃ o, K.lookup p = some o ∧ o.cls = .type "tuple" ∧ o.dict = none) ∨
      (T = "dict" ∧ ((∃ kvs, H p = some (.dK kvs)) ∨ ∃ kvs, H p = some (.dT kvs))) ∨ (T = "set" ∧ ∃ S n, H p = some (.set S n))
  | _ => False
theorem tyV_is {pins : List (Addr × Obj)} {σ : St} {H : Hp} {s : Shared} {T : String} {x : V} {v : Value} (I : Inv X pins σ H s) (r : RelV x v) (ty : tyV X.K T x H) :
    s.TypeIs v T ∧ ∀ a, v = .ref a → ∃ ob, s.heap.get? a = some ob ∧ ob.dict = none := by
  cases x with
  | str z =>
    obtain ⟨t, rfl⟩ := r
    cases (show T = "str" from ty)
    exact ⟨typeIs_str s z t, fun _ e => nomatch e⟩
  | int i =>
    obtain ⟨t, rfl⟩ := r
    cases (show T = "int" from ty)
    exact ⟨typeIs_int s i t, fun _ e => nomatch e⟩
  | ref p =>
    cases r
    rcases ty with ⟨rfl, xs, hq⟩ | ⟨rfl, o, hk, hc, hd⟩ | ⟨rfl, hk⟩ | ⟨rfl, S, n, hk⟩
    · obtain ⟨its, _, pl, _⟩ := I.list hq
      refine ⟨pl.isList.typeIs, fun a e => ?_⟩
      cases e
      obtain ⟨o, n, e, c, hd, _⟩ := pl
      exact ⟨o, e, hd⟩
    · refine ⟨⟨o, I.kIn p o hk, hc⟩, fun a e => ?_⟩
      cases e
      exact ⟨o, I.kIn _ o hk, hd⟩
    · have z : ∃ o, s.heap.get? p = some o ∧ o.ExactDict := by
        rcases hk with ⟨kvs, hk⟩ | ⟨kvs, hk⟩
        · obtain ⟨_, _, _, _, o, _, _, e, ex, _⟩ := I.hok p _ hk
          exact ⟨o, e, ex⟩
        · obtain ⟨_, _, _, _, o, _, _, e, ex, _⟩ := I.hok p _ hk
          exact ⟨o, e, ex⟩
      obtain ⟨o, e, ex⟩ := z
      refine ⟨⟨o, e, ex.1⟩, fun a e2 => ?_⟩
      cases e2
      exact ⟨o, e, ex.2.1⟩
    · obtain ⟨o, _, _, _, e, ex, _⟩ := I.hok p _ hk
      refine ⟨⟨o, e, ex.1⟩, fun a e2 => ?_⟩
      cases e2
      exact ⟨o, e, ex.2.1⟩
  | _ => exact False.elim ty
def tBM (K : PySem.W.Frag) (T : String) (r : V → List V → Hp → VK → Prop) (to : TE) (t : TA) : TE := fun σ H Q => to σ H fun x H1 => tyV K T x H1 ∧ t σ H1 fun xs H2 => r x xs H2 Q
variable {o e : Expr} {es : List Expr} {to : TE} {t : TA} {name : Str} {apos cpos : Pos} {T id : String} {r : V → List V → Hp → VK → Prop}
theorem pe_bm (pa : PlainAttrs T) (slot : Slot T name id) (hty : typeOf (.builtin id) = pure (.type "method_descriptor")) (hm : MtR X id r) (ho : PE X o to) (ha : PA X (e :: es) t)
    (hbase : attributeBase o name X.env (eval o X.env) = eval o X.env := by rfl)
    (hfew : ((backTo cpos (starEach (e :: es) X.env)).all (fun x => !x.1) && (backToKw cpos (keywordEach [] X.env)).all (fun x => x.1.isSome)
      && decide ((e :: es).length + ([] : List Keyword).length + (if ([] : List Keyword).isEmpty then 0 else 1) < 30)) = true := by rfl)
    (hline : (apos.endLine == cpos.line) = true := by rfl) (hs : starEach (e :: es) X.env = (false, eval e X.env) :: starEach es X.env := by rfl) (hplain : (backTo cpos (starEach es X.env)).any (·.1) = false := by rfl) :
    PE X (.Call (.Attribute o name apos) (e :: es) [] cpos) (tBM X.K T r to t) := by
  intro pins s σ H Q I h
  refine wpAny_Call_method_late hbase hfew hline rfl (thn (ho pins s σ H _ I h) fun v s1 ⟨x, H1, I1, r1, ty, q1⟩ => ?_)
  obtain ⟨h1, h2⟩ := tyV_is I1 r1 ty
  refine ⟨T, id, pa, slot, hty, h1, h2, ?_⟩
  have hA := ha cpos pins s1 σ H1 _ I1 q1
  rw [hs] at hA ⊢
  refine Calls.callWith_builtin (by show (false || (backTo cpos (starEach es X.env)).any (·.1)) = false; rw [hplain] <;> rfl) (Calls.evalArgs_plain ?_)
  exact thn hA fun us s2 ⟨vs, H2, I2, r2, q2⟩ => hm pins s2 σ H2 x vs v us Q I2 r1 r2 q2
end
end L2
namespace L2
open PySem PySem.Spec PyProof.Rows
def MtM (X : Cx) (id : String) (r : V → List V → Hp → VK → Prop) : Prop :=
  ∀ (pins : List (Addr × Obj)) (s : Shared) (σ : St) (H : Hp) (x : V) (xs : List V) (v : Value) (us : List Value) (Q : VK), Inv X pins σ H s → RelV x v → Vals xs us → r x xs H Q →
    wpAny (model X.prog X.w) X.A (call (.builtin id) (v :: us)) (EP X pins σ Q) X.xe s
theorem Vals.one : ∀ {x : V} {us : List Value}, Vals [x] us → ∃ u, us = [u] ∧ RelV x u
  | _, _, .cons r .nil => ⟨_, rfl, r⟩
theorem Vals.zero : ∀ {us : List Value}, Vals [] us → us = []
  | _, .nil => rfl
theorem Vals.reverse {xs : List V} {us : List Value} (h : Vals xs us) : Vals xs.reverse us.reverse := by
  induction h with
  | nil => exact .nil
  | cons r t ih => rw [List.reverse_cons, List.reverse_cons]; exact Vals.append ih (.cons r .nil)
section
variable {X : Cx} {pins : List (Addr × Obj)} {σ : St} {H : Hp} {s : Shared} {l b : Addr} {xs ys zs : List V}
theorem Inv.lset {its its' : List Value} {n : Nat} {f : Array Value → Array Value} {t' : Nat} (I : Inv X pins σ H s) (hH : H l = some (.lst xs))
    (e : s.heap.get? l = some { cls := .type "list", data := .seq its.toArray n }) (hf : f its.toArray = its'.toArray) (hv : Vals ys its') (hz : ys.length ≤ sizeLine) :
    Inv X pins σ (upd H l (.lst ys)) { s with heap := s.heap.update l (Obj.mapSeq f), toks := t' } := by
  have q := PySem.IsL.update e f
  rw [hf] at q
  refine I.write (x := l) (e := l) (by rw [hH]; exact trivial) (.inl rfl) (fun b' u hb hu => (Heap.get?_update_other s.heap (Obj.mapSeq f) (Ne.symm hb)).trans hu) ⟨_, q⟩ ?_
  exact ⟨hz, its', _, hv, q⟩
theorem Inv.lstM (I : Inv X pins σ H s) (hH : H l = some (.lst xs)) : xs.length ≤ sizeLine ∧ ∃ (its : List Value) (n : Nat), Vals xs its ∧ xs.length = its.length ∧ s.heap.get? l = some { cls := .type "list", data := .seq its.toArray n } := by
  obtain ⟨z, its, n, r, e⟩ := I.hok l _ hH
  exact ⟨z, its, n, r, r.length, e⟩
end
section
variable {X : Cx}
def rAppend : V → List V → Hp → VK → Prop := fun x vs H Q => ∃ l xs y, x = .ref l ∧ vs = [y] ∧ H l = some (.lst xs) ∧ xs.length < sizeLine ∧ Q .non (upd H l (.lst (xs ++ [y])))
theorem mt_append : MtM X "list.append" rAppend := by
  intro pins s σ H x vs v us Q I rx rv h
  obtain ⟨l, xs, y, rfl, rfl, hH, hz, q⟩ := h
  cases rx
  obtain ⟨u, rfl, ru⟩ := rv.one
  obtain ⟨z, its, n, r, hl, e⟩ := I.lstM hH
  refine call_meets F.slot_list_append ⟨_, e, rfl⟩ F.entry_list_append (F.args_list_append_2 _ _) (PySem.list_append l its.toArray n u (by rw [List.size_toArray]; omega)) ⟨e, ?_⟩
  refine ⟨.non, _, I.lset (its' := its ++ [u]) hH e (by simp) (r.append (.cons ru .nil)) ?_, rfl, q⟩
  rw [List.length_append, List.length_singleton]
  omega
end
end L2
namespace L2
open PySem PySem.Spec PyProof.Rows
theorem Vals.ints : ∀ {ns : List Int} {us : List Value}, Vals (ns.map V.int) us → IntsAre us ns
  | [], us, h => by
    rw [List.map_nil] at h
    cases h
    exact IntsAre.nil
  | n :: ns, us, h => by
    rw [List.map_cons] at h
    cases h with
    | cons r t =>
      obtain ⟨k, rfl⟩ := r
      exact IntsAre.cons n k (Vals.ints t)
theorem Vals.strs : ∀ {xs : List Str} {us : List Value}, Vals (xs.map V.str) us → StrsAre us xs
  | [], us, h => by
    rw [List.map_nil] at h
    cases h
    exact StrsAre.nil
  | x :: xs, us, h => by
    rw [List.map_cons] at h
    cases h with
    | cons r t =>
      obtain ⟨k, rfl⟩ := r
      exact StrsAre.cons x k (Vals.strs t)
theorem Vals.ref1 {a : Addr} {us : List Value} (r : Vals [V.ref a] us) : us = [Value.ref a] := by
  cases r with
  | cons r t =>
    cases t
    cases r
    rfl
section
variable {prog : Program} {w : World} {A : Around} {E : Value → Shared → Prop} {s : Shared} {l : Addr} {its : List Value} {ns : List Int} {Q : Value → Shared → Prop}
theorem sum_raw (hh : A.handled = none) (hl : s.heap.IsList l its.toArray) (hi : IntsAre its ns)
    (h : ∀ h' tk t', (∀ b o, s.heap.get? b = some o → h'.get? b = some o) → Q (.int ns.sum t') { s with heap := h', toks := tk }) : wpAny (model prog w) A (call (.builtin "sum") [.ref l]) Q E s := by
  obtain ⟨xs, e⟩ := hi.allInts.items
  have hn : numsOf (intItems xs).toList = ns := by rw [← e]; exact hi.numsOf
  rw [nums_intItems] at hn
  rw [e] at hl
  refine PySem.sum_intListG hh hl fun h' tk t' hk => ?_
  have := h h' tk t' hk
  rw [preSum_eq, List.take_of_length_le (by simp), hn]; exact this
end
section
variable {X : Cx}
def rSum (K : PySem.W.Frag) : List V → Hp → VK → Prop := fun vs H Q => ∃ (a : Addr) (ns : List Int), vs = [V.ref a] ∧ SqL K H a (ns.map V.int) ∧ Q (.int ns.sum) H
theorem cr_sum (hc : X.calm = true) : CallR X (.builtin "sum") (rSum X.K) := by
  intro pins s σ H vs us Q I r h
  obtain ⟨a, ns, rfl, hs, q⟩ := h
  obtain ⟨its, rv, hl, _⟩ := I.list hs
  rw [Vals.ref1 r]
  exact sum_raw (I.ok.hd hc) hl.isList rv.ints fun h' tk t' hk => ⟨.int _, H, I.kept hk, ⟨_, rfl⟩, q⟩
end
mutual
inductive Dp (K : PySem.W.Frag) (H : Hp) : V → PyData → Prop
  | non : Dp K H .non .none
  | bl (b : Bool) : Dp K H (.bl b) (.bool b)
  | int (i : Int) : Dp K H (.int i) (.int i)
  | str (x : Str) : Dp K H (.str x) (.str x)
  | lst {a : Addr} {xs : List V} {ds : List PyData} : SqL K H a xs → DpAll K H xs ds → Dp K H (.ref a) (.list ds)
  | tup {a : Addr} {xs : List V} {ds : List PyData} : SqT K H a xs → DpAll K H xs ds → Dp K H (.ref a) (.tuple ds)
inductive DpAll (K : PySem.W.Frag) (H : Hp) : List V → List PyData → Prop
  | nil : DpAll K H [] []
  | cons {v : V} {vs : List V} {d : PyData} {ds : List PyData} : Dp K H v d → DpAll K H vs ds → DpAll K H (v :: vs) (d :: ds)
end
section
variable {X : Cx} {pins : List (Addr × Obj)} {σ : St} {H : Hp} {s : Shared}
mutual
theorem Dp.reads (I : Inv X pins σ H s) : ∀ (d : PyData) (v : V) (u : Value), Dp X.K H v d → RelV v u → ∃ as, Reads s.heap u d as
  | .none, _, _, h, r => by
    cases h
    cases r
    exact ⟨_, Reads.none⟩
  | .bool b, _, _, h, r => by
    cases h
    cases r
    exact ⟨_, Reads.bool b⟩
  | .int i, _, _, h, r => by
    cases h
    obtain ⟨t, rfl⟩ := r
    exact ⟨_, Reads.int i t⟩
  | .str x, _, _, h, r => by
    cases h
    obtain ⟨t, rfl⟩ := r
    exact ⟨_, Reads.str x t⟩
  | .list ds, _, _, h, r => by
    cases h with
    | lst hs ha =>
      cases r
      obtain ⟨its, rv, ⟨o, n, ho, hc, _, hd⟩, _⟩ := I.list hs
      obtain ⟨as, hr⟩ := Dp.readsAll I ds _ its ha rv
      exact ⟨_, Reads.list ho hc hd hr⟩
  | .tuple ds, _, _, h, r => by
    cases h with
    | tup hs ha =>
      cases r
      obtain ⟨its, rv, ⟨o, ho, hc, n, hd⟩, _⟩ := I.tuple hs
      obtain ⟨as, hr⟩ := Dp.readsAll I ds _ its ha rv
      exact ⟨_, Reads.tuple ho hc hd hr⟩
  | .dict _, _, _, h, _ => by cases h
theorem Dp.readsAll (I : Inv X pins σ H s) : ∀ (ds : List PyData) (vs : List V) (us : List Value), DpAll X.K H vs ds → Vals vs us → ∃ as, ReadsAll s.heap us ds as
  | [], _, _, h, r => by
    cases h
    cases r
    exact ⟨_, ReadsAll.nil⟩
  | d :: ds, _, _, h, r => by
    cases h with
    | cons h1 h2 =>
      cases r with
      | cons r1 r2 =>
        obtain ⟨as, q1⟩ := Dp.reads I d _ _ h1 r1
        obtain ⟨bs, q2⟩ := Dp.readsAll I ds _ _ h2 r2
        exact ⟨_, ReadsAll.cons q1 q2⟩
end
end
end L2
namespace L2
open PySem PySem.Spec PyProof.Rows
abbrev CellAt (h : Heap) (c : Addr) (v : Option Value) : Prop := h.IsCell c v
def relS (scope sc : Scope) : Scope :=
  { scope with names := scope.names.map fun (n, k) => if (k == .free && sc.kind == .function && sc.names.lookup n == some .cell) then (n, .cell) else (n, k) }
def cloFrom (cells : List (Str × Addr)) : List (Str × NameKind) → List (Str × Addr) → List (Str × Addr)
  | [], acc => acc
  | (n, k) :: r, acc => if k == .free then cloFrom cells r ((n, (cells.lookup n).getD 0) :: acc) else cloFrom cells r acc
theorem closure_loop (env : Env) (f : Str × NameKind → List (Str × Addr) → Sem (ForInStep (List (Str × Addr))))
    (hf : ∀ n k c, f (n, k) c = if k == .free then (do let a ← cellOf env n; pure (.yield ((n, a) :: c))) else pure (.yield c)) :
    ∀ (names : List (Str × NameKind)) (acc : List (Str × Addr)), (∀ y ∈ names, y.2 = .free → ∃ c, env.cells.lookup y.1 = some c) → forIn names acc f = pure (cloFrom env.cells names acc)
  | [], acc, _ => by rw [List.forIn_nil]; rfl
  | (n, k) :: r, acc, h => by
    rw [List.forIn_cons, hf]
    have ih := fun acc => closure_loop env f hf r acc fun y hy => h y (List.mem_cons_of_mem _ hy)
    unfold cloFrom
    by_cases hk : (k == NameKind.free) = true
    · rw [if_pos hk, if_pos hk]
      obtain ⟨c, hc⟩ := h (n, k) List.mem_cons_self (by simpa using hk)
      have e : cellOf env n = pure c := by unfold cellOf; rw [hc]
      rw [e]
      have e2 : (env.cells.lookup n).getD 0 = c := by rw [hc]; rfl
      rw [e2]
      exact ih _
    · rw [if_neg hk, if_neg hk]
      exact ih _
theorem closure_ok {scope : Scope} {env : Env} (h : ∀ y ∈ scope.names, y.2 = .free → ∃ c, env.cells.lookup y.1 = some c) : closureFor scope env = pure (cloFrom env.cells scope.names []) := by
  simp only [closureFor]
  rw [closure_loop env _ (fun n k c => rfl) scope.names [] h]
  rfl
theorem mem_lookup {α : Type} : ∀ {l : List (Str × α)} {n : Str} {c : α}, (n, c) ∈ l → ∃ c', l.lookup n = some c'
  | (k, v) :: r, n, c, h => by
    rw [List.lookup_cons]
    cases hb : n == k with
    | true => exact ⟨_, rfl⟩
    | false =>
      rcases List.mem_cons.mp h with e | h
      · cases e; simp at hb
      · exact mem_lookup h
theorem cloFrom_mem {cells : List (Str × Addr)} : ∀ {names : List (Str × NameKind)} {acc : List (Str × Addr)} {n : Str} {c : Addr}, (n, c) ∈ cloFrom cells names acc → (n, c) ∈ acc ∨ ((n, .free) ∈ names ∧ c = (cells.lookup n).getD 0)
  | [], _, _, _, h => .inl h
  | (m, k) :: r, acc, n, c, h => by
    unfold cloFrom at h
    split at h
    · rename_i hk
      have hk : k = .free := by simpa using hk
      rcases cloFrom_mem h with h | ⟨h1, h2⟩
      · rcases List.mem_cons.mp h with e | h
        · cases e; exact .inr ⟨hk ▸ List.mem_cons_self, rfl⟩
        · exact .inl h
      · exact .inr ⟨List.mem_cons_of_mem _ h1, h2⟩
    · rcases cloFrom_mem h with h | ⟨h1, h2⟩
      · exact .inl h
      · exact .inr ⟨List.mem_cons_of_mem _ h1, h2⟩
theorem cloFrom_acc {cells : List (Str × Addr)} : ∀ {names : List (Str × NameKind)} {acc : List (Str × Addr)} {p : Str × Addr}, p ∈ acc → p ∈ cloFrom cells names acc
  | [], _, _, h => h
  | (m, k) :: r, acc, p, h => by
    unfold cloFrom
    split
    · exact cloFrom_acc (List.mem_cons_of_mem _ h)
    · exact cloFrom_acc h
theorem cloFrom_has {cells : List (Str × Addr)} : ∀ {names : List (Str × NameKind)} {acc : List (Str × Addr)} {n : Str}, (n, .free) ∈ names → (n, (cells.lookup n).getD 0) ∈ cloFrom cells names acc
  | (m, k) :: r, acc, n, h => by
    unfold cloFrom
    rcases List.mem_cons.mp h with e | h
    · cases e
      exact cloFrom_acc List.mem_cons_self
    · split
      · exact cloFrom_has h
      · exact cloFrom_has h
theorem cells_mem : ∀ {names : List (Str × NameKind)} {h : Heap} {acc : List (Str × Addr)} {x : Str} {c : Addr}, (x, c) ∈ cellsFrom h.objs.size names acc →
    (x, c) ∈ acc ∨ ((x, .cell) ∈ names ∧ h.objs.size ≤ c ∧ CellAt (pushCells h names) c none)
  | [], _, _, _, _, h => .inl h
  | (n, k) :: r, h, acc, x, c, hm => by
    unfold cellsFrom at hm
    unfold pushCells
    split at hm
    · rename_i hk
      rw [if_pos hk]
      have hk : k = .cell := by simpa using hk
      rw [← Heap.size_push h { cls := .type "cell", data := .cell none }] at hm
      rcases cells_mem hm with hm | ⟨h1, h2, h3⟩
      · rcases List.mem_cons.mp hm with e | hm
        · cases e
          exact .inr ⟨hk ▸ List.mem_cons_self, Nat.le_refl _, _, pushCells_keeps r _ _ _ (Heap.get?_push_size _ rfl), rfl⟩
        · exact .inl hm
      · rw [Heap.size_push] at h2
        exact .inr ⟨List.mem_cons_of_mem _ h1, Nat.le_of_succ_le h2, h3⟩
    · rename_i hk
      rw [if_neg hk]
      rcases cells_mem hm with hm | ⟨h1, h2, h3⟩
      · exact .inl hm
      · exact .inr ⟨List.mem_cons_of_mem _ h1, h2, h3⟩
theorem cells_acc : ∀ {names : List (Str × NameKind)} {n : Nat} {acc : List (Str × Addr)} {p : Str × Addr}, p ∈ acc → p ∈ cellsFrom n names acc
  | [], _, _, _, h => h
  | (m, k) :: r, n, acc, p, h => by
    unfold cellsFrom
    split
    · exact cells_acc (List.mem_cons_of_mem _ h)
    · exact cells_acc h
theorem cells_has : ∀ {names : List (Str × NameKind)} {n : Nat} {acc : List (Str × Addr)} {x : Str}, (x, .cell) ∈ names → ∃ c, (x, c) ∈ cellsFrom n names acc
  | (m, k) :: r, n, acc, x, h => by
    unfold cellsFrom
    rcases List.mem_cons.mp h with e | h
    · cases e
      exact ⟨n, cells_acc List.mem_cons_self⟩
    · split
      · exact cells_has h
      · exact cells_has h
theorem cells_inj : ∀ {names : List (Str × NameKind)} {h : Heap} {acc : List (Str × Addr)} {x y : Str} {c : Addr}, (∀ p ∈ acc, p.2 < h.objs.size) → (∀ x y c, (x, c) ∈ acc → (y, c) ∈ acc → x = y) →
    (x, c) ∈ cellsFrom h.objs.size names acc → (y, c) ∈ cellsFrom h.objs.size names acc → x = y
  | [], _, _, _, _, _, _, hi, h1, h2 => hi _ _ _ h1 h2
  | (n, k) :: r, h, acc, x, y, c, hl, hi, h1, h2 => by
    unfold cellsFrom at h1 h2
    split at h1
    · rename_i hk
      rw [if_pos hk] at h2
      rw [← Heap.size_push h { cls := .type "cell", data := .cell none }] at h1 h2
      refine cells_inj (h := h.push _) (fun p hp => ?_) (fun x y c a b => ?_) h1 h2
      · rw [Heap.size_push]
        rcases List.mem_cons.mp hp with rfl | hp
        · exact Nat.lt_succ_self _
        · exact Nat.lt_succ_of_lt (hl p hp)
      · rcases List.mem_cons.mp a with e | a <;> rcases List.mem_cons.mp b with e' | b
        · cases e; cases e'; rfl
        · cases e; exact absurd (hl _ b) (Nat.lt_irrefl _)
        · cases e'; exact absurd (hl _ a) (Nat.lt_irrefl _)
        · exact hi _ _ _ a b
    · rename_i hk
      rw [if_neg hk] at h2
      exact cells_inj hl hi h1 h2
theorem newEnv_comp {M : Model} {A : Around} {E : Value → Shared → Prop} {s : Shared} {scope : Scope} {globals : Addr} {closure : List (Str × Addr)} {qual : Str} {func : Option Addr} {code : Value} {around : Env} {builtins : Addr} {Q : Env → Shared → Prop}
    (h : Q (newEnv scope s.heap.objs.size globals (cellsFrom (s.heap.objs.size + 1) scope.names closure) qual func code (some around) builtins)
      { s with heap := pushCells (s.heap.push { cls := .type "dict", data := .dict #[] }) scope.names }) :
    wpAny M A (newFunctionEnv scope globals closure [] qual func code (some around) builtins) Q E s := by
  simp only [newFunctionEnv, Option.isSome_some, if_true]
  refine wpAny_bind (wpAny_alloc ?_)
  refine wpAny_bind (wpAny_layCells _ (fun n k c => rfl) scope.names closure _ _ ?_)
  rw [show ({ s with heap := s.heap.push { cls := .type "dict", data := .dict #[] } } : Shared).heap.objs.size = s.heap.objs.size + 1 from Heap.size_push ..]
  rw [List.forIn_nil]
  exact wpAny_bind (wpAny_pure (wpAny_pure h))
theorem lookup_relS {sc : Scope} : ∀ {names : List (Str × NameKind)} {x : Str} {k : NameKind},
    (names.map fun (n, k) => if (k == NameKind.free && sc.kind == .function && sc.names.lookup n == some .cell) then (n, NameKind.cell) else (n, k)).lookup x = some k →
    ∃ k', names.lookup x = some k' ∧ (k = k' ∨ (k' = .free ∧ k = .cell))
  | [], _, _, h => by simp at h
  | (n, k₀) :: r, x, k, h => by
    have ih := @lookup_relS sc r x k
    have h' : List.lookup x ((if (k₀ == NameKind.free && sc.kind == .function && sc.names.lookup n == some .cell) = true then (n, NameKind.cell) else (n, k₀)) :: (r.map _)) = some k := h
    cases hx : x == n with
    | true =>
      simp only [List.lookup_cons, hx]
      by_cases hc : (k₀ == NameKind.free && sc.kind == .function && sc.names.lookup n == some .cell) = true
      · rw [if_pos hc] at h'
        simp only [List.lookup_cons, hx] at h'
        cases h'
        simp only [Bool.and_eq_true, beq_iff_eq] at hc
        exact ⟨k₀, rfl, .inr ⟨hc.1.1, rfl⟩⟩
      · rw [if_neg hc] at h'
        simp only [List.lookup_cons, hx] at h'
        cases h'
        exact ⟨_, rfl, .inl rfl⟩
    | false =>
      simp only [List.lookup_cons, hx]
      by_cases hc : (k₀ == NameKind.free && sc.kind == .function && sc.names.lookup n == some .cell) = true
      · rw [if_pos hc] at h'
        simp only [List.lookup_cons, hx] at h'
        exact ih h'
      · rw [if_neg hc] at h'
        simp only [List.lookup_cons, hx] at h'
        exact ih h'
structure BlkOk (N : List Str) (sc scope : Scope) (own : List (Str × Nat)) : Prop where
  kind : scope.kind = .function
  uniq : ∀ y ∈ scope.names, scope.names.lookup y.1 = some y.2
  ix : ∀ p ∈ own, N[p.2]? = some p.1
  free : ∀ y ∈ scope.names, y.2 = .free → sc.names.lookup y.1 = some .cell ∨ sc.names.lookup y.1 = some .free
  own : ∀ y ∈ scope.names, y.2 = .local ∨ y.2 = .cell → y.1 ∈ own.map (·.1) ∨ y.1 ∉ N
def wipe (σ : St) : List Nat → St
  | [] => σ
  | v :: vs => (wipe σ vs).set v none
theorem wipe_length (σ : St) : ∀ vs : List Nat, (wipe σ vs).length = σ.length
  | [] => rfl
  | v :: vs => by unfold wipe; rw [List.length_set, wipe_length σ vs]
theorem wipe_some {σ : St} {i : Nat} {x : V} : ∀ {vs : List Nat}, (wipe σ vs)[i]? = some (some x) → σ[i]? = some (some x) ∧ i ∉ vs
  | [], h => ⟨h, by simp⟩
  | v :: vs, h => by
    unfold wipe at h
    by_cases hi : v = i
    · subst hi
      by_cases hv : v < (wipe σ vs).length
      · rw [List.getElem?_set_self hv] at h; cases h
      · rw [List.getElem?_eq_none (by simpa using hv)] at h; cases h
    · rw [List.getElem?_set_ne hi] at h
      obtain ⟨h1, h2⟩ := wipe_some h
      exact ⟨h1, by simp only [List.mem_cons, not_or]; exact ⟨fun e => hi e.symm, h2⟩⟩
abbrev Cx.blk (X : Cx) (s : Shared) (H : Hp) (scope : Scope) (cenv : Env) (fp : List Addr) : Cx := { X with s_0 := s, H_0 := H, env := cenv, outer := X.stack, ex := fp, fn := fun x => scope.names.lookup x == some .cell, pn := [], xe := fun _ _ => False }
section
variable {X : Cx} {pins : List (Addr × Obj)} {σ : St} {H : Hp} {s : Shared}
theorem block_start {scope : Scope} {own : List (Str × Nat)} {fp : List Addr} (I : Inv X pins σ H s) (ok : BlkOk X.N X.env.scope scope own) (hN : X.N.Nodup) (hfp : ∀ b ∈ fp, FpOk X pins H b ∧ b < s.heap.objs.size) :
    Inv (X.blk s H scope (compEnvC scope (cellsFrom (s.heap.objs.size + 1) scope.names (cloFrom X.env.cells scope.names [])) s.heap.objs.size X.env) fp) [] (wipe σ (own.map (·.2))) H { s with heap := pushCells (s.heap.push { cls := .type "dict", data := .dict #[] }) scope.names } := by
  have hfree : ∀ y ∈ scope.names, y.2 = .free → ∃ c, X.env.cells.lookup y.1 = some c := fun y hy e => by
    rcases ok.free y hy e with k | k
    · exact I.ok.has _ (.inl k)
    · exact I.ok.has _ (.inr k)
  generalize hcenv : compEnvC scope (cellsFrom (s.heap.objs.size + 1) scope.names (cloFrom X.env.cells scope.names [])) s.heap.objs.size X.env = cenv
  have kp : ∀ b o, s.heap.get? b = some o → (pushCells (s.heap.push { cls := .type "dict", data := .dict #[] }) scope.names).get? b = some o := fun b o e => pushCells_keeps _ _ _ _ (Heap.get?_push_of_some _ e)
  have hL : cenv.locals = s.heap.objs.size := by rw [← hcenv]; rfl
  have hcl : cenv.cells = cellsFrom (s.heap.objs.size + 1) scope.names (cloFrom X.env.cells scope.names []) := by rw [← hcenv]; rfl
  have hsc : cenv.scope = relS scope X.env.scope := by rw [← hcenv]; rfl
  rw [← Heap.size_push s.heap { cls := .type "dict", data := .dict #[] }] at hcl
  have cm : ∀ {y c}, (y, c) ∈ cloFrom X.env.cells scope.names [] → X.env.cells.lookup y = some c ∧ c < s.heap.objs.size := fun {y c} hm => by
    rcases cloFrom_mem hm with hm | ⟨h1, rfl⟩
    · cases hm
    · obtain ⟨c, hc⟩ := hfree _ h1 rfl
      rw [hc]
      obtain ⟨w, z⟩ := I.cell _ _ hc
      exact ⟨rfl, z.lt⟩
  have mem : ∀ {y c}, cenv.cells.lookup y = some c → (X.env.cells.lookup y = some c ∧ c < s.heap.objs.size) ∨ (s.heap.objs.size + 1 ≤ c ∧ CellAt (pushCells (s.heap.push { cls := .type "dict", data := .dict #[] }) scope.names) c none) := fun {y c} e => by
    rw [hcl] at e
    rcases cells_mem (PySem.mem_of_lookup e) with hm | ⟨_, h2, h3⟩
    · exact .inl (cm hm)
    · rw [Heap.size_push] at h2; exact .inr ⟨h2, h3⟩
  have look : ∀ {y}, scope.names.lookup y = some .free → ∃ c, cenv.cells.lookup y = some c ∧ X.env.cells.lookup y = some c := fun {y} hl => by
    have hy : (y, NameKind.free) ∈ scope.names := PySem.mem_of_lookup hl
    obtain ⟨c', e'⟩ := mem_lookup (cells_acc (names := scope.names) (n := (s.heap.push { cls := .type "dict", data := .dict #[] }).objs.size) (cloFrom_has (cells := X.env.cells) (acc := []) hy))
    rw [← hcl] at e'
    refine ⟨c', e', ?_⟩
    rw [hcl] at e'
    rcases cells_mem (PySem.mem_of_lookup e') with hm | ⟨h1, _, _⟩
    · exact (cm hm).1
    · have := ok.uniq _ h1
      rw [hl] at this; cases this
  have okB : (X.blk s H scope cenv fp).Ok := by
    refine ⟨I.ok.mod, by show cenv.scope.kind = _; rw [hsc]; exact ok.kind, by show cenv.globals = _; rw [← hcenv]; exact I.ok.glob, by show cenv.builtins = _; rw [← hcenv]; exact I.ok.blt, by show s.heap.objs.size ≤ cenv.locals; rw [hL]; exact Nat.le_refl _,
      fun y z c e1 e2 => ?_, fun y hy => ?_, fun y c z e => ?_, I.ok.hd, I.ok.frames, .inl rfl, fun b hb => ⟨?_, fun y c e z => ?_⟩, I.bs, Nat.le_trans I.ok.bsz I.sz, fun b o e hb => ?_, fun b hb z => ?_, I.stack, I.stkFree⟩
    · have e1 : cenv.cells.lookup y = some c := e1
      have e2 : cenv.cells.lookup z = some c := e2
      rw [hcl] at e1 e2
      refine cells_inj (fun p hp => ?_) (fun y z c a b => I.ok.inj y z c (cm a).1 (cm b).1) (PySem.mem_of_lookup e1) (PySem.mem_of_lookup e2)
      rw [Heap.size_push]
      exact Nat.lt_succ_of_lt (cm (y := p.1) (c := p.2) hp).2
    · show ∃ c, cenv.cells.lookup y = some c
      have key : ∀ k, cenv.kindOf y = some k → (k = .cell ∨ k = .free) → ∃ c, cenv.cells.lookup y = some c := fun k hk hk' => by
        unfold Env.kindOf at hk
        rw [hsc] at hk
        obtain ⟨k', e, r⟩ := lookup_relS hk
        have : k' = .cell ∨ k' = .free := by
          rcases r with rfl | ⟨rfl, _⟩
          · exact hk'
          · exact .inr rfl
        rcases this with rfl | rfl
        · obtain ⟨c, hm⟩ := cells_has (n := (s.heap.push { cls := .type "dict", data := .dict #[] }).objs.size) (acc := cloFrom X.env.cells scope.names []) (PySem.mem_of_lookup e)
          obtain ⟨c', e'⟩ := mem_lookup hm
          exact ⟨c', by rw [hcl]; exact e'⟩
        · obtain ⟨c, h1, _⟩ := look e
          exact ⟨c, h1⟩
      rcases hy with hy | hy
      · exact key _ hy (.inl rfl)
      · exact key _ hy (.inr rfl)
    · have z : (scope.names.lookup y == some NameKind.cell) = true := z
      have z : scope.names.lookup y = some .cell := by simpa using z
      have e : cenv.cells.lookup y = some c := e
      rw [hcl] at e
      rcases cells_mem (PySem.mem_of_lookup e) with hm | ⟨_, h2, _⟩
      · rcases cloFrom_mem hm with hm | ⟨h1, _⟩
        · cases hm
        · have q := ok.uniq _ h1
          rw [z] at q; cases q
      · rw [Heap.size_push] at h2
        exact Nat.le_of_succ_le h2
    · show b ≠ cenv.locals
      rw [hL]; exact Nat.ne_of_lt (hfp b hb).2
    · have e : cenv.cells.lookup y = some c := e
      rcases mem e with ⟨h1, _⟩ | ⟨h1, _⟩
      · exact (hfp b hb).1.2.2.2.2.1 y c h1 z
      · have h2 : s.heap.objs.size + 1 ≤ b := by rw [← z]; exact h1
        exact absurd (Nat.lt_of_lt_of_le (hfp b hb).2 (Nat.le_of_succ_le h2)) (Nat.lt_irrefl _)
    · rcases (hfp b hb).1.2.2.2.1 with z | z
      · exact I.ok.noex b o e z
      · exact absurd (Nat.lt_of_lt_of_le (Heap.lt_size e) (Nat.le_trans I.ok.bsz z)) (Nat.lt_irrefl _)
    · rcases List.mem_cons.mp (I.stkSub b z) with z | z
      · exact (hfp b hb).1.2.1 z
      · exact (hfp b hb).1.2.2.1 z
  refine ⟨okB, rfl, I.bare, Un.kept kp, ⟨fun _ => none, ?_, fun i y av e1 e2 e3 => ?_⟩, fun y c e => ?_, ?_, fun y c e => ?_, fun p hp => ?_, I.hok.kept kp, by rw [wipe_length]; exact I.len⟩
  · show Heap.Ns _ cenv.locals _
    rw [hL]
    exact Heap.Ns.keeps (Heap.Ns.new ..) fun b o e => pushCells_keeps _ _ _ _ e
  · obtain ⟨e2, hne⟩ := wipe_some e2
    have hfr : scope.names.lookup y = some .free ∧ (cenv.kindOf y = some .cell ∨ cenv.kindOf y = some .free) := by
      have key : ∀ k, cenv.scope.names.lookup y = some k → k = .local ∨ k = .cell ∨ k = .free → scope.names.lookup y = some .free ∧ (cenv.kindOf y = some .cell ∨ cenv.kindOf y = some .free) := fun k hk hk' => by
        have hk0 := hk
        rw [hsc] at hk
        obtain ⟨k', e, r⟩ := lookup_relS hk
        have no : ¬ (k' = .local ∨ k' = .cell) := fun hh => by
          rcases ok.own _ (PySem.mem_of_lookup e) hh with e' | e'
          · obtain ⟨p, hp, hpy⟩ := List.mem_map.mp e'
            have e3 := ok.ix p hp
            have : p.1 = y := hpy
            rw [this] at e3
            exact hne (List.mem_map.mpr ⟨p, hp, nodup_ix hN e3 e1⟩)
          · exact e' (List.mem_of_getElem? e1)
        rcases r with rfl | ⟨rfl, rfl⟩
        · rcases hk' with rfl | rfl | rfl
          · exact absurd (.inl rfl) no
          · exact absurd (.inr rfl) no
          · exact ⟨e, .inr hk0⟩
        · exact ⟨e, .inl hk0⟩
      have e3 : Vis cenv.scope y := e3
      rcases e3 with e3 | e3 | e3
      · exact key _ e3 (.inl rfl)
      · exact key _ e3 (.inr (.inl rfl))
      · exact key _ e3 (.inr (.inr rfl))
    obtain ⟨m, hn, hl⟩ := I.loc
    have hvis : Vis X.env.scope y := (ok.free _ (PySem.mem_of_lookup hfr.1) rfl).elim (fun k => .inr (.inl k)) (fun k => .inr (.inr k))
    obtain ⟨w, r, q⟩ := hl i y av e1 e2 hvis
    refine ⟨w, r, .inr ⟨hfr.2, ?_⟩⟩
    obtain ⟨c, h1, h2⟩ := look hfr.1
    rcases q with ⟨k, _⟩ | ⟨_, c', e', z⟩
    · have k : X.env.scope.names.lookup y = some .local := k
      rcases ok.free _ (PySem.mem_of_lookup hfr.1) rfl with k' | k' <;> rw [show X.env.scope.names.lookup y = _ from k'] at k <;> cases k
    · rw [h2] at e'; cases e'
      exact ⟨c, h1, z.keeps kp⟩
  · have e : cenv.cells.lookup y = some c := e
    rcases mem e with ⟨h1, _⟩ | ⟨_, z⟩
    · obtain ⟨w, z⟩ := I.cell y c h1
      exact ⟨w, z.keeps kp⟩
    · exact ⟨_, z⟩
  · show H cenv.locals = none
    rw [hL]; exact I.hok.fresh (Nat.le_refl _)
  · have e : cenv.cells.lookup y = some c := e
    rcases mem e with ⟨h1, _⟩ | ⟨h1, _⟩
    · exact I.freeC y c h1
    · exact I.hok.fresh (Nat.le_of_succ_le h1)
  · exact absurd (show p ∈ ([] : List (Addr × Obj)) ++ [] from hp) (by simp)
theorem app_ok {E : Value → Shared → Prop} {D : Addr} {xs : List V} {y : V} {v : Value} {Q : Value → Shared → Prop} (I : Inv X pins σ H s) (hD : H D = some (.lst xs)) (hz : xs.length < sizeLine) (r : RelV y v)
    (h : ∀ s', Inv X pins σ (upd H D (.lst (xs ++ [y]))) s' → Q .none s') : wpAny (model X.prog X.w) X.A (call (.builtin "list.append") [.ref D, v]) Q E s := by
  obtain ⟨hz', its, n, ri, e⟩ := I.hok D _ hD
  have hl := ri.length
  refine append_at (hsz := by rw [List.size_toArray]; omega) e fun h' sb ho' => ?_
  refine h { s with heap := h' } (I.write (t' := s.toks) (by rw [hD]; trivial) (.inl rfl) (fun b u hb q => (sb.2 b hb).trans q) ⟨_, ho'⟩ ⟨by rw [List.length_append]; exact hz, its ++ [v], n + 1, ri.append (.cons r .nil), ?_⟩)
  rw [ho']
  simp
def PTs (X : Cx) (ifs : List Expr) (t : TT) : Prop :=
  ∀ (pins : List (Addr × Obj)) (s : Shared) (σ : St) (H : Hp) (Q : Bool → Hp → Prop), Inv X pins σ H s → t σ H Q →
    wpAny (model X.prog X.w) X.A (forIn ifs true fun c r => if r = true then do let ok ← isTrue c X.env (eval c X.env); pure (ForInStep.yield ok) else pure (ForInStep.yield r)) (TP X pins σ Q) X.xe s
def tYes : TT := fun _ H Q => Q true H
theorem pts_nil : PTs X [] tYes := fun _ _ _ H _ I h => wpAny_tests_nil ⟨H, I, h⟩
end
theorem thnF {α : Type} {t : Sem α} {Q Q' : α → Shared → Prop} {M : Model} {A : Around} {E : Value → Shared → Prop} {s : Shared} (h : wpAny M A t Q (fun _ _ => False) s) (hQ : ∀ a s, Q a s → Q' a s) : wpAny M A t Q' E s := wpAny_mono h hQ fun _ _ z => False.elim z
theorem compLoop_any {prog : Program} {w : World} {A : Around} {R : Result → Shared → Prop} {s : Shared} {elt target iter : Expr} {ifs : List Expr} {scope : Scope} {pos : Pos} {it acc : Value} {env : Env} (I : Nat → Shared → Prop)
    (turn : ∀ n s, I n s → wpAny (model prog w) A (pyNext it) (fun r s₁ => match r with
      | none => R (.ok .next) s₁
      | some v => wpAny (model prog w) A (letOwnedTupleGo target it v) (fun _ s₁' => wpAny (model prog w) A (assign target env v) (fun _ s₂ =>
          wpAny (model prog w) A (forIn ifs true fun c r => if r = true then do let ok ← isTrue c env (eval c env); pure (ForInStep.yield ok) else pure (ForInStep.yield r)) (fun ok s₃ =>
            if ok = true then wpAny (model prog w) A (eval elt env) (fun x s₄ =>
              wpAny (model prog w) A (call (.builtin "list.append") [acc, x]) (fun _ s₅ => ∃ m, m < n ∧ I m s₅) (notedBy (model prog w) A env fun e s' => R (.error e) s') s₄) (notedBy (model prog w) A env fun e s' => R (.error e) s') s₃
            else ∃ m, m < n ∧ I m s₃) (notedBy (model prog w) A env fun e s' => R (.error e) s') s₂) (notedBy (model prog w) A env fun e s' => R (.error e) s') s₁') (notedBy (model prog w) A env fun e s' => R (.error e) s') s₁) (notedBy (model prog w) A env fun e s' => R (.error e) s') s)
    (n : Nat) (h : I n s) :
    codeAny (model prog w) A (.compLoop (.ListComp elt [⟨target, iter, ifs, 0⟩] scope pos) 0 it acc env) R s := by
  refine codeAny_loop rfl I (fun n s hI => ?_) n h
  show wpAny _ A ((compTurn (.ListComp elt [⟨target, iter, ifs, 0⟩] scope pos) 0 it acc env).onRaise (fun x => do noteFrame x env; theTreesLotGoes x)) _ _ s
  refine wpAny_noted ?_
  rw [compTurn_list]
  refine wpAny_bind (wpAny_standAt (wpAny_bind (wpAny_mono (turn n s hI) (fun r s₁ h₁ => ?_) fun _ _ h' => h')))
  cases r with
  | none => exact wpAny_pure h₁
  | some v =>
    refine wpAny_bind (wpAny_mono h₁ (fun _ s₁' h₁' => ?_) fun _ _ h' => h')
    refine wpAny_bind (wpAny_mono h₁' (fun _ s₂ h₂ => wpAny_bind (wpAny_mono h₂ (fun ok s₃ h₃ => ?_) fun _ _ h' => h')) fun _ _ h' => h')
    cases ok with
    | false => exact wpAny_pure ⟨rfl, h₃⟩
    | true =>
      exact wpAny_bind (wpAny_bind (wpAny_mono h₃ (fun x s₄ h₄ => wpAny_bind (wpAny_mono h₄ (fun _ s₅ h₅ => wpAny_pure (wpAny_pure ⟨rfl, h₅⟩)) fun _ _ h' => h')) fun _ _ h' => h'))
section
variable {X : Cx}
def tLc (wi : TI) (g : TG) (tt : TT) (te : TE) (vs : List Nat) : TE := fun σ H Q => wi σ H fun J H1 => ∀ D, H1 D = none → ∃ W : Nat → Nat → Hp → Prop, (∃ m, W 0 m (upd H1 D (.lst []))) ∧ ∀ i m H, W i m H →
  (J.stop i H ∧ Q (.ref D) H) ∨ (J.go i H ∧ ∃ Nx : Hp → Prop, (∀ H', Nx H' → ∃ m', m' < m ∧ W (i + 1) m' H') ∧ ∀ x H', J.yld i H x H' → g x (wipe σ vs) H' fun σ2 H2 => wipe σ2 vs = wipe σ vs ∧ tt σ2 H2 fun b H3 =>
    if b = true then te σ2 H3 fun y H4 => ∃ acc, H4 D = some (.lst acc) ∧ acc.length < sizeLine ∧ Nx (upd H4 D (.lst (acc ++ [y]))) else Nx H3)
theorem lc_core {pins : List (Addr × Obj)} {s : Shared} {σ : St} {H : Hp} {Q : VK} {elt tg iter : Expr} {ifs : List Expr} {scope : Scope} {own : List (Str × Nat)} {pos pos' : Pos} {wi : TI} {g : TG} {tt : TT} {te : TE} {use : Option (Value → Sem Unit)} {Qf : Value → Shared → Prop}
    (hc : X.calm = true) (hN : X.N.Nodup) (I : Inv X pins σ H s) (hi : PI X tg iter wi) (ok : BlkOk X.N X.env.scope scope own)
    (hg : ∀ (s : Shared) (H : Hp) (C : Addr) (cl : List (Str × Addr)) (fp : List Addr), PG (X.blk s H scope (compEnvC scope cl C X.env) fp) tg g) (ht : ∀ (s : Shared) (H : Hp) (C : Addr) (cl : List (Str × Addr)) (fp : List Addr), PTs (X.blk s H scope (compEnvC scope cl C X.env) fp) ifs tt)
    (he : ∀ (s : Shared) (H : Hp) (C : Addr) (cl : List (Str × Addr)) (fp : List Addr), PE (X.blk s H scope (compEnvC scope cl C X.env) fp) elt te) (hs : ∀ x, foldedSetIterable iter X.env x = pure x)
    (h : tLc wi g tt te (own.map (·.2)) σ H Q)
    (hRR : ∀ D C s' m H', Inv X pins σ H' s' → Q (.ref D) H' → s'.heap.Ns C m → FpOk X pins H' C → compPost (model X.prog X.w) X.A X.xe use Qf (.ref D) C (.ok .next) s') :
    wpAny (model X.prog X.w) X.A (comprehension (.ListComp elt [⟨tg, iter, ifs, 0⟩] scope pos) scope X.env pos' (newList []) false (eval iter X.env) use) Qf X.xe s := by
  have hfree : ∀ y ∈ scope.names, y.2 = .free → ∃ c, X.env.cells.lookup y.1 = some c := fun y hy e => by
    rcases ok.free y hy e with k | k
    · exact I.ok.has _ (.inl k)
    · exact I.ok.has _ (.inr k)
  refine wpAny_comprehension_free (use := use) rfl hs (closure_ok hfree) ok.kind (fun y hy e => by rw [ok.uniq y hy, e])
    (thn (hi pins s σ H _ I h) fun xv s1 hx => thn hx fun itv s2 h2 => ?_)
  obtain ⟨it, fp, tn, J, H2, e, I2, T, st2, f2, q⟩ := h2
  subst e
  refine wpAny_newObj_type (newEnv_comp ?_) (by show 0 ≤ sizeLine; decide)
  generalize hD : s2.heap.objs.size = D
  have hDn : H2 D = none := I2.hok.fresh (Nat.le_of_eq hD)
  obtain ⟨W, ⟨m0, w0⟩, turn⟩ := q D hDn
  -- the new list
  generalize hs3 : ({ s2 with heap := s2.heap.push { cls := .type "list", data := .seq ([] : List Value).toArray } } : Shared) = s3
  have I3 : Inv X pins σ (upd H2 D (.lst [])) s3 := by
    rw [← hs3]
    refine I2.laid (t' := s2.toks) (fun b o e => Heap.get?_push_of_some _ e) (Nat.le_of_eq hD) ⟨Nat.zero_le _, [], 0, .nil, ?_⟩
    rw [← hD]
    exact Heap.get?_push_size _ rfl
  have h3 : s3.heap = s2.heap.push { cls := .type "list", data := .seq ([] : List Value).toArray } := by rw [← hs3]
  have sz : ∀ b ∈ fp, b < s2.heap.objs.size := fun b hb => by
    obtain ⟨o, e, _⟩ := T.obj _ _ st2 b hb
    exact Heap.lt_size e
  have f3 : ∀ b ∈ fp, FpOk X pins (upd H2 D (.lst [])) b ∧ b < s3.heap.objs.size := fun b hb => by
    have hlt := sz b hb
    refine ⟨⟨?_, (f2 b hb).2⟩, by rw [h3, Heap.size_push]; exact Nat.lt_succ_of_lt hlt⟩
    rw [upd_ne (by rw [← hD]; exact Nat.ne_of_lt hlt)]
    exact (f2 b hb).1
  have st3 : tn 0 s3.heap := T.keep _ _ _ st2 fun b _ o e => by rw [h3]; exact Heap.get?_push_of_some _ e
  have I4 := block_start I3 ok hN f3
  have pg := hg s3 (upd H2 D (.lst [])) s3.heap.objs.size (cellsFrom (s3.heap.objs.size + 1) scope.names (cloFrom X.env.cells scope.names [])) fp
  have pt := ht s3 (upd H2 D (.lst [])) s3.heap.objs.size (cellsFrom (s3.heap.objs.size + 1) scope.names (cloFrom X.env.cells scope.names [])) fp
  have pe := he s3 (upd H2 D (.lst [])) s3.heap.objs.size (cellsFrom (s3.heap.objs.size + 1) scope.names (cloFrom X.env.cells scope.names [])) fp
  show codeAny _ _ (.compStart (.ListComp elt [⟨tg, iter, ifs, 0⟩] scope pos) 0 (.ref it) (.ref D) (compEnvC scope (cellsFrom (s3.heap.objs.size + 1) scope.names (cloFrom X.env.cells scope.names [])) s3.heap.objs.size X.env)) (compPost (model X.prog X.w) X.A X.xe use Qf (.ref D) s3.heap.objs.size) { s3 with heap := pushCells (s3.heap.push { cls := .type "dict", data := .dict #[] }) scope.names }
  have nfp : ∀ b ∈ fp, (upd H2 D (.lst [])) b = none := fun b hb => (f3 b hb).1.1
  generalize hce : compEnvC scope (cellsFrom (s3.heap.objs.size + 1) scope.names (cloFrom X.env.cells scope.names [])) s3.heap.objs.size X.env = ce at I4 pg pt pe ⊢
  have cL : ce.locals = s3.heap.objs.size := by subst hce; rfl
  generalize hH3 : upd H2 D (.lst []) = H3 at I3 I4 pg pt pe w0 nfp f3
  generalize hs4 : ({ s3 with heap := pushCells (s3.heap.push { cls := .type "dict", data := .dict #[] }) scope.names } : Shared) = s4 at I4 ⊢
  have st4 : tn 0 s4.heap := T.keep _ _ _ st3 fun b _ o e => by rw [← hs4]; exact pushCells_keeps _ _ _ _ (Heap.get?_push_of_some _ e)
  have stat : ∀ {σ' : St} {H' : Hp} {s' : Shared}, Inv (X.blk s3 H3 scope ce fp) [] σ' H' s' → (∀ b ∈ fp, H' b = none) → ∀ b ∈ fp, FpOk (X.blk s3 H3 scope ce fp) [] H' b := fun {σ' H' s'} I' hn b hb =>
    ⟨hn b hb, (I'.ok.exf b hb).1, I'.ok.exfs b hb, .inl hb, fun x c e => (I'.ok.exf b hb).2 x c e, fun p hp => absurd (show p ∈ ([] : List (Addr × Obj)) ++ [] from hp) (by simp)⟩
  have loop : codeAny (model X.prog X.w) X.A (.compLoop (.ListComp elt [⟨tg, iter, ifs, 0⟩] scope pos) 0 (.ref it) (.ref D) ce) (compPost (model X.prog X.w) X.A X.xe use Qf (.ref D) s3.heap.objs.size) s4 := by
    refine compLoop_any (fun n s' => ∃ i H', Inv (X.blk s3 H3 scope ce fp) [] (wipe σ (own.map (·.2))) H' s' ∧ tn i s'.heap ∧ (∀ b ∈ fp, H' b = none) ∧ W i n H') ?_ m0 ⟨0, H3, I4, st4, nfp, w0⟩
    rintro n s5 ⟨i, H5, I5, st5, n5, w5⟩
    rcases turn i n H5 w5 with ⟨stop, qq⟩ | ⟨go, Nx, hNx, step⟩
    · have td := T.done (X.blk s3 H3 scope ce fp) rfl rfl rfl hc i [] s5 _ H5 (fun _ _ => False) I5 (stat I5 n5) st5 stop
      refine thnF td fun r s6 ⟨hr, I6⟩ => ?_
      subst hr
      -- back in the def's context
      have I7 : Inv X pins σ H5 s6 := I3.call' (ch := fp) I6.os I6.base I6.hok I6.bare fun b hb => ⟨(f3 b hb).1.2.2.2.1, (f3 b hb).1.2.1, (f3 b hb).1.2.2.2.2.1, (f3 b hb).1.2.2.2.2.2⟩
      have nC : H5 s3.heap.objs.size = none := by
        have z : H5 ce.locals = none := I6.free
        rw [cL] at z
        exact z
      obtain ⟨m, hn, _⟩ := I6.loc
      have hn : s6.heap.Ns ce.locals m := hn
      rw [cL] at hn
      exact hRR D s3.heap.objs.size s6 m H5 I7 qq hn (I3.fpOk (Nat.le_refl _) nC)
    · have ti := T.item (X.blk s3 H3 scope ce fp) rfl rfl rfl hc i [] s5 _ H5 (fun _ _ => False) I5 (stat I5 n5) st5 go
      refine thnF ti fun r s6 ⟨u, hr, h6⟩ => ?_
      subst hr
      refine thnF h6 fun _ s7 ⟨x, H7, I7, r7, y7, st7, n7⟩ => ?_
      have I7' := I7.pinned (stat I7 n7) (T.obj _ _ st7)
      refine thnF (pg _ s7 _ H7 x u _ I7' r7 (step x H7 y7)) fun _ s8 ⟨σ8, H8, I8, hw8, q8⟩ => ?_
      refine thnF (pt _ s8 σ8 H8 _ I8 q8) fun b s9 ⟨H9, I9, q9⟩ => ?_
      -- the turn's end
      have fin : ∀ {s' : Shared} {H' : Hp}, Inv (X.blk s3 H3 scope ce fp) ([] ++ pinsAt fp s7.heap) σ8 H' s' → Nx H' → ∃ m, m < n ∧ ∃ i H', Inv (X.blk s3 H3 scope ce fp) [] (wipe σ (own.map (·.2))) H' s' ∧ tn i s'.heap ∧ (∀ b ∈ fp, H' b = none) ∧ W i m H' := fun {s' H'} I' nx => by
        obtain ⟨m', hm, w'⟩ := hNx H' nx
        have pin' : ∀ b ∈ fp, ∀ o, s7.heap.get? b = some o → s'.heap.get? b = some o ∧ H' b = none := fun b hb o e =>
          let z := I'.pin (b, o) (List.mem_append_right _ (List.mem_append_right _ (mem_pinsAt hb e)))
          ⟨z.1, z.2.1⟩
        have hl : (wipe σ (own.map (·.2))).length = σ8.length := by rw [← hw8, wipe_length]
        refine ⟨m', hm, i + 1, H', (I'.unpinned (pins := [])).weak hl (fun j v e => ?_), T.keep _ _ _ st7 fun b hb o e => (pin' b hb o e).1, fun b hb => ?_, w'⟩
        · rw [← hw8] at e
          exact (wipe_some e).1
        · obtain ⟨o, e, _⟩ := T.obj _ _ st7 b hb
          exact (pin' b hb o e).2
      cases b with
      | false =>
        simp only [Bool.false_eq_true, if_false] at q9 ⊢
        exact fin I9 q9
      | true =>
        simp only [if_true] at q9 ⊢
        refine thnF (pe _ s9 σ8 H9 _ I9 q9) fun z s10 ⟨yv, H10, I10, r10, acc, hD10, hz10, nx⟩ => ?_
        exact app_ok (X := X.blk s3 H3 scope ce fp) I10 hD10 hz10 r10 fun s11 I11 => fin I11 nx
  exact codeAny_compStart_list loop (T.self X.A 0 _ _ _ st4 loop)
theorem pe_lc {elt tg iter : Expr} {ifs : List Expr} {scope : Scope} {own : List (Str × Nat)} {pos : Pos} {wi : TI} {g : TG} {tt : TT} {te : TE} (hc : X.calm = true) (hN : X.N.Nodup) (hi : PI X tg iter wi) (ok : BlkOk X.N X.env.scope scope own)
    (hg : ∀ (s : Shared) (H : Hp) (C : Addr) (cl : List (Str × Addr)) (fp : List Addr), PG (X.blk s H scope (compEnvC scope cl C X.env) fp) tg g) (ht : ∀ (s : Shared) (H : Hp) (C : Addr) (cl : List (Str × Addr)) (fp : List Addr), PTs (X.blk s H scope (compEnvC scope cl C X.env) fp) ifs tt)
    (he : ∀ (s : Shared) (H : Hp) (C : Addr) (cl : List (Str × Addr)) (fp : List Addr), PE (X.blk s H scope (compEnvC scope cl C X.env) fp) elt te) (hs : ∀ x, foldedSetIterable iter X.env x = pure x := by intro _; rfl) :
    PE X (.ListComp elt [⟨tg, iter, ifs, 0⟩] scope pos) (tLc wi g tt te (own.map (·.2))) := by
  intro pins s σ H Q I h
  rw [eval_ListComp]
  refine lc_core hc hN I hi ok hg ht he hs h fun D C s' m H' I' q hn f => ⟨m, hn, fun h'' sb => ?_⟩
  obtain ⟨f0, f1, f2, f3, f4, f5⟩ := f
  exact ⟨.ref D, H', I'.turned (t' := s'.toks) (fun b o hb e => (sb.2 b hb).trans e) f0 f1 f3 f4 f5, rfl, q⟩
theorem ps_setLc {i : Nat} {y : Str} {py : Pos} {elt tg iter : Expr} {ifs : List Expr} {scope : Scope} {own : List (Str × Nat)} {pos spos : Pos} {wi : TI} {g : TG} {tt : TT} {te : TE} (hc : X.calm = true) (hN : X.N.Nodup) (hy : X.N[i]? = some y) (hyl : X.env.scope.names.lookup y = some .local)
    (hsw : swapsWith (.ListComp elt [⟨tg, iter, ifs, 0⟩] scope pos) (some (.Name y py)) spos.line X.env = pure true) (hi : PI X tg iter wi) (ok : BlkOk X.N X.env.scope scope own)
    (hg : ∀ (s : Shared) (H : Hp) (C : Addr) (cl : List (Str × Addr)) (fp : List Addr), PG (X.blk s H scope (compEnvC scope cl C X.env) fp) tg g) (ht : ∀ (s : Shared) (H : Hp) (C : Addr) (cl : List (Str × Addr)) (fp : List Addr), PTs (X.blk s H scope (compEnvC scope cl C X.env) fp) ifs tt)
    (he : ∀ (s : Shared) (H : Hp) (C : Addr) (cl : List (Str × Addr)) (fp : List Addr), PE (X.blk s H scope (compEnvC scope cl C X.env) fp) elt te) (hs : ∀ x, foldedSetIterable iter X.env x = pure x := by intro _; rfl) :
    PS X (.Assign [.Name y py] (.ListComp elt [⟨tg, iter, ifs, 0⟩] scope pos) spos) (tAsg (tLc wi g tt te (own.map (·.2))) (gName i)) := by
  intro pins s σ H D I h
  rw [exec_Assign_Name_used _ _ _ _ hsw]
  refine wpAny_bind (wpAny_standAt (wpAny_bind ?_))
  show wpAny _ X.A (do let _ ← comprehension (.ListComp elt [⟨tg, iter, ifs, 0⟩] scope pos) scope X.env (firstIterPos [⟨tg, iter, ifs, 0⟩] pos) (newList []) false (eval iter X.env) (some (assign (.Name y py) X.env))) _ _ s
  have h : tLc wi g tt te (own.map (·.2)) σ H (fun x H1 => gName i x σ H1 D.nx) := h
  refine wpAny_bind (thn (lc_core (Qf := fun _ s' => SP X pins D .next s') hc hN I hi ok hg ht he hs h fun L C s' m H' I' q hn f => ?_) fun _ s' hq => wpAny_pure (wpAny_pure hq))
  show wpAny _ _ (assign (.Name y py) X.env (.ref L)) _ _ _
  refine wpAny_assign_Name (store_ok2 (v := V.ref L) I' hN hy (.inl hyl) rfl (fun s2 I2 ⟨a, sb, ha⟩ => ?_) (.inr hyl))
  obtain ⟨f0, f1, f2, f3, f4, f5⟩ := f
  have haC : C ≠ a := by
    rcases ha with z | z
    · rw [z]; exact f1
    · exact fun e => f4 y a z e.symm
  refine ⟨m, hn.sameBut sb haC, fun h3 sb3 => ?_⟩
  exact ⟨_, H', I2.turned (t' := s2.toks) (fun b o hb e => (sb3.2 b hb).trans e) f0 f1 f3 f4 f5, q⟩
end
end L2
namespace L2
open PySem PySem.Spec PyProof.Rows
section
variable {κ : Type} [DecidableEq κ]
def dropK (kvs : List (κ × V)) (k : κ) : List (κ × V) := kvs.filter fun kv => decide (kv.1 ≠ k)
theorem RelO.getD {o : Option V} {u : Option Value} {d : V} {d' : Value} (r : RelO o u) (rd : RelV d d') : RelV (o.getD d) (u.getD d') := by
  cases o with
  | none => cases u with
    | none => exact rd
    | some _ => exact (show False from r).elim
  | some _ => cases u with
    | none => exact (show False from r).elim
    | some _ => exact r
theorem KV.drop {kvs : List (κ × V)} {vs : List (κ × Value)} (r : KV kvs vs) (k : κ) : KV (dropK kvs k) (without vs k) := by
  unfold KV at r ⊢
  unfold dropK without
  induction r with
  | nil => exact .nil
  | @cons p q ps qs h t ih =>
    obtain ⟨h1, h2⟩ := h
    rw [List.filter_cons, List.filter_cons]
    by_cases e : p.1 = k
    · have a : ¬ decide (p.1 ≠ k) = true := by simp [e]
      have b : ¬ decide (q.1 ≠ k) = true := by simp [h1.symm.trans e]
      rw [if_neg a, if_neg b]; exact ih
    · have e' : ¬ q.1 = k := fun z => e (h1.trans z)
      have a : decide (p.1 ≠ k) = true := by simp [e]
      have b : decide (q.1 ≠ k) = true := by simp [e']
      rw [if_pos a, if_pos b]; exact .cons ⟨h1, h2⟩ ih
theorem KV.keys {kvs : List (κ × V)} {vs : List (κ × Value)} (r : KV kvs vs) : kvs.map (·.1) = vs.map (·.1) := by
  unfold KV at r
  induction r with
  | nil => rfl
  | cons h t ih => rw [List.map_cons, List.map_cons, ih, h.1]
theorem KV.length {kvs : List (κ × V)} {vs : List (κ × Value)} (r : KV kvs vs) : kvs.length = vs.length := Paired.length r
end
abbrev KT (H : Hp) : List (List Key × V) → List (List Key × Addr × Value) → Prop := Paired fun p q => p.1 = q.1 ∧ H q.2.1 = some (.tup (p.1.map kV)) ∧ RelV p.2 q.2.2
theorem KT.keeps {H H' : Hp} {kvs : List (List Key × V)} {xs : List (List Key × Addr × Value)} (r : KT H kvs xs) (ht : ∀ b ys, H b = some (.tup ys) → H' b = some (.tup ys)) : KT H' kvs xs :=
  Paired.mapP r fun _ _ z => ⟨z.1, ht _ _ z.2.1, z.2.2⟩
structure M1 (X : Cx) (o : Expr) (m : Str) (apos : Pos) (e : Expr) (cpos : Pos) : Prop where
  base : attributeBase o m X.env (eval o X.env) = eval o X.env
  few : ((backTo cpos (starEach [e] X.env)).all (fun x => !x.1) && (backToKw cpos (keywordEach [] X.env)).all (fun x => x.1.isSome)
    && decide (([e] : List Expr).length + ([] : List Keyword).length + (if ([] : List Keyword).isEmpty then 0 else 1) < 30)) = true
  line : (apos.endLine == cpos.line) = true
  trees : backTo cpos (starEach [e] X.env) = [(false, eval e X.env)]
structure M2 (X : Cx) (o : Expr) (m : Str) (apos : Pos) (e f : Expr) (cpos : Pos) : Prop where
  base : attributeBase o m X.env (eval o X.env) = eval o X.env
  few : ((backTo cpos (starEach [e, f] X.env)).all (fun x => !x.1) && (backToKw cpos (keywordEach [] X.env)).all (fun x => x.1.isSome)
    && decide (([e, f] : List Expr).length + ([] : List Keyword).length + (if ([] : List Keyword).isEmpty then 0 else 1) < 30)) = true
  line : (apos.endLine == cpos.line) = true
  trees : backTo cpos (starEach [e, f] X.env) = [(false, eval e X.env), (false, eval f X.env)]
end L2
namespace L2
open PySem PySem.Spec PyProof.Rows
theorem boot_reversed5 : bootBuiltins "reversed" = some (.type "reversed") := by decide +kernel
section
variable {X : Cx} {pins : List (Addr × Obj)} {σ : St} {H : Hp} {s : Shared} {h' : Heap}
theorem Inv.turnedNew {t' : Nat} {ch : List Addr} {T : Addr} {ob : HO} (I : Inv X pins σ H s) (k : ∀ b o, b ∉ ch → s.heap.get? b = some o → h'.get? b = some o) (hf : ∀ b ∈ ch, FpOk X pins H b) (hT : s.heap.objs.size ≤ T)
    (new : ObjOk X.prog X.w (upd H T ob) h' T ob) : Inv X pins σ (upd H T ob) { s with heap := h', toks := t' } := by
  have hn : H T = none := I.hok.fresh hT
  have nit : ∀ b u, H b = some u → b ∉ ch := fun b u e z => by
    have q := (hf b z).1
    rw [q] at e; cases e
  refine I.step (g' := s.gens) (d' := s.drawn) (ch := ch) (fun b hb => ⟨(hf b hb).2.2.2.1, (hf b hb).2.1, (hf b hb).2.2.2.2.1, (hf b hb).2.2.2.2.2⟩) (fun b o _ _ hc e _ => k b o hc e) (fun b o _ _ hc e _ => ⟨o.slots, k b o hc e⟩)
    (fun b o _ e n => ?_) (fun b o hc e => ⟨o, k b o hc e⟩) (fun b xs e => ?_) (fun b o u e => ?_) (fun b ps e => ⟨#[], ?_⟩) (fun m hm => ?_) (fun b u e => ?_) I.bare
  · rw [upd_ne (Nat.ne_of_lt (Nat.lt_of_lt_of_le (Heap.lt_size e) hT))]; exact n
  · rw [upd_ne (ne_of_none e hn)]; exact e
  · rw [upd_ne (ne_of_none e hn)]; exact e
  · rw [upd_ne (ne_of_none e hn), e]; simp
  · obtain ⟨o, es, ep, ho, r⟩ := hm
    exact ⟨o, es, ep, k _ o (fun z => (hf _ z).2.1 rfl) ho, r⟩
  · by_cases hb : b = T
    · subst hb
      rw [upd_same] at e
      cases e
      exact new
    · rw [upd_ne hb] at e
      refine (I.hok b u e).stay (fun c v hc q => k c v ?_ q) (fun c q => by rw [upd_ne (ne_of_none q hn)]; exact q) fun c xs q => by rw [upd_ne (ne_of_none q hn)]; exact q
      rcases hc with z | z
      · rw [z]; exact nit b u e
      · exact nit c _ z
end
section
variable {X : Cx}
theorem pi_one {tg : Expr} {pins : List (Addr × Obj)} {σ : St} {H : Hp} {s : Shared} {R : It → Hp → Prop} {J : It} {tn : Nat → Heap → Prop} {tk : Nat} (I : Inv X pins σ H s) (o : Obj)
    (T : Turn X.prog X.w X.K tg J [s.heap.objs.size] s.heap.objs.size tn) (st : tn 0 (s.heap.push o)) (q : R J H) : PIE X pins σ tg R (.ref s.heap.objs.size) { s with heap := s.heap.push o, toks := tk } := by
  refine ⟨s.heap.objs.size, [s.heap.objs.size], tn, J, H, rfl, I.kept fun b ob e => Heap.get?_push_of_some _ e, T, st, fun b hb => ?_, q⟩
  have e : b = s.heap.objs.size := by simpa using hb
  subst e
  exact I.fpOk (Nat.le_refl _) (I.hok.fresh (Nat.le_refl _))
end
def RgC (i j c : Int) (n : Nat) : Prop := c ≠ 0 ∧ c.natAbs < 1073741824 ∧ Builtin.Range.small i j c = true ∧ Builtin.Range.rangeSize i j c = n
def Its (x : Str) : It := ⟨fun i _ => i < x.cps.size, fun i H v H' => H' = H ∧ ∃ c, x.cps[i]? = some c ∧ v = .str ⟨#[c]⟩, fun i _ => x.cps.size ≤ i⟩
theorem turn_str {P : Program} {w : World} {K : PySem.W.Frag} {tg : Expr} (it : Addr) (x : Str) (t : Tok) (ty : String) (hty : ty = "str_ascii_iterator" ∨ ty = "str_iterator") :
    Turn P w K tg (Its x) [it] it (fun i h => h.IsStrIter it ty x t i) where
  mem := by simp
  obj := fun i h st b hb => by
    have e : b = it := by simpa using hb
    subst e
    obtain ⟨o, e, c, d⟩ := st
    exact ⟨o, e, fun v z => by rw [d] at z; cases z⟩
  keep := fun i h h' st k => let ⟨o, ho, r⟩ := st; ⟨o, k it (by simp) o ho, r⟩
  item := by
    intro X hP hw hK hc i pins s σ H E I hf st hg
    subst hP hw hK
    obtain ⟨f0, f1, f2, f3, f4, f5⟩ := hf it (by simp)
    have W : Walks X.prog X.w X.A it [it] [it] x.cps.size (SignAt x) (fun i h => h.IsStrIter it ty x t i) := by
      rcases hty with e | e
      · rw [e]; exact Walks.strAscii (I.ok.hd hc) it x t
      · rw [e]; exact Walks.strWide (I.ok.hd hc) it x t
    have hno : ["enumerate", "zip", "dict_itemiterator", "dict_reverseitemiterator", "odict_iterator", "itertools.zip_longest", "itertools.pairwise"].contains ty = false := by
      rcases hty with e | e
      · rw [e]; decide
      · rw [e]; decide
    refine W.item i s _ _ hg st fun v h' tk hv st' kk => ?_
    obtain ⟨c, u, hcx, rfl⟩ := hv
    have I1 : Inv X pins σ H { s with heap := h', toks := tk } := I.turned (fun b o hb e => kk b o (by simpa using hb) e) f0 f1 f3 f4 f5
    obtain ⟨oi, e, cc, dd⟩ := id st'
    exact ⟨_, rfl, go_of (s := { s with heap := h', toks := tk }) e cc dd hno ⟨.str ⟨#[c]⟩, H, I1, ⟨u, rfl⟩, ⟨rfl, c, hcx, rfl⟩, st', fun b hb => (hf b hb).1⟩⟩
  done := by
    intro X hP hw hK hc i pins s σ H E I hf st hg
    subst hP hw hK
    obtain ⟨f0, f1, f2, f3, f4, f5⟩ := hf it (by simp)
    have hx : x.cps[i]? = none := Array.getElem?_eq_none hg
    rcases hty with e | e
    · rw [e] at st
      exact wpAny_pyNext_ascii_end (I.ok.hd hc) st hx fun h' eb => ⟨rfl, I.turned (t' := s.toks) (fun b o hb e => eb b o hb e) f0 f1 f3 f4 f5⟩
    · rw [e] at st
      exact wpAny_pyNext_wide_end (I.ok.hd hc) st hx fun h' eb => ⟨rfl, I.turned (t' := s.toks) (fun b o hb e => eb b o hb e) f0 f1 f3 f4 f5⟩
  self := fun A i s Q E st h => by
    rcases hty with e | e
    · rw [e] at st; exact wpAny_pyIter_striter_ascii st h
    · rw [e] at st; exact wpAny_pyIter_striter_wide st h
def iStr (te : TE) : TI := fun σ H R => te σ H fun v H1 => ∃ x, v = .str x ∧ R (Its x) H1
theorem pi_str {X : Cx} {tg e : Expr} {te : TE} (he : PE X e te) : PI X tg e (iStr te) := by
  intro pins s σ H R I h
  refine thn (he pins s σ H _ I h) fun v s1 ⟨y, H1, I1, r1, x, ex, q⟩ => ?_
  subst ex
  obtain ⟨t, rfl⟩ := r1
  cases ha : x.cps.all (· < 128)
  · exact wpAny_pyIter_wide ha (pi_one (tk := s1.toks) I1 _ (turn_str _ x t "str_iterator" (.inr rfl)) ⟨_, Heap.get?_push_size _ rfl, rfl, rfl⟩ q)
  · exact wpAny_pyIter_ascii ha (pi_one (tk := s1.toks) I1 _ (turn_str _ x t "str_ascii_iterator" (.inl rfl)) ⟨_, Heap.get?_push_size _ rfl, rfl, rfl⟩ q)
def Ite (K : PySem.W.Frag) (a : Addr) : It :=
  ⟨fun i H => ∃ (xs : List V) (x : V), SqL K H a xs ∧ xs[i]? = some x, fun i H v H' => ∃ T x, v = .ref T ∧ H T = none ∧ H' = upd H T (.tup [.int (i : Nat), x]) ∧ ∀ xs, SqL K H a xs → xs[i]? = some x, fun i H => ∃ xs : List V, SqL K H a xs ∧ xs.length ≤ i⟩
theorem turn_enum {P : Program} {w : World} {K : PySem.W.Frag} {elts : List Expr} {kk : Nat} {tpos : Pos} (a e it : Addr) :
    Turn P w K (.Tuple elts kk tpos) (Ite K a) [e, it] e (fun i h => (∃ old, IsEnum h e it ((i : Nat) : Int) old) ∧ h.IsListIter it a i ∧ e ≠ it) where
  mem := by simp
  obj := fun i h st b hb => by
    obtain ⟨⟨old, he⟩, ⟨o, ho, hc, hd⟩, _⟩ := st
    have e' : b = e ∨ b = it := by simpa using hb
    rcases e' with z | z
    · rw [z]; exact ⟨_, he, fun v q => nomatch q⟩
    · rw [z]; exact ⟨o, ho, fun v q => by rw [hd] at q; cases q⟩
  keep := fun i h h' st k => let ⟨⟨old, he⟩, hi, hne⟩ := st; ⟨⟨old, k e (by simp) _ he⟩, hi.at fun o q => k it (by simp) o q, hne⟩
  item := by
    intro X hP hw hK hc i pins s σ H E I hf st hg
    subst hP hw hK
    obtain ⟨⟨old, he⟩, hit, hne⟩ := st
    obtain ⟨xs, x, hq, hx⟩ := hg
    obtain ⟨its, rv, p, hz⟩ := I.list hq
    obtain ⟨u, hu, ru⟩ := rv.get hx
    have hel : e < s.heap.objs.size := Heap.lt_size he
    have hil : it < s.heap.objs.size := by obtain ⟨_, q, _⟩ := hit; exact Heap.lt_size q
    refine wpAny_pyNext_enum_item he hit p.isList (x := u) (by simpa using hu) hne fun h' ho hit' hT hsz hk => ?_
    refine ⟨_, rfl, wpAny_letOwnedTupleGo_enum (s := { s with heap := h', toks := s.toks + 1 }) ho fun h'' he' sb => ?_⟩
    have hT2 : h''.get? s.heap.objs.size = some { cls := .type "tuple", data := .seq #[.int i s.toks, u] } := (sb.2 _ (Nat.ne_of_gt hel)).trans hT
    have new : ObjOk X.prog X.w (upd H s.heap.objs.size (.tup [.int (i : Nat), x])) h'' s.heap.objs.size (.tup [.int (i : Nat), x]) :=
      ⟨by show 2 ≤ sizeLine; decide, [.int i s.toks, u], .cons ⟨_, rfl⟩ (.cons ru .nil), ⟨_, hT2, rfl, _, rfl⟩⟩
    have I1 : Inv X pins σ (upd H s.heap.objs.size (.tup [.int (i : Nat), x])) { s with heap := h'', toks := s.toks + 1 } :=
      I.turnedNew (ch := [e, it]) (fun b ob hb q => (sb.2 b (fun z => hb (by simp [z]))).trans (hk b ob (fun z => hb (by simp [z])) (fun z => hb (by simp [z])) q)) hf (Nat.le_refl _) new
    refine ⟨.ref s.heap.objs.size, _, I1, rfl, ⟨_, x, rfl, I.hok.fresh (Nat.le_refl _), rfl, fun ys hy => by rw [I.list_inj hy hq]; exact hx⟩, ⟨⟨u, ?_⟩, hit'.at fun o q => (sb.2 it (Ne.symm hne)).trans q, hne⟩, fun b hb => ?_⟩
    · have e1 : ((i + 1 : Nat) : Int) = (i : Int) + 1 := by omega
      rw [e1]; exact he'
    · have hb' : b < s.heap.objs.size := by
        have e' : b = e ∨ b = it := by simpa using hb
        rcases e' with z | z
        · rw [z]; exact hel
        · rw [z]; exact hil
      rw [upd_ne (Nat.ne_of_lt hb')]
      exact (hf b hb).1
  done := by
    intro X hP hw hK hc i pins s σ H E I hf st hg
    subst hP hw hK
    obtain ⟨⟨old, he⟩, hit, hne⟩ := st
    obtain ⟨xs, hq, hx⟩ := hg
    obtain ⟨its, rv, p, hz⟩ := I.list hq
    obtain ⟨f0, f1, f2, f3, f4, f5⟩ := hf it (by simp)
    have hl := rv.length
    exact wpAny_pyNext_enum_end (I.ok.hd hc) he hit p.isList (by simp; omega) fun h' eb => ⟨rfl, I.turned (t' := s.toks) (fun b o hb q => eb b o hb q) f0 f1 f3 f4 f5⟩
  self := fun A i s Q E st h => let ⟨⟨_, he⟩, _⟩ := st; wpAny_pyIter_enum he h
def iEnum (K : PySem.W.Frag) (ta : TA) : TI := fun σ H R => ta σ H fun vs H1 => ∃ a xs, vs = [.ref a] ∧ SqL K H1 a xs ∧ R (Ite K a) H1
theorem pi_enum {X : Cx} {e : Expr} {ta : TA} {p pos tpos : Pos} {elts : List Expr} {kk : Nat} (hg : Gl X "enumerate") (hm : X.mg "enumerate" = none) (ha : PA X [e] ta) (hs : starEach [e] X.env = [(false, eval e X.env)] := by rfl) :
    PI X (.Tuple elts kk tpos) (.Call (.Name "enumerate" p) [e] [] pos) (iEnum X.K ta) := by
  intro pins s σ H R I h
  refine Call_ (ld_blt I hg hm boot_enumerate (PyProof.Rows.callWith_type1 (thn (ha pos pins s σ H _ I h) fun us s1 ⟨vs, H1, I1, r1, q1⟩ => ?_) hs rfl))
  obtain ⟨a, xs, ex, hq, q⟩ := q1
  subst ex
  cases r1 with
  | cons r rr =>
    cases rr
    cases r
    obtain ⟨its, rv, p', hz⟩ := I1.list hq
    refine call_enumerate_list p'.isList fun h' he hit hsz hk => wpAny_pyIter_enum he ?_
    have I2 : Inv X pins σ H1 { s1 with heap := h' } := I1.kept (t' := s1.toks) hk
    refine ⟨s1.heap.objs.size + 1, [s1.heap.objs.size + 1, s1.heap.objs.size], _, _, H1, rfl, I2, turn_enum a (s1.heap.objs.size + 1) s1.heap.objs.size, ⟨⟨.none, he⟩, hit, Nat.succ_ne_self _⟩, fun b hb => ?_, q⟩
    have e' : b = s1.heap.objs.size + 1 ∨ b = s1.heap.objs.size := by simpa using hb
    have hle : s1.heap.objs.size ≤ b := by
      rcases e' with z | z
      · rw [z]; exact Nat.le_add_right _ _
      · rw [z]; exact Nat.le_refl _
    exact I1.fpOk hle (I1.hok.fresh hle)
end L2
section 
end 
section 
namespace TL
open PySem PySem.Builtin PySem.Builtin.Str PySem.StrLaws
abbrev tl (x : Str) : List Nat := x.cps.toList
def pre (S l : List Nat) : Bool := l.take S.length == S
def par (S : List Nat) : List Nat → List Nat → Option (List Nat × List Nat)
  | _, [] => none
  | acc, c :: r => if pre S (c :: r) = true then some (acc, (c :: r).drop S.length) else par S (acc ++ [c]) r
theorem pre_nil {S : List Nat} (hS : S ≠ []) : pre S [] = false := by
  cases S with
  | nil => exact absurd rfl hS
  | cons s S => rfl
end TL
end 
namespace L2
open PySem PySem.Spec PyProof.Rows
def inClass (s : Stmt) (j : Nat) : Stmt := match s with
  | .ClassDef _ _ _ body _ _ _ _ _ _ _ => body.getD j (.Pass ⟨0, 0, 0, 0⟩)
  | _ => .Pass ⟨0, 0, 0, 0⟩
def defArgs (s : Stmt) : Arguments := match s with
  | .FunctionDef _ a _ _ _ _ _ _ _ _ => a
  | _ => { posonlyargs := [], args := [], vararg := none, kwonlyargs := [], kw_defaults := [], kwarg := none, defaults := [] }
def defBody (s : Stmt) : List Stmt := match s with
  | .FunctionDef _ _ b _ _ _ _ _ _ _ => b
  | _ => []
def defScope (s : Stmt) : Scope := match s with
  | .FunctionDef _ _ _ _ _ _ sc _ _ _ => sc
  | _ => { kind := .function, names := [], isGenerator := false, isCoroutine := false }
structure Fun (K : PySem.W.Frag) (x qual : Str) (st : Stmt) (f : Addr) (fd : FuncData) : Prop where
  ex : ∃ (oc : Value) (od : Option Addr) (kV doc pm : Value) (an : Option Addr) (cdv ct : Value) (osl : Array (Option Value)),
    fd = PySem.W.fnOf x qual (defArgs st) (defBody st) (defScope st) .none kV doc pm an cdv ct ∧ K.lookup f = some ⟨oc, od, .func fd, osl⟩ ∧ PySem.W.codeIn K cdv qual = true
  kp : PySem.W.keepIn K (.ref f) = true
section
variable {P : Program} {w : World} {K : PySem.W.Frag} {mg : Str → Option Value} {base : Heap}
theorem Fun.binds {x qual : Str} {st : Stmt} {f : Addr} {fd : FuncData} {ps : List Str} (F : Fun K x qual st f fd)
    (h : ∀ (kV doc pm : Value) (an : Option Addr) (cdv ct : Value) (us : List Value), us.length = ps.length → bindArgs (PySem.W.fnOf x qual (defArgs st) (defBody st) (defScope st) .none kV doc pm an cdv ct) ⟨us, []⟩ = pure (ps.zip us)) : Binds K fd ps [] := by
  obtain ⟨oc, od, kV, doc, pm, an, cdv, ct, osl, rfl, lk, hcd⟩ := F.ex
  exact .all (h kV doc pm an cdv ct)
theorem fun_mk {x qual : Str} {st : Stmt} {f : Addr} {oc : Value} {od an : Option Addr} {osl : Array (Option Value)} {kV doc pm cdv ct : Value} (l : K.lookup f = some ⟨oc, od, .func (PySem.W.fnOf x qual (defArgs st) (defBody st) (defScope st) .none kV doc pm an cdv ct), osl⟩)
    (c : PySem.W.codeIn K cdv qual = true) (k : PySem.W.keepIn K (.ref f) = true) : Fun K x qual st f (PySem.W.fnOf x qual (defArgs st) (defBody st) (defScope st) .none kV doc pm an cdv ct) := ⟨⟨oc, od, kV, doc, pm, an, cdv, ct, osl, rfl, l, c⟩, k⟩
end
section
variable {X : Cx}
theorem pv (i : Nat) {x : Str} {pos : Pos} (hN : X.N[i]? = some x := by rfl) (hv : Vis X.env.scope x := by first | exact Or.inl rfl | exact Or.inr (Or.inl rfl) | exact Or.inr (Or.inr rfl)) (hd : (x == ("__debug__" : Str)) = false := by decide)
    (hcd : (x == ("__classdict__" : Str)) = false := by decide) : PE X (.Name x pos) (tVar i) := pe_var hN hv hd hcd
end
theorem iteF {A B : Prop} (h : B) : if false = true then A else B := by
  rw [if_neg Bool.false_ne_true]
  exact h
theorem iteT {A B : Prop} (h : A) : if true = true then A else B := by
  rw [if_pos rfl]
  exact h
theorem ite2 {c A B : Prop} [Decidable c] (h1 : c → A) (h2 : ¬ c → B) : if c then A else B := by
  by_cases h : c
  · rw [if_pos h]
    exact h1 h
  · rw [if_neg h]
    exact h2 h
theorem iteNS {c A B : Prop} [Decidable c] (hc : c) (h : B) : if (!decide c) = true then A else B := by
  rw [decide_eq_true hc]
  exact iteF h
def Same (H H' : Hp) : Prop := ∀ b o, H b = some o → H' b = some o
theorem Same.refl (H : Hp) : Same H H := fun _ _ h => h
theorem Same.trans {H H1 H2 : Hp} (a : Same H H1) (b : Same H1 H2) : Same H H2 := fun c o h => b c o (a c o h)
theorem Same.free {H H' : Hp} (e : Same H H') {l : Addr} (h : H' l = Option.none) : H l = Option.none := by
  cases q : H l with
  | none => rfl
  | some o =>
    rw [e l o q] at h
    cases h
theorem Same.seq {K : PySem.W.Frag} {H H' : Hp} {a : Addr} {xs : List V} (e : Same H H') (h : SqL K H a xs) : SqL K H' a xs := by
  rcases h with (h | ⟨o, h⟩) | h
  · exact .inl (.inl (e _ _ h))
  · exact .inl (.inr ⟨o, e _ _ h⟩)
  · exact .inr h
theorem Same.made {H H1 : Hp} {x dx C : Addr} (nx : H x = Option.none) (nd : H dx = Option.none) (k : ∀ b o, (upd (upd H dx (.own x)) x (.ins C dx [])) b = some o → b ≠ x → H1 b = some o) : Same H H1 := fun b o e =>
  k b o (by rw [upd_ne (ne_of_none e nx), upd_ne (ne_of_none e nd)]; exact e) (ne_of_none e nx)
end L2
end
section
set_option Elab.async false
set_option linter.all false
set_option maxRecDepth 100000
namespace L2
open PySem PySem.Spec PyProof.Rows
/-- an exception's context, as a value -/
def cxV : Option Addr → Value
  | none => .none
  | some b => .ref b
/-- the exception object -/
def XoO (a C : Addr) (dict : Option Addr) (tb : Value) (cx : Option Addr) : HO :=
  .ext fun h => ∃ vs : Array Value, h.get? a = some ⟨.ref C, dict, .fields vs, #[]⟩ ∧ 4 < vs.size ∧ vs[1]? = some tb ∧ vs[2]? = some (cxV cx)
/-- its dict -/
def XdO (d : Addr) (fs : List (Str × V)) : HO :=
  .ext fun h => ∃ mA, h.Ns1 d mA ∧ (∀ f, RelO (fs.lookup f) (mA f)) ∧ PySem.Within mA (fs.map (·.1)) ∧ fs.length ≤ 1000
/-- the head of its traceback, and where it is in flight -/
def TbO (T : Addr) (fl : Value) : HO :=
  .ext fun h => ∃ (o : Obj) (ts : Array Value), h.get? T = some o ∧ o.data = .fields ts ∧ ts[3]? = some fl
section
variable {P : Program} {w : World} {H : Hp} {h : Heap} {a C d T : Addr} {dict cx : Option Addr} {tb fl : Value} {fs : List (Str × V)}
theorem xo_ok {vs : Array Value} (e : h.get? a = some ⟨.ref C, dict, .fields vs, #[]⟩) (hs : 4 < vs.size) (h1 : vs[1]? = some tb) (h2 : vs[2]? = some (cxV cx)) : ObjOk P w H h a (XoO a C dict tb cx) :=
  ⟨⟨vs, e, hs, h1, h2⟩, ⟨_, e⟩, fun g1 g2 ⟨us, q, r⟩ k => ⟨us, k _ q, r⟩⟩
theorem xd_ok {mA : Str → Option Value} (n : h.Ns1 d mA) (r : ∀ f, RelO (fs.lookup f) (mA f)) (wi : PySem.Within mA (fs.map (·.1))) (z : fs.length ≤ 1000) : ObjOk P w H h d (XdO d fs) := by
  obtain ⟨o, es, ep, e, q⟩ := id n
  refine ⟨⟨mA, n, r, wi, z⟩, ⟨o, e⟩, fun g1 g2 ⟨mB, ⟨o1, es1, ep1, e1, q1⟩, y⟩ k => ⟨mB, ⟨o1, es1, ep1, k _ e1, q1⟩, y⟩⟩
theorem tb_ok {o : Obj} {ts : Array Value} (e : h.get? T = some o) (hd : o.data = .fields ts) (h3 : ts[3]? = some fl) : ObjOk P w H h T (TbO T fl) :=
  ⟨⟨o, ts, e, hd, h3⟩, ⟨o, e⟩, fun g1 g2 ⟨o1, ts1, e1, q1⟩ k => ⟨o1, ts1, k _ e1, q1⟩⟩
theorem xo_get (ok : HOk P w H h) (e : H a = some (XoO a C dict tb cx)) : ∃ vs : Array Value, h.get? a = some ⟨.ref C, dict, .fields vs, #[]⟩ ∧ 4 < vs.size ∧ vs[1]? = some tb ∧ vs[2]? = some (cxV cx) :=
  (ok a _ e).1
theorem xd_get (ok : HOk P w H h) (e : H d = some (XdO d fs)) : ∃ mA, h.Ns1 d mA ∧ (∀ f, RelO (fs.lookup f) (mA f)) ∧ PySem.Within mA (fs.map (·.1)) ∧ fs.length ≤ 1000 :=
  (ok d _ e).1
theorem tb_get (ok : HOk P w H h) (e : H T = some (TbO T fl)) : ∃ (o : Obj) (ts : Array Value), h.get? T = some o ∧ o.data = .fields ts ∧ ts[3]? = some fl :=
  (ok T _ e).1
end
/-- the exception at a, of class C with attributes fs and context cx, its traceback's head tb -/
structure XAt (H : Hp) (a C : Addr) (fs : List (Str × V)) (cx : Option Addr) (tb : Value) : Prop where
  at_ : ∃ d, d ≠ a ∧ H a = some (XoO a C (some d) tb cx) ∧ H d = some (XdO d fs)
/-- it is not noted yet, or it is noted and flies to no frame -/
def Loose (H : Hp) (a C : Addr) (fs : List (Str × V)) (cx : Option Addr) : Prop :=
  XAt H a C fs cx .none ∨ ∃ T d, T ≠ a ∧ T ≠ d ∧ d ≠ a ∧ H a = some (XoO a C (some d) (.ref T) cx) ∧ H d = some (XdO d fs) ∧ H T = some (TbO T .none)
/-- it is noted; fl tells where it flies -/
def Noted (H : Hp) (a C : Addr) (fs : List (Str × V)) (cx : Option Addr) (fl : Value) : Prop :=
  ∃ T d, T ≠ a ∧ T ≠ d ∧ d ≠ a ∧ H a = some (XoO a C (some d) (.ref T) cx) ∧ H d = some (XdO d fs) ∧ H T = some (TbO T fl)
theorem Noted.loose {H : Hp} {a C : Addr} {fs : List (Str × V)} {cx : Option Addr} (n : Noted H a C fs cx .none) : Loose H a C fs cx := .inr n
section
variable {X : Cx} {pins : List (Addr × Obj)} {σ : St} {H : Hp} {s : Shared} {a C d T : Addr} {dict cx : Option Addr} {tb fl : Value} {fs : List (Str × V)} {E : Value → Shared → Prop} {A : Around}
/-- the frames' slots may change -/
theorem Inv.slots {h' : Heap} (I : Inv X pins σ H s) (x : Heap.SlotsOnly (frs X.stack) s.heap h') : Inv X pins σ H { s with heap := h' } := by
  have hk : ∀ b o, H b = some o → b ∉ frs X.stack := fun b o e z => by
    rw [I.stkFree b z] at e
    cases e
  refine I.call (g' := s.gens) (d' := s.drawn) (t' := s.toks) (ch := []) ⟨fun b o e _ hb _ => (x.2.1 b hb).trans e, fun b o e _ _ _ => x.2.2 b o e, fun _ _ _ n _ => n, fun b o e _ => let ⟨sl, q⟩ := x.2.2 b o e; ⟨_, q⟩, fun _ _ e => e, fun _ _ _ e => e, fun b ps e => ⟨#[], by rw [e]; simp⟩⟩
    (fun b o e => (I.hok b o e).stay (fun c u hc q => ?_) (fun _ q => q) fun _ _ q => q) I.bare (fun _ z => nomatch z)
  rcases hc with rfl | hc
  · exact (x.2.1 c (hk c o e)).trans q
  · exact (x.2.1 c (hk c _ hc)).trans q
/-- the exception's field 1 or another one is written -/
theorem xo_write {vs : Array Value} {i : Nat} {v tb' : Value} {cx' : Option Addr} (I : Inv X pins σ H s) (e : H a = some (XoO a C dict tb cx)) (q : s.heap.get? a = some ⟨.ref C, dict, .fields vs, #[]⟩) (z : 4 < vs.size)
    (h1 : (vs.setIfInBounds i v)[1]? = some tb') (h2 : (vs.setIfInBounds i v)[2]? = some (cxV cx')) :
    Inv X pins σ (upd H a (XoO a C dict tb' cx')) { s with heap := s.heap.update a (Obj.mapFields (·.setIfInBounds i v)) } := by
  have e2 : (s.heap.update a (Obj.mapFields (·.setIfInBounds i v))).get? a = some ⟨.ref C, dict, .fields (vs.setIfInBounds i v), #[]⟩ := Heap.get?_update_self _ q rfl
  exact I.write (x := a) (e := a) (t' := s.toks) (by rw [e]; exact True.intro) (.inl rfl) (fun b u hb r => (Heap.get?_update_other _ _ (Ne.symm hb)).trans r) ⟨_, e2⟩
    (xo_ok e2 (by rw [Array.size_setIfInBounds]; exact z) h1 h2)
theorem tb_write {v : Value} {o : Obj} {ts : Array Value} (I : Inv X pins σ H s) (e : H T = some (TbO T fl)) (q : s.heap.get? T = some o) (hd : o.data = .fields ts) (h3 : ts[3]? = some fl) :
    Inv X pins σ (upd H T (TbO T v)) { s with heap := s.heap.update T (Obj.mapFields (·.setIfInBounds 3 v)) } := by
  have hz : 3 < ts.size := (Array.getElem?_eq_some_iff.mp h3).1
  have hd' := Obj.data_mapFields hd (·.setIfInBounds 3 v)
  have e2 : (s.heap.update T (Obj.mapFields (·.setIfInBounds 3 v))).get? T = some (o.mapFields (·.setIfInBounds 3 v)) := Heap.get?_update_self _ q (Obj.isFreed_of_fields hd')
  exact I.write (x := T) (e := T) (t' := s.toks) (by rw [e]; exact True.intro) (.inl rfl) (fun b u hb r => (Heap.get?_update_other _ _ (Ne.symm hb)).trans r) ⟨_, e2⟩
    (tb_ok e2 hd' (by simp [hz]))
/-- setFlight of a noted exception -/
theorem flight_ok {fr : Option Addr} {Q : Unit → Shared → Prop} (I : Inv X pins σ H s) (n : Noted H a C fs cx fl)
    (h : ∀ H' s', Inv X pins σ H' s' → Noted H' a C fs cx (fr.elim .none fun f => rawInt f) → Q () s') : wpAny (model X.prog X.w) A (setFlight (.ref a) fr) Q E s := by
  obtain ⟨T, d, n1, n2, n3, ea, ed, et⟩ := n
  obtain ⟨vs, q, z, h1, h2⟩ := xo_get I.hok ea
  obtain ⟨o, ts, qt, hd, h3⟩ := tb_get I.hok et
  unfold setFlight
  refine wpAny_bind (wpAny_field q rfl h1 ?_)
  rw [if_pos (show (Value.ref T != Value.none) = true from by simp)]
  refine wpAny_setField qt hd (Array.getElem?_eq_some_iff.mp h3).1 (h _ _ (tb_write I et qt hd h3) ⟨T, d, n1, n2, n3, ?_, ?_, upd_same⟩)
  · rw [upd_ne (Ne.symm n1)]; exact ea
  · rw [upd_ne (Ne.symm n2)]; exact ed
/-- a new entry of the traceback -/
theorem entry_ok {L : Addr} {head : Value} {had : Bool} {Q : Unit → Shared → Prop} (hst : X.stack = X.env :: X.outer) (hf : X.env.frame = some L) (hfr : A.frames = some X.stack) (I : Inv X pins σ H s)
    (dn : d ≠ a) (ea : H a = some (XoO a C (some d) tb cx)) (ed : H d = some (XdO d fs))
    (h : ∀ H' s', Inv X pins σ H' s' → Noted H' a C fs cx (rawInt L) → Q () s') :
    wpAny (model X.prog X.w) A (do setField (.ref a) 1 (← EntryCells.newEntry head (← frameOf X.env) .none (rawInt L) .none (← entryPlaceOf L had))) Q E s := by
  have fun1 : s.heap.FunFrames X.base (X.env :: X.outer) := by rw [← hst]; exact I.stack
  refine wpAny_bind (wpAny_frameOf_fun (base := X.base) (outer := X.outer) (by rw [← hst]; exact hfr) fun1 hf fun h1 hs1 => ?_)
  have I1 : Inv X pins σ H { s with heap := h1 } := I.slots (by rw [hst]; exact hs1)
  refine wpAny_bind (wpAny_entryPlaceOf fun pl hpl => ?_)
  unfold EntryCells.newEntry newFields
  refine wpAny_bind (wpAny_newObj_type ?_ (hpl.sizeOk5 _ _ _ _ _))
  have et : ∀ t0 : Obj, t0 = { cls := .type "traceback", dict := none, data := .fields ([head, .ref L, .none, rawInt L, .none] ++ (if pl.isEmpty then List.replicate 6 Value.none else pl)).toArray } → (h1.push t0).get? h1.objs.size = some t0 := fun t0 z => by
    subst z
    exact Heap.get?_push_size h1 rfl
  have I2 := I1.laid (a := h1.objs.size) (o := TbO h1.objs.size (rawInt L)) (t' := s.toks) (fun b u q => Heap.get?_push_of_some _ q) (Nat.le_refl _)
    (tb_ok (et _ rfl) rfl (by first | (simp; done) | (rcases hpl with rfl | ⟨_, _, _, _, _, _, _, rfl⟩ <;> simp)))
  have nT : H h1.objs.size = none := I1.hok.fresh (Nat.le_refl _)
  have na : h1.objs.size ≠ a := Ne.symm (ne_of_none ea nT)
  have nd : h1.objs.size ≠ d := Ne.symm (ne_of_none ed nT)
  have ea2 : (upd H h1.objs.size (TbO h1.objs.size (rawInt L))) a = some (XoO a C (some d) tb cx) := by rw [upd_ne (Ne.symm na)]; exact ea
  obtain ⟨vs, q, z, q1, q2⟩ := xo_get I2.hok ea2
  have hz1 : 1 < vs.size := Nat.lt_trans (by decide) z
  have I3 := xo_write (i := 1) (v := .ref h1.objs.size) (tb' := .ref h1.objs.size) (cx' := cx) I2 ea2 q z (by simp [hz1]) (by rw [Array.getElem?_setIfInBounds_ne (by decide)]; exact q2)
  refine wpAny_setField q rfl hz1 (h _ _ I3 ⟨h1.objs.size, d, na, nd, dn, upd_same, ?_, ?_⟩)
  · rw [upd_ne dn, upd_ne (Ne.symm nd)]; exact ed
  · rw [upd_ne na, upd_same]
/-- THE NOTE: a loose exception is noted for this frame -/
theorem note_ok {L : Addr} {Q : Unit → Shared → Prop} (hst : X.stack = X.env :: X.outer) (hf : X.env.frame = some L) (hfr : A.frames = some X.stack) (I : Inv X pins σ H s) (n : Loose H a C fs cx)
    (h : ∀ H' s', Inv X pins σ H' s' → Noted H' a C fs cx (rawInt L) → Q () s') : wpAny (model X.prog X.w) A (noteFrame (.ref a) X.env) Q E s := by
  rcases n with ⟨d, dn, ea, ed⟩ | ⟨T, d, n1, n2, n3, ea, ed, et⟩
  · obtain ⟨vs, q, z, h1, h2⟩ := xo_get I.hok ea
    unfold noteFrame
    simp only [hf]
    refine wpAny_bind (wpAny_field q rfl h1 ?_)
    rw [if_neg (by decide)]
    exact entry_ok hst hf hfr I dn ea ed h
  · obtain ⟨vs, q, z, h1, h2⟩ := xo_get I.hok ea
    obtain ⟨o, ts, qt, hd, h3⟩ := tb_get I.hok et
    unfold noteFrame
    simp only [hf]
    refine wpAny_bind (wpAny_field q rfl h1 ?_)
    rw [if_pos (show (Value.ref T != Value.none) = true from by simp)]
    refine wpAny_bind (wpAny_field qt hd h3 ?_)
    rw [if_neg (show ¬ ((Value.none == rawInt L) = true) from by simp [rawInt])]
    refine wpAny_bind (wpAny_setField qt hd (Array.getElem?_eq_some_iff.mp h3).1 ?_)
    exact entry_ok hst hf hfr (tb_write I et qt hd h3) n3 (by rw [upd_ne (Ne.symm n1)]; exact ea) (by rw [upd_ne (Ne.symm n2)]; exact ed) h
/-- .. and once more: nothing -/
theorem note_again {L : Addr} {Q : Unit → Shared → Prop} (hf : X.env.frame = some L) (I : Inv X pins σ H s) (n : Noted H a C fs cx (rawInt L)) (h : Q () s) : wpAny (model X.prog X.w) A (noteFrame (.ref a) X.env) Q E s := by
  obtain ⟨T, d, n1, n2, n3, ea, ed, et⟩ := n
  obtain ⟨vs, q, z, h1, h2⟩ := xo_get I.hok ea
  obtain ⟨o, ts, qt, hd, h3⟩ := tb_get I.hok et
  exact wpAny_noteFrame_inFlight hf q rfl h1 qt hd h3 h
/-- it leaves the frame -/
theorem leave_ok {L : Addr} {Q : Unit → Shared → Prop} (hst : X.stack = X.env :: X.outer) (hf : X.env.frame = some L) (hfr : A.frames = some X.stack) (I : Inv X pins σ H s) (n : Loose H a C fs cx ∨ Noted H a C fs cx (rawInt L))
    (h : ∀ H' s', Inv X pins σ H' s' → Noted H' a C fs cx .none → Q () s') : wpAny (model X.prog X.w) A (leaving X.env (.ref a)) Q E s := by
  unfold leaving
  rcases n with n | n
  · exact wpAny_bind (note_ok hst hf hfr I n fun H1 s1 I1 n1 => flight_ok I1 n1 h)
  · exact wpAny_bind (note_again hf I n (flight_ok I n h))
end
/-- the attributes, told as a heap of one object -/
def xH (fs : List (Str × V)) : Hp := fun b => if b = 0 then some (.xd fs) else none
theorem xH_inj {fs gs : List (Str × V)} (e : xH fs = xH gs) : fs = gs := by
  have q := congrFun e 0
  simp only [xH, if_true] at q
  injection q with q
  injection q
def CX1 (P : Program) (w : World) : CXT := fun outer H s E e s' => ∃ a C fs cx H', e = .ref a ∧ s'.os = s.os ∧ AllBare s'.gens ∧ Un (frs outer) [] H H' s.heap s'.heap ∧ HOk P w H' s'.heap ∧ Noted H' a C fs cx .none ∧ E (.ref C) cx (xH fs)
/-- it may be handed on here: loose, or noted for this very frame -/
def Ready (X : Cx) (H : Hp) (a C : Addr) (fs : List (Str × V)) (cx : Option Addr) : Prop := Loose H a C fs cx ∨ ∃ L, X.env.frame = some L ∧ Noted H a C fs cx (rawInt L)
/-- here E is wanted of an exception -/
def Out (X : Cx) (E : XK) : Prop := ∀ (pins : List (Addr × Obj)) (σ : St) (H : Hp) (s : Shared) (a C : Addr) (fs : List (Str × V)) (cx : Option Addr), Inv X pins σ H s → Ready X H a C fs cx → E (.ref C) cx (xH fs) → X.xe (.ref a) s
theorem Out.passes {X : Cx} {E : XK} (o : Out X E) : Passes (CX1 X.prog X.w) X E := by
  intro pins σ H s e s' I ⟨a, C, fs, cx, H', he, os, bare, un, hok, n, q⟩
  subst he
  exact o pins σ H' s' a C fs cx (I.call' os un hok bare (fun _ z => nomatch z)) (.inl n.loose) q
/-- a def's body -/
theorem out_cx {P : Program} {w : World} {K : PySem.W.Frag} {mg : Str → Option Value} {base : Heap} {N : List Str} {qual : Str} {scope : Scope} {f : Addr} {cd : Value} {A : Around} {outer : List Env} {s : Shared} {H : Hp} {E : XK} :
    Out (cxOf (CX1 P w) P w K mg base N qual scope f cd A outer s H E) E := by
  intro pins σ H1 s1 a C fs cx I n q
  refine leave_ok (C := C) (fs := fs) (cx := cx) (L := s.heap.objs.size) rfl rfl I.ok.frames I ?_ fun H' s' I' n' => ?_
  · rcases n with n | ⟨L, e, n⟩
    · exact .inl n
    · have e' : s.heap.objs.size = L := Option.some.inj e
      subst e'
      exact .inr n
  · exact ⟨a, C, fs, cx, H', rfl, I'.os, I'.bare, I'.base, I'.hok, n', q⟩
end L2
end
section
set_option Elab.async false
set_option linter.all false
set_option maxRecDepth 100000
namespace L2
open PySem PySem.Spec PyProof.Rows PySem.W
open Builtin Builtin.ObjectAttr
/-- a class's mro: classes of the text, then ValueError's -/
def excTail : List Value → Bool
  | .ref _ :: r => excTail r
  | l => l == [.type "ValueError", .type "Exception", .type "BaseException", .type "object"]
theorem excTail_refuse (self : Value) : ∀ {l : List Value}, excTail l = true → refuseLoop self "__setattr__" l = pure () := by
  intro l
  induction l with
  | nil => intro e; cases e
  | cons c r ih =>
    intro e
    cases c with
    | ref q => rw [refuseLoop_ref]; exact ih e
    | type n =>
      have q : (Value.type n :: r) = [.type "ValueError", .type "Exception", .type "BaseException", .type "object"] := eq_of_beq e
      rw [q]
      exact PySem.F.store_ValueError.passes self
    | _ => exact absurd e (by intro z; exact nomatch (List.cons.inj (eq_of_beq z)).1)
theorem excTail_has {T : Value} (hT : [.type "ValueError", .type "Exception", .type "BaseException", .type "object"].contains T = true) : ∀ {l : List Value}, excTail l = true → l.contains T = true := by
  intro l
  induction l with
  | nil => intro e; cases e
  | cons c r ih =>
    intro e
    cases c with
    | ref q => rw [List.contains_cons, ih e, Bool.or_true]
    | type n =>
      have q : (Value.type n :: r) = [.type "ValueError", .type "Exception", .type "BaseException", .type "object"] := eq_of_beq e
      rw [q]; exact hT
    | _ => exact absurd e (by intro z; exact nomatch (List.cons.inj (eq_of_beq z)).1)
theorem excTail_ne : ∀ {l : List Value}, excTail l = true → l.isEmpty = false
  | [], e => nomatch e
  | _ :: _, _ => rfl
/-- what of the text an exception's class must have -/
structure XCls (K : Frag) (C : Addr) : Prop where
  tail : (clsIn K C).any (fun cd => excTail cd.mro) = true
  hd : hasDictIn K C = true
  sa : findIn K (.ref C) "__setattr__" = some (some (.builtin "object.__setattr__"))
  ga : findIn K (.ref C) "__getattribute__" = some (some (.builtin "BaseException.__getattribute__"))
  gn : findIn K (.ref C) "__getattr__" = some none
  cls : typeIn K (.ref C) = some (.type "type")
section
variable {prog : Program} {w : World} {A : Around} {E : Value → Shared → Prop} {s : Shared} {K : Frag} {a C : Addr} {ox : Obj} {od : Option Obj} {name : Str} {v : Value}
theorem xsub {M : Model} {h : Heap} {T : Value} (X : K.In h) (c : XCls K C) (I : InstAt h a ox C od) (hT : [.type "ValueError", .type "Exception", .type "BaseException", .type "object"].contains T = true) :
    Looks M h (isInstance (.ref a) T) true := by
  obtain ⟨cd, hc, ht⟩ := any_some c.tail
  exact I.type.andThen (looks_mroIn X (by unfold mroIn; rw [hc, Option.bind_some, if_neg (by rw [excTail_ne ht]; decide), excTail_has hT ht]))
/-- the store, up to the instance's dict -/
theorem xstore {R : Result → Shared → Prop} {tk : Tok} (X : K.In s.heap) (c : XCls K C) (I : InstAt s.heap a ox C od) (hn : findIn K (.ref C) name = some none)
    (h : wpAny (model prog w) A.in1 (storeInOwnDict (.ref a) (.ref C) (.str name tk) name v false)
      (fun fin s' => match fin with | .done f => R (.ok f) s' | .again c' => c'.quiet = true ∧ codeAny (model prog w) A c' R s') (fun e s' => R (.error e) s') s) :
    codeAny (model prog w) A (.call (.builtin "object.__setattr__") ⟨[.ref a, .str name tk, v], []⟩) R s := by
  have SF := PySem.F.store_object
  obtain ⟨cd, hc, ht⟩ := any_some c.tail
  refine codeAny_call_builtin SF.slot.plain SF.entry (@check_slot (model prog w) _ _ s "object.__setattr__" "object" "__setattr__" (.ref a) [.str name tk, v] [] _ SF.kind SF.split (xsub X c I (by decide)) (SF.args (.ref a) (.str name tk) v) ?_)
  have hm : Looks (model prog w) s.heap (mroOf (.ref C)) cd.mro := (looks_clsIn X hc).andThen .now
  rw [osa_eq, refuse_eq]
  refine wpAny_bind (wpAny_bind (I.type.here (wpAny_bind (hm.here ?_))))
  rw [excTail_refuse _ ht]
  refine wpAny_pure (wpAny_bind (I.type.here (wpAny_bind ((looks_findIn X hn).here (wpAny_bind ?_)))))
  exact (show Looks (model prog w) s.heap (storeTaker? none) none from .now).here h
/-- the first attribute: a dict is made -/
theorem xset0 {vs : Array Value} {Q : Unit → Shared → Prop} (X : K.In s.heap) (c : XCls K C) (ha : s.heap.get? a = some ⟨.ref C, none, .fields vs, #[]⟩) (hn : findIn K (.ref C) name = some none)
    (h : ∀ h' : Heap, h'.get? a = some ⟨.ref C, some s.heap.objs.size, .fields vs, #[]⟩ → h'.Ns1 s.heap.objs.size (fun y => if y = name then some v else none) → (∀ b o, b ≠ a → s.heap.get? b = some o → h'.get? b = some o) →
      Q () { s with heap := h', toks := s.toks + 2 }) :
    wpAny (model prog w) A (setAttr (.ref a) name v) Q E s := by
  have I : InstAt s.heap a ⟨.ref C, none, .fields vs, #[]⟩ C none := ⟨ha, rfl, rfl, True.intro⟩
  refine set_plain X I c.sa (xstore (s := { s with toks := s.toks + 1 }) X c I hn ?_)
  obtain ⟨cd, hc, hd'⟩ := any_some c.hd
  unfold storeInOwnDict ownStreamTells ownDictForStores instanceDict
  refine wpAny_bind (wpAny_pure (wpAny_bind (wpAny_bind (wpAny_loadPart ha (wpAny_bind (PySem.W.Looks.here (s := { s with toks := s.toks + 1 }) (looks_clsIn X hc) ?_))))))
  rw [hd']
  simp only [Bool.not_true, Bool.false_eq_true, if_false, typeHasDict, Bool.or_self]
  have hxs : a ≠ s.heap.objs.size := Nat.ne_of_lt (Heap.lt_size ha)
  have ha1 : (s.heap.push { cls := .type "dict", data := .dict #[] }).get? a = some ⟨.ref C, none, .fields vs, #[]⟩ := Heap.get?_push_of_some _ ha
  refine wpAny_bind (wpAny_alloc (wpAny_bind (wpAny_update ha1 ?_)))
  have hgd : ((s.heap.push { cls := .type "dict", data := .dict #[] }).update a fun o => { o with dict := some s.heap.objs.size }).get? s.heap.objs.size = some { cls := .type "dict", data := .dict #[] } :=
    (Heap.get?_update_ne _ _ _ _ hxs.symm).trans (Heap.get?_push_at rfl rfl)
  have hga : ((s.heap.push { cls := .type "dict", data := .dict #[] }).update a fun o => { o with dict := some s.heap.objs.size }).get? a = some ⟨.ref C, some s.heap.objs.size, .fields vs, #[]⟩ := Heap.get?_update_self _ ha1 rfl
  have hnd : ((s.heap.push { cls := .type "dict", data := .dict #[] }).update a fun o => { o with dict := some s.heap.objs.size }).Ns s.heap.objs.size (fun _ => none) :=
    ⟨_, #[], _, hgd, rfl, fun e he => absurd he (by simp), fun _ => rfl⟩
  refine wpAny_pure ?_
  show wpAny _ _ (storeInDict s.heap.objs.size (.str name s.toks) name v) _ _ _
  unfold storeInDict newKeyGuard
  refine wpAny_bind (wpAny_pure (wpAny_bind (wpAny_nsSet1 (Heap.Ns1.of_empty hnd) fun h' hn' hs => ?_)))
  obtain ⟨oD, esD, epD, hoD, hdD, hcD⟩ := hn'.count (PySem.Within.cons name v PySem.Within.nil)
  refine wpAny_bind (wpAny_lookBehind hoD (by rw [hdD]; exact pastItsLine_dict (Nat.le_trans hcD (by rw [List.length_cons, List.length_nil, sizeLine_eq]; omega))) ?_)
  refine wpAny_pure (h h' ((hs.2 a hxs).trans hga) hn' fun b o hb e => ?_)
  exact (hs.2 b (Nat.ne_of_lt (Heap.lt_size e))).trans ((Heap.get?_update_ne _ _ _ _ hb).trans (Heap.get?_push_of_some _ e))
/-- another one -/
theorem xset1 {vs : Array Value} {d : Addr} {mA : Str → Option Value} {ns : List Str} {Q : Unit → Shared → Prop} (X : K.In s.heap) (c : XCls K C) (ha : s.heap.get? a = some ⟨.ref C, some d, .fields vs, #[]⟩) (hm : s.heap.Ns1 d mA) (hda : d ≠ a)
    (hn : findIn K (.ref C) name = some none) (hw : PySem.Within mA ns) (hsz : ns.length ≤ sizeLine)
    (h : ∀ h' : Heap, h'.Ns1 d (fun y => if y = name then some v else mA y) → Heap.SameBut d s.heap h' → Q () { s with heap := h', toks := s.toks + 2 }) :
    wpAny (model prog w) A (setAttr (.ref a) name v) Q E s := by
  obtain ⟨od, ho, _⟩ := lookIn_ns hm
  have I : InstAt s.heap a ⟨.ref C, some d, .fields vs, #[]⟩ C (some od) := ⟨ha, rfl, rfl, ho⟩
  refine set_plain X I c.sa (xstore (s := { s with toks := s.toks + 1 }) X c I hn ?_)
  obtain ⟨cd, hc, hd'⟩ := any_some c.hd
  unfold storeInOwnDict ownStreamTells ownDictForStores instanceDict
  refine wpAny_bind (wpAny_pure (wpAny_bind (wpAny_bind (wpAny_loadPart ha (wpAny_bind (PySem.W.Looks.here (s := { s with toks := s.toks + 1 }) (looks_clsIn X hc) ?_))))))
  rw [hd']
  refine wpAny_pure (a := some d) ?_
  show wpAny _ _ (storeInDict d (.str name s.toks) name v) _ _ _
  unfold storeInDict newKeyGuard
  refine wpAny_bind (wpAny_pure (wpAny_bind (wpAny_nsSet1 (s := { s with toks := s.toks + 1 }) hm fun h' hn2 hs2 => ?_)))
  obtain ⟨oD, esD, epD, hoD, hdD, hcD⟩ := hn2.count (PySem.Within.cons name v hw)
  refine wpAny_bind (wpAny_lookBehind hoD (by rw [hdD]; exact pastItsLine_dict (Nat.le_trans hcD (by rw [List.length_cons]; omega))) ?_)
  exact wpAny_pure (h _ hn2 hs2)
theorem bexc_canon : (Value.builtin "BaseException.__getattribute__" == Value.builtin "object.__getattribute__") = false := by decide +kernel
theorem bexc_kind : builtinKind "BaseException.__getattribute__" = some .slot := by decide +kernel
theorem bexc_split : splitId "BaseException.__getattribute__" = some ("BaseException", "__getattribute__") := by decide +kernel
/-- an attribute is read -/
theorem xget {vs : Array Value} {d : Addr} {mA : Str → Option Value} {expr : Bool} {Q : Value → Shared → Prop} (X : K.In s.heap) (c : XCls K C) (ha : s.heap.get? a = some ⟨.ref C, some d, .fields vs, #[]⟩) (hm : s.heap.Ns1 d mA)
    (hn : findIn K (.ref C) name = some none) (hv : mA name = some v) (hh : handedIn v = true) (h : Q v { s with toks := s.toks + 1 }) :
    wpAny (model prog w) A (getAttr (.ref a) name expr) Q E s := by
  obtain ⟨od, ho, hl⟩ := lookIn_ns hm
  have I : InstAt s.heap a ⟨.ref C, some d, .fields vs, #[]⟩ C (some od) := ⟨ha, rfl, rfl, ho⟩
  have hf : findObj K C (some od) name = some (.value v) := findObj_own c.hd hn rfl (by rw [hl, hv])
  have hb : Looks (model prog w) s.heap (hookBefore (.ref C)) none := looks_hook X (by rw [if_pos (show onTheHeap (Value.ref C) = true from rfl)]; exact c.gn)
  refine wpAny_bind (wpAny_mkText (wpAny_holding (wpAny_bind (I.type _ _ _ _ (fun _ _ e => e) (wpAny_bind (looks_findIn X c.ga _ _ _ _ (fun _ _ e => e) ?_))))))
  dsimp only
  rw [show (onTheHeap (Value.ref C) && Value.builtin "BaseException.__getattribute__" == Value.builtin "object.__getattribute__") = false from by rw [bexc_canon, Bool.and_false], if_neg (by decide)]
  refine wpAny_bind (hb _ _ _ _ (fun _ _ e => e) (wpAny_bind (wpAny_attempt (wpAny_holding ?_))))
  unfold callGetattribute
  rw [show (expr && onTheHeap (Value.builtin "BaseException.__getattribute__")) = false from Bool.and_false _, if_neg (by decide)]
  unfold boundAndCalled
  rw [PySem.F.attr_ValueError.ga.bind]
  refine wpAny_bind (wpAny_pure ?_)
  show wpAny _ _ (call (.builtin "BaseException.__getattribute__") [.ref a, .str name s.toks]) _ _ _
  refine wpAny_call ?_
  refine codeAny_call_builtin PySem.F.attr_ValueError.ga.plain PySem.F.entry_bexc_ga ?_
  refine @check_slot (model prog w) _ _ { s with toks := s.toks + 1 } "BaseException.__getattribute__" "BaseException" "__getattribute__" (.ref a) [.str name s.toks] [] _ bexc_kind bexc_split (xsub X c I (by decide)) (PySem.F.args_bexc_ga (.ref a) (.str name s.toks)) ?_
  have L1 := looks_find (M := model prog w) X I hf
  refine wpAny_bind (wpAny_pure (wpAny_bind (wpAny_pure (wpAny_bind (PySem.W.Looks.here (s := { s with toks := s.toks + 1 }) I.type (wpAny_bind (PySem.W.Looks.here (s := { s with toks := s.toks + 1 }) L1 ?_)))))))
  refine wpAny_pure ?_
  show wpAny _ _ (handedOut v) _ _ _
  rw [handedOut_of hh]
  exact wpAny_pure h
end
end L2
end
section
set_option Elab.async false
set_option linter.all false
set_option maxRecDepth 100000
namespace L2
open PySem PySem.Spec PyProof.Rows PySem.W
open Builtin Builtin.ObjectAttr
/-- a class of the text that makes ValueErrors -/
def xmakesIn (K : Frag) (C : Addr) : Bool := match K.lookup C with
  | some ⟨.type "type", _, .cls cd, sl⟩ => (match cd.mro, sl.toList with
    | .ref C' :: bm, [_, _, _, _, some (.builtin n), _] => C' == C && !cd.hasDel && n == "ValueError.__new__" && bm.contains (.type "ValueError") && !(bm.contains (.type "AttributeError")) && !(bm.contains (.type "NameError"))
    | _, _ => false)
  | _ => false
theorem xmakes_of {K : Frag} {h : Heap} {C : Addr} (X : K.In h) (q : xmakesIn K C = true) : ∃ nm qn N bs bm hdct sn sub ab col dd k0 k1 k2 k3 k5,
    h.get? C = some (excClassObj nm qn C N bs bm hdct sn sub ab col dd k0 k1 k2 k3 k5 "ValueError.__new__") ∧ bm.contains (.type "ValueError") = true ∧ bm.contains (.type "AttributeError") = false ∧ bm.contains (.type "NameError") = false := by
  unfold xmakesIn at q
  split at q
  · rename_i dd cd sl ho
    split at q
    · rename_i C' bm k0 k1 k2 k3 n k5 hm hs
      simp only [Bool.and_eq_true, beq_iff_eq, Bool.not_eq_true'] at q
      obtain ⟨⟨⟨⟨⟨rfl, hdel⟩, rfl⟩, hb⟩, ha⟩, hn⟩ := q
      obtain ⟨nm, bs, mro, ns, qn, hd, sn, sub, ab, col, del⟩ := cd
      dsimp only at hm hdel
      subst hm hdel
      have hsl : sl = #[k0, k1, k2, k3, some (.builtin "ValueError.__new__"), k5] := by
        obtain ⟨l⟩ := sl
        simp only at hs
        rw [hs]
      subst hsl
      exact ⟨nm, qn, ns, bs, bm, hd, sn, sub, ab, col, dd, k0, k1, k2, k3, k5, X _ _ ho, hb, ha, hn⟩
    · cases q
  · cases q
abbrev xNew (C t : Addr) : Obj := { cls := .ref C, data := .fields #[.ref t, .none, .none, .none, .bool false, .none] }
abbrev xArgs (vs : List Value) : Obj := { cls := .type "tuple", data := .seq vs.toArray }
section
variable {prog : Program} {w : World} {A : Around} {E : Value → Shared → Prop} {h : Heap} {g : Array GenState} {dr : Drawn} {t : Nat} {os : OsState} {R : Result → Shared → Prop}
variable {nm q : Str} {C N : Addr} {bs bm : List Value} {hdct : Bool} {sn : List Str} {sub : List Value} {ab : Bool} {col : Option Bool} {dd : Option Addr} {k0 k1 k2 k3 k5 : Option Value} {rest : List Value}
theorem xnew_check {M : Model} {Q : Unit → Shared → Prop} (hC : h.get? C = some (excClassObj nm q C N bs bm hdct sn sub ab col dd k0 k1 k2 k3 k5 "ValueError.__new__")) (hB : bm.contains (.type "ValueError") = true)
    (hq : Q () ⟨h, g, dr, t, os⟩) : wpAny M A (checkBuiltinCall "ValueError.__new__" ⟨.ref C :: rest, []⟩) Q E ⟨h, g, dr, t, os⟩ := by
  have F := PySem.F.excBase_ValueError
  have hcont : (Value.ref C :: bm).contains (.type "ValueError") = true := by rw [List.contains_cons, hB, Bool.or_true]
  have hstar := F.noStar
  simp only [checkBuiltinCall, F.newKind, F.newSplit, F.newRow]
  repeat (first | refine wpAny_loadPart_at hC ?_ | (refine wpAny_isSubtype_exc hC ?_; rw [hcont]) | refine wpAny_staticBase_exc hC ?_ | refine wpAny_madeBy_exc hC ?_ | simp only [bne_self_eq_false, Bool.false_eq_true, if_false] | wp_step)
  exact hq
theorem xnew_run (hC : h.get? C = some (excClassObj nm q C N bs bm hdct sn sub ab col dd k0 k1 k2 k3 k5 "ValueError.__new__")) (hB : bm.contains (.type "ValueError") = true) (hA : bm.contains (.type "AttributeError") = false)
    (hN : bm.contains (.type "NameError") = false) (hrest : rest.length ≤ sizeLine)
    (hq : R (.ok (.ret (.ref (h.objs.size + 1)))) ⟨(h.push (xArgs rest)).push (xNew C h.objs.size), g, dr, t, os⟩) :
    codeAny (model prog w) A (.builtin "ValueError.__new__" ⟨.ref C :: rest, []⟩) R ⟨h, g, dr, t, os⟩ := by
  have F := PySem.F.excBase_ValueError
  have hends := F.ends
  have hcB : (Value.ref C :: bm).contains (.type "ValueError") = true := by rw [List.contains_cons, hB, Bool.or_true]
  have hcA : (Value.ref C :: bm).contains (.type "AttributeError") = false := by rw [List.contains_cons, hA]; rfl
  have hcN : (Value.ref C :: bm).contains (.type "NameError") = false := by rw [List.contains_cons, hN]; rfl
  refine codeAny_builtinAt F.entry ?_
  unfold Builtin.«BaseException.__new__»
  refine PySem.wpAt_bind ?_
  show PySem.wpAt _ _ _ (stack >>= _) _ _ _
  refine PySem.wpAt_bind (PySem.wpAt_stack fun p below => PySem.wpAt_of_wpAny ?_)
  wp_walk
  refine PySem.wpAt_of_wpAny ?_
  rw [F.owner]
  repeat (first | with_reducible refine wpAny_madeHere_exc F.canon hC ?_ | with_reducible refine wpAny_loadPart_at hC ?_ | (with_reducible refine wpAny_isSubtype_exc hC ?_; first | rw [hcB] | rw [hcA] | rw [hcN]) | wp_step)
  show R _ _
  rw [Heap.size_push]
  exact hq
/-- C(..): the tuple of the arguments, the exception; then its __init__ -/
theorem xmake_core {K : Frag} {f : Addr} (X : K.In h) (hx : xmakesIn K C = true) (hi : findIn K (.ref C) "__init__" = some (some (.ref f))) (hf : typeIn K (.ref f) = some (.type "function")) (hrest : rest.length ≤ sizeLine)
    (hq : codeAny (model prog w) (A.under (.builtin "type.__call__" ⟨.ref C :: rest, []⟩)) (.call (.ref f) ⟨.ref (h.objs.size + 1) :: rest, []⟩) (InitBack (h.objs.size + 1) R)
      ⟨(h.push (xArgs rest)).push (xNew C h.objs.size), g, dr, t, os⟩) :
    codeAny (model prog w) A (.call (.ref C) ⟨rest, []⟩) R ⟨h, g, dr, t, os⟩ := by
  obtain ⟨nm, q, N, bs, bm, hdct, sn, sub, ab, col, dd, k0, k1, k2, k3, k5, hC, hB, hA, hN⟩ := xmakes_of X hx
  have f1 := tc_lookup
  have f2 := tc_bind (.ref C)
  have hT : (⟨h, g, dr, t, os⟩ : Shared).TypeIs (.ref C) "type" := ⟨_, hC, rfl⟩
  refine codeAny_of_tree ?_
  show wpAny _ _ (callAny (.ref C) _) _ _ _
  repeat (any_goals (first | assumption | with_reducible refine wpAny_loadPart_at hC ?_ | wp_step))
  refine ⟨rfl, ?_⟩
  refine codeAny_call_builtin_at (Code.quiet_builtin _ (by decide +kernel)) entry_typeCall (wpAny_check_type_call_sub hC ?_)
  unfold Builtin.«type.__call__»
  repeat (first | with_reducible refine wpAny_loadPart_at hC ?_ | with_reducible refine wpAny_madeBy_exc hC ?_ | wp_step)
  refine codeAny_call_builtin_code (Code.quiet_builtin _ PySem.F.excBase_ValueError.quiet) (xnew_check (rest := rest) hC hB ?_)
  refine xnew_run (rest := rest) hC hB hA hN hrest ?_
  show wpAny _ _ _ _ _ _
  have k : ∀ b o, h.get? b = some o → ((h.push (xArgs rest)).push (xNew C h.objs.size)).get? b = some o := fun b o e => Heap.get?_push_of_some _ (Heap.get?_push_of_some _ e)
  have hC1 := k _ _ hC
  have hg : ((h.push (xArgs rest)).push (xNew C h.objs.size)).get? (h.objs.size + 1) = some (xNew C h.objs.size) := by heap_get
  have hcC : (Value.ref C :: bm).contains (.ref C) = true := by simp
  have i1 : Looks (model prog w) ((h.push (xArgs rest)).push (xNew C h.objs.size)) (typeLookup (.ref C) "__init__") (some (.ref f)) := looks_findIn (X.keeps k) hi
  have b1 : Looks (model prog w) ((h.push (xArgs rest)).push (xNew C h.objs.size)) (bindSpecial (.ref f) (.ref (h.objs.size + 1))) (.ref f, [.ref (h.objs.size + 1)]) := bind_fn (X.keeps k) _ hf
  have t1 : Looks (model prog w) ((h.push (xArgs rest)).push (xNew C h.objs.size)) (typeOf (.ref (h.objs.size + 1))) (.ref C) := (Looks.ld hg).andThen .now
  have s1 : Looks (model prog w) ((h.push (xArgs rest)).push (xNew C h.objs.size)) (isSubtype (.ref C) (.ref C)) true := fun A' Q' E' s' k' q' => by
    obtain ⟨h2, g2, d2, u2, o2⟩ := s'
    exact wpAny_isSubtype_exc (k' _ _ hC1) (by rw [hcC]; exact q')
  unfold isInstance callSpecial? specialOf
  repeat (first | with_reducible refine wpAny_call ?_ | lk)
  refine codeAny_mono hq fun r s' z => ?_
  rcases r with e | (v | _ | _ | _) <;> first | exact z | exact z.elim | skip
  obtain ⟨rfl, z⟩ := z
  exact wpAny_pure (wpAny_pure z)
end
end L2
end
section
set_option Elab.async false
set_option linter.all false
set_option maxRecDepth 100000
namespace L2
open PySem PySem.Spec PyProof.Rows
abbrev Cx.re (X : Cx) (A : Around) (calm : Bool) (E : Value → Shared → Prop) : Cx := { X with A := A, calm := calm, xe := E }
abbrev Cx.tr (X : Cx) (pn : List (Addr × Obj)) (E : Value → Shared → Prop) : Cx := { X with pn := pn, xe := E }
theorem Cx.Ok.re {X : Cx} {A : Around} {calm : Bool} {E : Value → Shared → Prop} (ok : X.Ok) (hf : A.frames = some X.stack) (hd : calm = true → A.handled = none) : (X.re A calm E).Ok :=
  ⟨ok.mod, ok.kind, ok.glob, ok.blt, ok.above, ok.inj, ok.has, ok.cab, hd, hf, ok.stk, ok.exf, ok.bs, ok.bsz, ok.noex, ok.exfs, ok.funs, ok.frf⟩
theorem Cx.Ok.tr {X : Cx} {pn : List (Addr × Obj)} {E : Value → Shared → Prop} (ok : X.Ok) : (X.tr pn E).Ok :=
  ⟨ok.mod, ok.kind, ok.glob, ok.blt, ok.above, ok.inj, ok.has, ok.cab, ok.hd, ok.frames, ok.stk, ok.exf, ok.bs, ok.bsz, ok.noex, ok.exfs, ok.funs, ok.frf⟩
section
variable {X : Cx} {pins pn : List (Addr × Obj)} {σ : St} {H : Hp} {s : Shared} {A : Around} {calm : Bool} {E : Value → Shared → Prop}
theorem Inv.re (I : Inv X pins σ H s) (hf : A.frames = some X.stack) (hd : calm = true → A.handled = none) : Inv (X.re A calm E) pins σ H s :=
  ⟨I.ok.re hf hd, I.os, I.bare, I.base, I.loc, I.cell, I.free, I.freeC, I.pin, I.hok, I.len⟩
theorem Inv.unre (ok : X.Ok) (I : Inv (X.re A calm E) pins σ H s) : Inv X pins σ H s :=
  ⟨ok, I.os, I.bare, I.base, I.loc, I.cell, I.free, I.freeC, I.pin, I.hok, I.len⟩
theorem Inv.tr (I : Inv X pins σ H s) : Inv (X.tr (X.pn ++ pins) E) [] σ H s :=
  ⟨I.ok.tr, I.os, I.bare, I.base, I.loc, I.cell, I.free, I.freeC, fun p hp => I.pin p (by rw [List.append_nil] at hp; exact hp), I.hok, I.len⟩
theorem Inv.untr {pins' : List (Addr × Obj)} (ok : X.Ok) (I : Inv (X.tr (X.pn ++ pins) E) pins' σ H s) : Inv X pins σ H s :=
  ⟨ok, I.os, I.bare, I.base, I.loc, I.cell, I.free, I.freeC, fun p hp => I.pin p (List.mem_append_left _ hp), I.hok, I.len⟩
theorem SP.unre {D : Ends} {f : Flow} {s' : Shared} (ok : X.Ok) (h : SP (X.re A calm E) pins D f s') : SP X pins D f s' := by
  cases f with
  | next => obtain ⟨σ', H', I, q⟩ := h; exact ⟨σ', H', I.unre ok, q⟩
  | brk => obtain ⟨σ', H', I, q⟩ := h; exact ⟨σ', H', I.unre ok, q⟩
  | cont => obtain ⟨σ', H', I, q⟩ := h; exact ⟨σ', H', I.unre ok, q⟩
  | ret u => obtain ⟨v, σ', H', I, r, q⟩ := h; exact ⟨v, σ', H', I.unre ok, r, q⟩
theorem SP.untr {D : Ends} {f : Flow} {s' : Shared} (ok : X.Ok) (h : SP (X.tr (X.pn ++ pins) E) [] D f s') : SP X pins D f s' := by
  cases f with
  | next => obtain ⟨σ', H', I, q⟩ := h; exact ⟨σ', H', I.untr ok, q⟩
  | brk => obtain ⟨σ', H', I, q⟩ := h; exact ⟨σ', H', I.untr ok, q⟩
  | cont => obtain ⟨σ', H', I, q⟩ := h; exact ⟨σ', H', I.untr ok, q⟩
  | ret u => obtain ⟨v, σ', H', I, r, q⟩ := h; exact ⟨v, σ', H', I.untr ok, r, q⟩
end
structure RoomU (k : Nat) (A : Around) : Prop where
  dp : A.depth + 3 * k + 5 < recursionLimit
  un : A.units + 16 * k + 200 < cLine
theorem Room.u {k : Nat} {A : Around} (r : Room k A) : RoomU k A := ⟨r.dp, r.un⟩
theorem RoomU.mono {j k : Nat} {A : Around} (r : RoomU k A) (h : j ≤ k) : RoomU j A := ⟨by have := r.dp; omega, by have := r.un; omega⟩
theorem RoomU.mark {k : Nat} {A : Around} (r : RoomU k A) (e : Option Value) : RoomU k (A.mark e) := ⟨r.dp, r.un⟩
theorem RoomU.deeper {k : Nat} {A : Around} (r : RoomU (k + 1) A) (env : Env) : RoomU k (A.deeper env) :=
  ⟨by have := r.dp; show A.depth + 1 + 3 * k + 5 < _; omega, by have := r.un; show A.units + 3 + 16 * k + 200 < _; omega⟩
theorem RoomU.make {k : Nat} {A : Around} (r : RoomU (k + 1) A) (C : Addr) (us : List Value) (kw : List (Str × Value)) : RoomU k (A.under (.builtin "type.__call__" ⟨.ref C :: us, kw⟩)) :=
  ⟨by have := r.dp; rw [make_depth]; omega, by have := r.un; rw [make_units]; omega⟩
structure FnOkU (P : Program) (w : World) (K : PySem.W.Frag) (mg : Str → Option Value) (base : Heap) (CX : CXT) (k : Nat) (f : Addr) (fd : FuncData) (ps : List Str) (sp : Sp) : Prop where
  len : ∀ vs H Q E, sp vs H Q E → vs.length = ps.length
  run : ∀ (A : Around) (outer : List Env) (s : Shared) (H : Hp) (args : Args) (us : List Value) (vs : List V) (Q : VK) (E : XK), RoomU k A → Env0 P w K mg base A outer s H → BindsTo s fd args (ps.zip us) → Vals vs us → sp vs H Q E →
    codeAny (model P w) A (.call (.ref f) args) (CR CX outer P w H s Q E) s
def cxOfU (CX : CXT) (P : Program) (w : World) (K : PySem.W.Frag) (mg : Str → Option Value) (base : Heap) (N : List Str) (qual : Str) (scope : Scope) (f : Addr) (cd : Value) (A : Around) (outer : List Env) (s : Shared) (H : Hp) (E : XK) : Cx :=
  { cxOf CX P w K mg base N qual scope f cd A outer s H E with calm := false }
theorem fn_ofU {CX : CXT} {P : Program} {w : World} {K : PySem.W.Frag} {mg : Str → Option Value} {base : Heap} {k : Nat} {f : Addr} {name qual : Str} {params : Arguments} {body : List Stmt} {scope : Scope} {dV kV doc pm cdv ct oc : Value} {an od : Option Addr}
    {osl : Array (Option Value)} {N ps : List Str} {sp : Sp} (lk : K.lookup f = some ⟨oc, od, .func (PySem.W.fnOf name qual params body scope dV kV doc pm an cdv ct), osl⟩) (hcd : PySem.W.codeIn K cdv qual = true) (S : FnScope N ps scope)
    (len : ∀ vs H Q E, sp vs H Q E → vs.length = ps.length)
    (hbody : ∀ (A : Around) (outer : List Env) (s : Shared) (H : Hp) (vs : List V) (Q : VK) (E : XK), RoomU k (A.deeper (envOfC qual scope s.heap.objs.size f cdv)) → sp vs H Q E →
      ∃ t, PSs (cxOfU CX P w K mg base N qual scope f cdv A outer s H E) body t ∧ t { nx := fun _ H' => Q .non H', rt := Q } (start N vs) H) :
    FnOkU P w K mg base CX (k + 1) f (PySem.W.fnOf name qual params body scope dV kV doc pm an cdv ct) ps sp := by
  refine ⟨len, fun A outer s H args us vs Q E hr e0 hb r hsp => ?_⟩
  have hl := len _ _ _ _ hsp
  have KX : K.In s.heap := e0.mod.kin.keeps fun b o e => (e0.bs b o e).1
  have lim : s.heap.NoLimit := e0.mod.nolimit.keeps fun b o e => (e0.bs b o e).1
  have hkind : ∀ y ∈ ps.zip us, scope.names.lookup y.1 = some .local ∨ (scope.names.lookup y.1 = some .cell ∧ ((cellsFrom (s.heap.objs.size + 1) scope.names []).lookup y.1).isSome = true) := fun ⟨n, v⟩ hy => by
    rcases S.par n (List.of_mem_zip hy).1 with q | q
    · exact .inl q
    · exact .inr ⟨q, PySem.W.cellsFrom_some _ _ _ (.inl q)⟩
  have hdp : A.depth < recursionLimit := by have := hr.dp; omega
  refine codeAny_call_function hdp (KX _ _ lk) rfl S.co S.gen rfl (PySem.W.codeRec_of KX hcd) (hb _ _ _ _ ?_)
  refine wpAny_newFunctionEnv_cells S.kind hkind fun env he s1 x => ?_
  subst he
  refine ⟨lim.keeps x.toInCall.keep, codeAny_func ?_⟩
  obtain ⟨t, ht, hq⟩ := hbody A outer s H vs Q E (hr.deeper _) hsp
  have e1 : Env0 P w K mg base { A with handled := none } outer s H := ⟨e0.frames, e0.mod, e0.bs, e0.bsz, e0.funs, e0.frf, e0.hok, e0.bare⟩
  have I0 : Inv (cxOf CX P w K mg base N qual scope f cdv { A with handled := none } outer s H E) [] (start N vs) H s1 := inv_start S rfl e1 hl r x
  have I : Inv (cxOfU CX P w K mg base N qual scope f cdv A outer s H E) [] (start N vs) H s1 :=
    ⟨⟨I0.ok.mod, I0.ok.kind, I0.ok.glob, I0.ok.blt, I0.ok.above, I0.ok.inj, I0.ok.has, I0.ok.cab, fun z => (Bool.false_ne_true z).elim, Around.frames_deeper e0.frames, I0.ok.stk, I0.ok.exf, I0.ok.bs, I0.ok.bsz, I0.ok.noex, I0.ok.exfs, I0.ok.funs, I0.ok.frf⟩,
      I0.os, I0.bare, I0.base, I0.loc, I0.cell, I0.free, I0.freeC, I0.pin, I0.hok, I0.len⟩
  refine wpAny_mono (ht [] s1 (start N vs) H _ I hq) (fun fl s' hs => ?_) fun e s' hs => hs
  have fin : ∀ {σ' : St} {H' : Hp} {v : V} {u : Value}, Inv (cxOfU CX P w K mg base N qual scope f cdv A outer s H E) [] σ' H' s' → RelV v u → Q v H' → CE outer P w H s Q u s' :=
    fun {σ' H' v u} J rv q => ⟨v, H', J.os, J.bare, J.base, J.hok, rv, q⟩
  cases fl with
  | ret u =>
    obtain ⟨v, σ', H', J, rv, q⟩ := hs
    exact fin J rv q
  | next =>
    obtain ⟨σ', H', J, q⟩ := hs
    exact fin (v := V.non) (u := Value.none) J rfl q
  | brk =>
    obtain ⟨_, _, _, q⟩ := hs
    exact False.elim q
  | cont =>
    obtain ⟨_, _, _, q⟩ := hs
    exact False.elim q
section
variable {X : Cx} {CX : CXT} {k : Nat} {f C : Addr} {fd : FuncData} {ps : List Str} {sp : Sp} {E : XK} {x m fld : Str} {p pos apos pos' : Pos} {e o value : Expr} {es : List Expr} {ta te tv : TE} {t : TA}
theorem run_fnU {pins : List (Addr × Obj)} {σ : St} {H : Hp} {s : Shared} {Q : VK} {us : List Value} {vs : List V} (F : FnOkU X.prog X.w X.K X.mg X.base CX k f fd ps sp) (hr : RoomU k X.A) (hb : Binds X.K fd ps []) (hx : Passes CX X E)
    (I : Inv X pins σ H s) (r : Vals vs us) (h : sp vs H Q E) : wpAny (model X.prog X.w) X.A (call (.ref f) us) (EP X pins σ Q) X.xe s := by
  have hl : (us ++ []).length = ps.length := by rw [List.append_nil, ← r.length]; exact F.len _ _ _ _ h
  have hb' := hb s us I.kIn hl
  rw [List.append_nil] at hb'
  refine wpAny_call (codeAny_mono (F.run X.A X.stack s H ⟨us, []⟩ us vs Q E hr I.env0 hb' r h) fun r s' hq => ?_)
  cases r with
  | error e => exact hx pins σ H s e s' I hq
  | ok fl =>
    cases fl with
    | ret u => exact I.after hq
    | next => exact False.elim hq
    | brk => exact False.elim hq
    | cont => exact False.elim hq
structure XMk (K : PySem.W.Frag) (C f : Addr) : Prop where
  makes : xmakesIn K C = true
  init : PySem.W.findIn K (.ref C) "__init__" = some (some (.ref f))
  fn : PySem.W.isFn K (.ref f) = true
  kp : PySem.W.keepIn K (.ref C) = true
def tXMake (C : Addr) (sp : Sp) (E : XK) (t : TA) : TE := fun σ H Q => t σ H fun vs H1 => vs.length ≤ 100 ∧ ∀ a, H1 a = none → sp (.ref a :: vs) (upd H1 a (XoO a C none .none none)) (fun v H2 => v = .non ∧ Q (.ref a) H2) E
theorem run_xmake {pins : List (Addr × Obj)} {σ : St} {H : Hp} {s : Shared} {Q : VK} {us : List Value} {vs : List V} (M : XMk X.K C f) (F : FnOkU X.prog X.w X.K X.mg X.base CX k f fd ps sp) (hr : RoomU (k + 1) X.A) (hb : Binds X.K fd ps [])
    (hx : Passes CX X E) (I : Inv X pins σ H s) (r : Vals vs us) (hv : vs.length ≤ 100)
    (h : ∀ a, H a = none → sp (.ref a :: vs) (upd H a (XoO a C none .none none)) (fun v H2 => v = .non ∧ Q (.ref a) H2) E) :
    wpAny (model X.prog X.w) X.A (call (.ref C) us) (EP X pins σ Q) X.xe s := by
  have hus : us.length ≤ sizeLine := by rw [← r.length, sizeLine_eq]; omega
  have hq := h (s.heap.objs.size + 1) (I.hok.fresh (Nat.le_succ _))
  obtain ⟨hh, g, dr, tk, os⟩ := s
  have e1 : (hh.push (xArgs us)).get? hh.objs.size = some (xArgs us) := Heap.get?_push_size hh rfl
  have e2 : ((hh.push (xArgs us)).push (xNew C hh.objs.size)).get? (hh.objs.size + 1) = some (xNew C hh.objs.size) := by heap_get
  have I1 := I.kept (h' := hh.push (xArgs us)) (t' := tk) fun b u q => Heap.get?_push_of_some _ q
  have I2 := I1.laid (a := hh.objs.size + 1) (o := XoO (hh.objs.size + 1) C none .none none) (h' := (hh.push (xArgs us)).push (xNew C hh.objs.size)) (t' := tk) (fun b u q => Heap.get?_push_of_some _ q) (Nat.le_of_eq (Heap.size_push _ _))
    (xo_ok e2 (by simp) rfl rfl)
  have r2 : Vals (V.ref (hh.objs.size + 1) :: vs) (Value.ref (hh.objs.size + 1) :: us) := .cons rfl r
  have hl : (Value.ref (hh.objs.size + 1) :: us ++ []).length = ps.length := by
    rw [List.append_nil, ← r2.length]
    exact F.len _ _ _ _ hq
  have hb' := hb _ (Value.ref (hh.objs.size + 1) :: us) I2.kIn hl
  rw [List.append_nil] at hb'
  refine wpAny_call (xmake_core (f := f) I.kIn M.makes M.init (beq_iff_eq.mp M.fn) hus (codeAny_mono (F.run _ X.stack _ _ ⟨Value.ref (hh.objs.size + 1) :: us, []⟩ (Value.ref (hh.objs.size + 1) :: us) _ _ E (hr.make C us [])
    (I2.env0.make C us []) hb' r2 hq) fun r s' hq' => ?_))
  cases r with
  | error e => exact hx pins σ _ _ e s' I2 hq'
  | ok fl =>
    cases fl with
    | ret u =>
      obtain ⟨v, H', I3, rv, ev, q3⟩ := I2.after hq'
      subst ev
      exact ⟨rv, ⟨V.ref (hh.objs.size + 1), H', I3, rfl, q3⟩⟩
    | next => exact False.elim hq'
    | brk => exact False.elim hq'
    | cont => exact False.elim hq'
theorem pe_xmake (M : XMk X.K C f) (F : FnOkU X.prog X.w X.K X.mg X.base CX k f fd ps sp) (hr : RoomU (k + 1) X.A) (hg : Gl X x) (hm : X.mg x = some (.ref C)) (hb : Binds X.K fd ps []) (hx : Passes CX X E)
    (ha : PA X (e :: es) t) (hdb : (x == ("__debug__" : Str)) = false := by decide) (he : starEach (e :: es) X.env = (false, eval e X.env) :: starEach es X.env := by rfl) (hpl : (backTo pos (starEach es X.env)).any (·.1) = false := by rfl) :
    PE X (.Call (.Name x p) (e :: es) [] pos) (tXMake C sp E t) := by
  intro pins s σ H Q I h
  refine wpAny_Call_Name_kw (ld_glob I hg hm ?_ hdb)
  refine PySem.W.callWith_K (h₀ := X.base) I.ok.mod.kin M.kp (thn (ha pos pins s σ H _ I h) fun us s1 ⟨vs, H1, I1, r, hv, q⟩ => ⟨I1.kIn, ?_⟩) he hpl
  exact run_xmake M F hr hb hx I1 r hv q
theorem pe_xmake0 (M : XMk X.K C f) (F : FnOkU X.prog X.w X.K X.mg X.base CX k f fd ps sp) (hr : RoomU (k + 1) X.A) (hg : Gl X x) (hm : X.mg x = some (.ref C)) (hb : Binds X.K fd ps []) (hx : Passes CX X E)
    (hdb : (x == ("__debug__" : Str)) = false := by decide) : PE X (.Call (.Name x p) [] [] pos) (tXMake C sp E tNil) := by
  intro pins s σ H Q I h
  refine wpAny_Call_Name_kw (ld_glob I hg hm ?_ hdb)
  exact PySem.W.callWith_K0 I.kIn M.kp (run_xmake (us := []) M F hr hb hx I .nil (by simp) h.2)
theorem pe_clsm {mc : Value} {pl : Sem Bool} (hg : Gl X x) (hm : X.mg x = some (.ref C)) (hsp : PySem.W.specialIn X.K (.ref C) "__getattribute__" = some (some (.builtin "type.__getattribute__"))) (hr0 : PySem.W.readsIn X.K C mc = true)
    (hfc : PySem.W.findCls X.K (.ref C) mc m = some (.val (.ref f))) (hk : PySem.W.keepIn X.K (.ref f) = true)
    (F : FnOkU X.prog X.w X.K X.mg X.base CX k f fd ps sp) (hr : RoomU k X.A) (hb : Binds X.K fd ps []) (hx : Passes CX X E) (ha : PA X (e :: es) t)
    (hdb : (x == ("__debug__" : Str)) = false := by decide) (hst : starEach (e :: es) X.env = (false, eval e X.env) :: starEach es X.env := by rfl) (hpl : (backTo pos (starEach es X.env)).any (·.1) = false := by rfl)
    (ht : eval (.Call (.Attribute (.Name x p) m apos) (e :: es) [] pos) X.env = (do
      let ov ← eval (.Name x p) X.env
      standAt apos.atName
      let (f, first) ← holding [ov] (getMethod ov m pl)
      callWith pos f first (backTo pos (starEach (e :: es) X.env)) (backToKw pos (keywordEach [] X.env))) := by rfl) :
    PE X (.Call (.Attribute (.Name x p) m apos) (e :: es) [] pos) (tCall sp [] E t) := by
  intro pins s σ H Q I h
  refine PySem.W.methodCall_KW (pl := pl) (ld_glob I hg hm ?_ hdb) ht
  refine PySem.W.method_cls I.kIn hsp (PySem.W.cls_value I.kIn hr0 hfc rfl ?_)
  refine PySem.W.callWith_K (first := []) (h₀ := X.base) I.ok.mod.kin hk (thn (ha pos pins _ σ H _ (I.tok _) h) fun us s2 ⟨vs, H2, I2, r, q2⟩ => ⟨I2.kIn, ?_⟩) hst hpl
  have q3 : sp (vs ++ []) H2 Q E := q2
  rw [List.append_nil] at q3
  exact run_fnU F hr hb hx I2 r q3
def sXFld0 (K : PySem.W.Frag) (ta tv : TE) (f : Str) : TS := fun D σ H => tv σ H fun y H1 => ta σ H1 fun x H2 => ∃ a C tb cx, x = .ref a ∧ H2 a = some (XoO a C none tb cx) ∧ XCls K C ∧ NoAttr K C f ∧
  ∀ d, H2 d = none → d ≠ a → D.nx σ (upd (upd H2 d (XdO d [(f, y)])) a (XoO a C (some d) tb cx))
def sXFld (K : PySem.W.Frag) (ta tv : TE) (f : Str) : TS := fun D σ H => tv σ H fun y H1 => ta σ H1 fun x H2 => ∃ a C d fs tb cx, x = .ref a ∧ H2 a = some (XoO a C (some d) tb cx) ∧ H2 d = some (XdO d fs) ∧ d ≠ a ∧ XCls K C ∧ NoAttr K C f ∧
  fs.length < 1000 ∧ D.nx σ (upd H2 d (XdO d (putF f y fs)))
theorem ps_xfld0 (ha : PE X o ta) (hv : PE X value tv) (hs : swapsWith value (some (.Attribute o fld pos')) pos.line X.env = pure false) : PS X (.Assign [.Attribute o fld pos'] value pos) (sXFld0 X.K ta tv fld) := by
  intro pins s σ H D I h
  refine plainObj_wpAny_Assign_Attribute (thn (hv pins s σ H _ I h) fun u s1 ⟨y, H1, I1, ry, q⟩ => thn (ha pins s1 σ H1 _ I1 q) fun ov s2 ⟨x, H2, I2, rx, a, C, tb, cx, ex, ea, c, n, q2⟩ => ?_) hs
  subst ex
  obtain rfl : ov = Value.ref a := rx
  obtain ⟨vs, ga, z, h1, h2⟩ := xo_get I2.hok ea
  have nd : H2 s2.heap.objs.size = none := I2.hok.fresh (Nat.le_refl _)
  have na : s2.heap.objs.size ≠ a := Ne.symm (Nat.ne_of_lt (Heap.lt_size ga))
  refine xset0 I2.kIn c ga n fun h' e1 e2 kp => ⟨σ, _, ?_, q2 s2.heap.objs.size nd na⟩
  obtain ⟨od, es, ep, g1, g2⟩ := id e2
  have fr : od.isFreed = false := (Heap.get?_some_iff.mp g1).2
  have p1 : (s2.heap.push od).get? s2.heap.objs.size = some od := Heap.get?_push_size s2.heap fr
  have J1 := I2.laid (a := s2.heap.objs.size) (o := XdO s2.heap.objs.size [(fld, y)]) (h' := s2.heap.push od) (t' := s2.toks + 2) (fun b u q => Heap.get?_push_of_some _ q) (Nat.le_refl _)
    (xd_ok (mA := fun g => if g = fld then some u else none) ⟨od, es, ep, p1, g2⟩ (fun g => ?_) (fun g hg => ?_) (by simp))
  · refine J1.write (x := a) (e := a) (h' := h') (t' := s2.toks + 2) (by rw [upd_ne (Ne.symm na), ea]; exact True.intro) (.inl rfl) (fun b u hb r => ?_) ⟨_, e1⟩ (xo_ok e1 z h1 h2)
    by_cases hbs : b = s2.heap.objs.size
    · subst hbs
      have r' : (s2.heap.push od).get? s2.heap.objs.size = some u := r
      rw [p1] at r'
      cases r'
      exact g1
    · have hlt : b < (s2.heap.push od).objs.size := Heap.lt_size r
      rw [Heap.size_push] at hlt
      have r' : (s2.heap.push od).get? b = some u := r
      have e3 : (s2.heap.push od).get? b = s2.heap.get? b := Heap.get?_push_ne _ _ _ (by omega)
      exact kp b u hb (e3.symm.trans r')
  · show RelO (List.lookup g [(fld, y)]) (if g = fld then some u else none)
    by_cases hgf : g = fld
    · rw [if_pos hgf]
      have hb : (g == fld) = true := beq_iff_eq.mpr hgf
      simp only [List.lookup, hb]
      exact ry
    · rw [if_neg hgf]
      have hb : (g == fld) = false := beq_eq_false_iff_ne.mpr hgf
      simp only [List.lookup, hb]
      exact True.intro
  · by_cases hgf : g = fld
    · rw [hgf]; exact List.mem_cons_self
    · exact absurd (if_neg hgf) hg
theorem ps_xfld (ha : PE X o ta) (hv : PE X value tv) (hs : swapsWith value (some (.Attribute o fld pos')) pos.line X.env = pure false) : PS X (.Assign [.Attribute o fld pos'] value pos) (sXFld X.K ta tv fld) := by
  intro pins s σ H D I h
  refine plainObj_wpAny_Assign_Attribute (thn (hv pins s σ H _ I h) fun u s1 ⟨y, H1, I1, ry, q⟩ => thn (ha pins s1 σ H1 _ I1 q) fun ov s2 ⟨x, H2, I2, rx, a, C, d, fs, tb, cx, ex, ea, ed, dn, c, n, hl, q2⟩ => ?_) hs
  subst ex
  obtain rfl : ov = Value.ref a := rx
  obtain ⟨vs, ga, z, h1, h2⟩ := xo_get I2.hok ea
  obtain ⟨mA, hm, r, wi, _⟩ := xd_get I2.hok ed
  have hz : (fs.map (·.1)).length ≤ sizeLine := by rw [List.length_map, sizeLine_eq]; omega
  refine xset1 I2.kIn c ga hm dn n wi hz fun h' hn sb => ⟨σ, _, ?_, q2⟩
  have hd : ∃ o, h'.get? d = some o := let ⟨o, _, _, e', _⟩ := hn; ⟨o, e'⟩
  refine I2.write (x := d) (e := d) (h' := h') (t' := s2.toks + 2) (by rw [ed]; exact True.intro) (.inl rfl) (fun b q hb z => (sb.2 b hb).trans z) hd (xd_ok hn (fun g => ?_) (fun g hg => ?_) ?_)
  · show RelO ((putF fld y fs).lookup g) (if g = fld then some u else mA g)
    rw [lookup_putF]
    by_cases q : g = fld
    · rw [if_pos q, if_pos q]; exact ry
    · rw [if_neg q, if_neg q]; exact r g
  · by_cases q : g = fld
    · rw [q]; exact (keys_putF fld y fs).1
    · refine (keys_putF fld y fs).2 g (wi g fun z => hg ?_)
      show (if g = fld then some u else mA g) = none
      rw [if_neg q]; exact z
  · have := length_putF fld y fs; omega
def tXFld (K : PySem.W.Frag) (ta : TE) (f : Str) : TE := fun σ H Q => ta σ H fun x H1 => ∃ a C d fs tb cx v, x = .ref a ∧ H1 a = some (XoO a C (some d) tb cx) ∧ H1 d = some (XdO d fs) ∧ XCls K C ∧ NoAttr K C f ∧ fs.lookup f = some v ∧ Q v H1
theorem pe_xfld (he : PE X e ta) (hb : attributeBase e fld X.env (eval e X.env) = eval e X.env) : PE X (.Attribute e fld pos) (tXFld X.K ta fld) := by
  intro pins s σ H Q I h
  refine attr_of hb (thn (he pins s σ H _ I h) fun u s1 ⟨x, H1, I1, rx, a, C, d, fs, tb, cx, v, ex, ea, ed, c, n, l, q⟩ => ?_)
  subst ex
  obtain rfl : u = Value.ref a := rx
  obtain ⟨vs, ga, z, h1, h2⟩ := xo_get I1.hok ea
  obtain ⟨mA, hm, r, wi, _⟩ := xd_get I1.hok ed
  obtain ⟨u, hu, ru⟩ := RelO.some_of (v := v) (o := mA fld) (by rw [← l]; exact r fld)
  exact xget I1.kIn c ga hm n hu (handed_of ru) ⟨v, H1, I1.tok _, ru, q⟩
end
end L2
end
section
set_option Elab.async false
set_option linter.all false
set_option maxRecDepth 100000
namespace L2
open PySem PySem.Spec PyProof.Rows
section
variable {X : Cx} {pins : List (Addr × Obj)} {σ : St} {H : Hp} {s : Shared} {a C : Addr} {fs : List (Str × V)} {dict cx : Option Addr} {tb : Value} {A : Around} {E' : Value → Shared → Prop}
theorem x_isType {M : Model} {h : Heap} {vs : Array Value} (ga : h.get? a = some ⟨.ref C, dict, .fields vs, #[]⟩) : PySem.W.Looks M h (isType (.ref a)) false := fun A' Q' E' s' k' q' => by
  obtain ⟨h2, g2, d2, u2, o2⟩ := s'
  exact PySem.ks_wpAny_isType_inst (k' _ _ ga) (by intro c z; cases z) q'
theorem x_fromValue {complaint : String} {Q : Value → Shared → Prop} (I : Inv X pins σ H s) (c : XCls X.K C) (ea : H a = some (XoO a C dict tb cx)) (h : Q (.ref a) s) : wpAny (model X.prog X.w) A (excFromValue (.ref a) complaint) Q E' s := by
  obtain ⟨vs, ga, z, h1, h2⟩ := xo_get I.hok ea
  have I1 : ∃ od, PySem.W.InstAt s.heap a ⟨.ref C, dict, .fields vs, #[]⟩ C od ∨ True := ⟨none, .inr True.intro⟩
  have t1 : PySem.W.Looks (model X.prog X.w) s.heap (typeOf (.ref a)) (.ref C) := (PySem.W.Looks.ld ga).andThen .now
  obtain ⟨cd, hc, ht⟩ := PySem.W.any_some c.tail
  have s1 : PySem.W.Looks (model X.prog X.w) s.heap (isInstance (.ref a) (.type "BaseException")) true :=
    t1.andThen (PySem.W.looks_mroIn I.kIn (by unfold PySem.W.mroIn; rw [hc, Option.bind_some, if_neg (by rw [excTail_ne ht]; decide), excTail_has (by decide) ht]))
  unfold excFromValue isExcClass
  refine wpAny_bind (wpAny_bind ((x_isType ga).here ?_))
  rw [if_neg Bool.false_ne_true]
  refine wpAny_pure ?_
  rw [if_neg Bool.false_ne_true]
  refine wpAny_bind (s1.here ?_)
  rw [if_pos rfl]
  exact wpAny_pure h
theorem x_raised {Q : Value → Shared → Prop} (I : Inv X pins σ H s) (c : XCls X.K C) (ea : H a = some (XoO a C dict tb cx)) (h : Q (.ref a) s) : wpAny (model X.prog X.w) A (raisedInstance (.ref a)) Q E' s := by
  obtain ⟨vs, ga, z, h1, h2⟩ := xo_get I.hok ea
  have t1 : PySem.W.Looks (model X.prog X.w) s.heap (typeOf (.ref a)) (.ref C) := (PySem.W.Looks.ld ga).andThen .now
  unfold raisedInstance
  refine wpAny_bind (t1.here (wpAny_bind ((PySem.W.looks_typeIn I.kIn c.cls).here ?_)))
  rw [if_pos (by decide)]
  exact wpAny_pure h
end
section
variable {X : Cx} {E : XK} {e : Expr} {te : TE} {pos cpos : Pos} {j : Nat}
def tRaise (K : PySem.W.Frag) (E : XK) (te : TE) : TS := fun _ σ H => te σ H fun x H1 => ∃ a C fs, x = .ref a ∧ XAt H1 a C fs none .none ∧ XCls K C ∧ E (.ref C) none (xH fs)
theorem ps_raise (o : Out X E) (hc : X.calm = true) (he : PE X e te) : PS X (.Raise (some e) none pos) (tRaise X.K E te) := by
  intro pins s σ H D I h
  rw [arm_exec_Raise]
  refine wpAny_bind (wpAny_standAt ?_)
  unfold raiseStmt
  refine wpAny_bind (wpAny_bind (thn (he pins s σ H _ I h) fun u s1 ⟨x, H1, I1, rx, a, C, fs, ex, xa, c, q⟩ => wpAny_bind (wpAny_standAt (wpAny_pure ?_))))
  subst ex
  obtain rfl : u = Value.ref a := rx
  obtain ⟨d, dn, ea, ed⟩ := xa.at_
  obtain ⟨vs, ga, z, h1, h2⟩ := xo_get I1.hok ea
  refine wpAny_bind (wpAny_pure (wpAny_bind (wpAny_holding (x_fromValue I1 c ea ?_))))
  refine wpAny_bind ((x_isType ga).here ?_)
  rw [if_neg Bool.false_ne_true]
  refine wpAny_bind (x_raised I1 c ea ?_)
  unfold setFlight
  refine wpAny_bind (wpAny_bind (wpAny_field ga rfl h1 ?_))
  rw [if_neg (by decide)]
  refine wpAny_pure (wpAny_raiseNew_none (I1.ok.hd hc) ?_)
  exact o pins σ H1 s1 a C fs none I1 (.inl (.inl xa)) q
theorem entry_unchain : entryFor table "proto.unchain" = some Builtin.«proto.unchain» := entryFor_of_tree (by kernel_rfl)
def tRaiseFrom (K : PySem.W.Frag) (E : XK) (b : Addr) (te : TE) : TS := fun _ σ H => te σ H fun x H1 => ∃ a C fs, x = .ref a ∧ XAt H1 a C fs none .none ∧ XCls K C ∧ a ≠ b ∧ (∃ Cb db tbb, H1 b = some (XoO b Cb db tbb none)) ∧ E (.ref C) (some b) (xH fs)
/-- raise e from None, within the suite that handles the exception at b -/
theorem ps_raiseFrom {b : Addr} (o : Out X E) (hh : X.A.handled = some (.ref b)) (he : PE X e te) : PS X (.Raise (some e) (some (.Constant .none j cpos)) pos) (tRaiseFrom X.K E b te) := by
  intro pins s σ H D I h
  rw [arm_exec_Raise]
  refine wpAny_bind (wpAny_standAt ?_)
  unfold raiseStmt
  refine wpAny_bind (wpAny_bind (thn (he pins s σ H _ I h) fun u s1 ⟨x, H1, I1, rx, a, C, fs, ex, xa, c, nab, ⟨Cb, db, tbb, eb⟩, q⟩ => wpAny_bind (wpAny_standAt (wpAny_pure ?_))))
  subst ex
  obtain rfl : u = Value.ref a := rx
  obtain ⟨d, dn, ea, ed⟩ := xa.at_
  obtain ⟨vs, ga, z, h1, h2⟩ := xo_get I1.hok ea
  refine wpAny_bind (wpAny_holding (wpAny_bind (Constant_none (wpAny_bind (wpAny_standAt (wpAny_pure (wpAny_bind (wpAny_pure ?_))))))))
  refine wpAny_bind (wpAny_holding (x_fromValue I1 c ea ?_))
  refine wpAny_bind (wpAny_pure ?_)
  have z3 : 3 < vs.size := Nat.lt_trans (by decide) z
  have J1 := xo_write (i := 3) (v := .none) (tb' := .none) (cx' := none) I1 ea ga z (by rw [Array.getElem?_setIfInBounds_ne (by decide)]; exact h1) (by rw [Array.getElem?_setIfInBounds_ne (by decide)]; exact h2)
  refine wpAny_bind (wpAny_setField ga rfl z3 ?_)
  obtain ⟨vs2, ga2, z2, h12, h22⟩ := xo_get J1.hok upd_same
  have J2 := xo_write (i := 4) (v := .bool true) (tb' := .none) (cx' := none) J1 upd_same ga2 z2 (by rw [Array.getElem?_setIfInBounds_ne (by decide)]; exact h12) (by rw [Array.getElem?_setIfInBounds_ne (by decide)]; exact h22)
  refine wpAny_bind (wpAny_setField ga2 rfl z2 ?_)
  obtain ⟨vs3, ga3, z3', h13, h23⟩ := xo_get J2.hok upd_same
  refine wpAny_bind ((x_isType ga3).here ?_)
  rw [if_neg Bool.false_ne_true]
  refine wpAny_bind (x_raised J2 c upd_same ?_)
  unfold setFlight
  refine wpAny_bind (wpAny_bind (wpAny_field ga3 rfl h13 ?_))
  rw [if_neg (by decide)]
  refine wpAny_pure ?_
  unfold raiseNew
  refine wpAny_bind (wpAny_handled ?_)
  rw [hh]
  dsimp only
  rw [if_pos (show (Value.ref b != Value.ref a) = true from by simp [bne, Ne.symm nab])]
  have eb2 : (upd (upd H1 a (XoO a C (some d) .none none)) a (XoO a C (some d) .none none)) b = some (XoO b Cb db tbb none) := by rw [upd_ne (Ne.symm nab), upd_ne (Ne.symm nab)]; exact eb
  obtain ⟨vb, gb, zb, hb1, hb2⟩ := xo_get J2.hok eb2
  refine wpAny_bind (wpAny_holding (wpAny_runValue (codeAny_builtin entry_unchain ?_)))
  unfold Builtin.«proto.unchain»
  refine wpAny_bind (wpAny_field gb rfl hb2 ?_)
  rw [if_pos (by decide)]
  refine wpAny_bind (wpAny_pure (wpAny_pure ?_))
  have J3 := xo_write (i := 2) (v := .ref b) (tb' := .none) (cx' := some b) J2 upd_same ga3 z3' (by rw [Array.getElem?_setIfInBounds_ne (by decide)]; exact h13) (by simp only [cxV]; rw [Array.getElem?_setIfInBounds_self_of_lt (Nat.lt_trans (by decide) z3')])
  refine wpAny_bind ?_
  show wpAny _ _ (setField (.ref a) 2 (.ref b)) _ _ _
  refine wpAny_setField ga3 rfl (Nat.lt_trans (by decide) z3') ?_
  refine wpAny_throw ?_
  refine o pins σ _ _ a C fs (some b) J3 (.inl (.inl ⟨d, dn, upd_same, ?_⟩)) q
  rw [upd_ne dn, upd_ne dn, upd_ne dn]
  exact ed
end
/-- the handlers, one after another: the exception at a, of class C, has been noted and flies nowhere -/
abbrev TH := Addr → Addr → List (Str × V) → Option Addr → TS
def PH (X : Cx) (hs : List ExceptHandler) (t : TH) : Prop :=
  ∀ (pins : List (Addr × Obj)) (s : Shared) (σ : St) (H : Hp) (D : Ends) (a C : Addr) (fs : List (Str × V)) (cx : Option Addr), Inv X pins σ H s → Noted H a C fs cx .none → t a C fs cx D σ H →
    wpAny (model X.prog X.w) X.A (handleBy (.ref a) X.env hs) (SP X pins D) X.xe s
/-- the context of a suite that handles the exception at a -/
abbrev Cx.hd (X : Cx) (a : Addr) : Cx := X.re (X.A.mark (some (.ref a))) false (notedBy (model X.prog X.w) (X.A.mark (some (.ref a))) X.env (cameBackBy (model X.prog X.w) X.A X.env X.xe))
theorem Inv.hd {X : Cx} {pins : List (Addr × Obj)} {σ : St} {H : Hp} {s : Shared} {a : Addr} (I : Inv X pins σ H s) : Inv (X.hd a) pins σ H s := I.re I.ok.frames fun z => (Bool.false_ne_true z).elim
/-- what is wanted of an exception that leaves the suite -/
theorem Out.hd {X : Cx} {E : XK} {b L : Addr} (o : Out X E) (ok : X.Ok) (hst : X.stack = X.env :: X.outer) (hf : X.env.frame = some L) : Out (X.hd b) E := by
  intro pins σ H s a C fs cx I n q
  have fin : ∀ H1 s1, Inv (X.hd b) pins σ H1 s1 → Noted H1 a C fs cx (rawInt L) → cameBackBy (model X.prog X.w) X.A X.env X.xe (.ref a) s1 := fun H1 s1 I1 n1 => by
    obtain ⟨T, d, n1', n2, n3, ea, ed, et⟩ := id n1
    obtain ⟨vs, ga, z, h1, h2⟩ := xo_get I1.hok ea
    refine wpAny_bind (wpAny_field ga rfl h1 ?_)
    rw [if_neg (show ¬ ((Value.ref T == Value.none) = true) from by simp)]
    refine flight_ok (X := X) (I1.unre ok) n1 fun H2 s2 I2 n2 => ?_
    exact o pins σ H2 s2 a C fs cx I2 (.inr ⟨L, hf, by rw [hf] at n2; exact n2⟩) q
  rcases n with n | ⟨L', e, n⟩
  · exact note_ok (X := X.hd b) (L := L) hst hf I.ok.frames I n fin
  · have e' : L = L' := Option.some.inj (hf.symm.trans e)
    subst e'
    exact note_again (X := X.hd b) hf I n (fin H s I n)
section
variable {X : Cx} {x n : Str} {Ch : Addr} {np pos : Pos} {b0 : Stmt} {suite : List Stmt} {rest : List ExceptHandler} {tb : Addr → TS} {tr : TH}
/-- except C: suite -/
def tHand (K : PySem.W.Frag) (Ch : Addr) (tb : Addr → TS) (tr : TH) : TH := fun a C fs cx D σ H => ∃ b, PySem.W.exmOne K (.ref C) (.ref Ch) = some b ∧ (b = true → ∀ H', Noted H' a C fs cx .none → tb a D σ H') ∧ (b = false → tr a C fs cx D σ H)
theorem ph_nil : PH X [] (fun _ _ _ _ => tNever) := fun _ _ _ _ _ _ _ _ _ _ _ h => h.elim
theorem ph_cons (hg : Gl X x) (hm : X.mg x = some (.ref Ch)) (hs : ∀ a, PSs (X.hd a) (b0 :: suite) (tb a)) (hr : PH X rest tr) (hd : (x == ("__debug__" : Str)) = false := by decide) :
    PH X (.ExceptHandler (some (.Name x np)) none (b0 :: suite) pos :: rest) (tHand X.K Ch tb tr) := by
  intro pins s σ H D a C fs cx I n ⟨b, hx, h1, h2⟩
  obtain ⟨T, d, n1', n2, n3, ea, ed, et⟩ := id n
  obtain ⟨vs, ga, z, q1, q2⟩ := xo_get I.hok ea
  have t1 : PySem.W.Looks (model X.prog X.w) s.heap (typeOf (.ref a)) (.ref C) := (PySem.W.Looks.ld ga).andThen .now
  refine wpAny_handleBy_cons (codeAny_handlers_test (ld_glob (X := X.hd a) I.hd hg hm ?_ hd)) (by intro q; cases q)
  refine (PySem.W.exm_one I.kIn t1 hx).here ?_
  cases b with
  | false => exact hr pins s σ H D a C fs cx I n (h2 rfl)
  | true =>
    refine codeAny_handlers_suite (flight_ok (X := X.hd a) I.hd n fun H1 s1 I1 n1 => ?_)
    exact wpAny_mono (hs a pins s1 σ H1 D I1 (h1 rfl H1 n1)) (fun f s2 q => SP.unre I.ok q) fun _ _ q => q
/-- except C as n: suite, where each way through the suite returns -/
def tHandAs (K : PySem.W.Frag) (Ch : Addr) (i : Nat) (tb : Addr → TS) (tr : TH) : TH := fun a C fs cx D σ H => ∃ b, PySem.W.exmOne K (.ref C) (.ref Ch) = some b ∧
  (b = true → ∀ H', Noted H' a C fs cx .none → tb a { nx := fun _ _ => False, rt := D.rt } (σ.set i (some (.ref a))) H') ∧ (b = false → tr a C fs cx D σ H)
theorem ph_consAs {i : Nat} (hg : Gl X x) (hm : X.mg x = some (.ref Ch)) (hN : X.N.Nodup) (hi : X.N[i]? = some n) (hl : X.env.scope.names.lookup n = some .local) (hs : ∀ a E, PSs ((X.hd a).wish E) (b0 :: suite) (tb a)) (hr : PH X rest tr)
    (hd : (x == ("__debug__" : Str)) = false := by decide) :
    PH X (.ExceptHandler (some (.Name x np)) (some n) (b0 :: suite) pos :: rest) (tHandAs X.K Ch i tb tr) := by
  intro pins s σ H D a C fs cx I n ⟨b, hx, h1, h2⟩
  obtain ⟨T, d, n1', n2, n3, ea, ed, et⟩ := id n
  obtain ⟨vs, ga, z, q1, q2⟩ := xo_get I.hok ea
  have t1 : PySem.W.Looks (model X.prog X.w) s.heap (typeOf (.ref a)) (.ref C) := (PySem.W.Looks.ld ga).andThen .now
  refine wpAny_handleBy_cons (codeAny_handlers_test (ld_glob (X := X.hd a) I.hd hg hm ?_ hd)) (by intro q; cases q)
  refine (PySem.W.exm_one I.kIn t1 hx).here ?_
  cases b with
  | false => exact hr pins s σ H D a C fs cx I n (h2 rfl)
  | true =>
    refine codeAny_handlers_suite_as (flight_ok (X := X.hd a) I.hd n fun H1 s1 I1 n1 => ?_)
    refine store_ok (X := X.hd a) I1 hN hi (.inl hl) (v := .ref a) rfl (fun s2 I2 => ?_) (.inr hl)
    refine wpAny_mono (hs a _ pins s2 _ H1 { nx := fun _ _ => False, rt := D.rt } (I2.wish _) (h1 rfl H1 n1)) (fun f s3 q => ?_) fun _ _ q => q
    cases f with
    | next => obtain ⟨_, _, _, q⟩ := q; exact q.elim
    | brk => obtain ⟨_, _, _, q⟩ := q; exact q.elim
    | cont => obtain ⟨_, _, _, q⟩ := q; exact q.elim
    | ret u =>
      obtain ⟨v, σ', H', I3, rv, q⟩ := q
      have I4 : Inv X pins σ' H' s3 := (Inv.unwish I3).unre I.ok
      obtain ⟨m, hn, _⟩ := id I4.loc
      refine wpAny_nameGoes hl hn (by rw [I4.ok.kind]; rfl) fun h' m' hn' sb => ?_
      refine ⟨v, σ'.map fun _ => none, H', ?_, rv, q⟩
      have I5 : Inv X pins (σ'.map fun _ => none) H' s3 := I4.weak (by simp) fun j w e => by
        rw [List.getElem?_map] at e
        cases q : σ'[j]? with
        | none => rw [q] at e; cases e
        | some _ => rw [q] at e; cases e
      have neL : ∀ b, (∃ o, X.s_0.heap.get? b = some o) → b ≠ X.env.locals := fun b ⟨o, e⟩ => Nat.ne_of_lt (Nat.lt_of_lt_of_le (Heap.lt_size e) I5.ok.above)
      have nH : ∀ b o, H' b = some o → b ≠ X.env.locals := fun b o e z => by rw [z, I5.free] at e; cases e
      refine ⟨I5.ok, I5.os, I5.bare, ⟨fun b o e n hb hx => ?_, fun b o e n hb hx => ?_, I5.base.free, fun b o e hx => ?_, I5.base.tups, I5.base.frzs, I5.base.tbls⟩, ⟨m', hn', fun j y w e1 e2 e3 => ?_⟩, fun y c e => ?_, I5.free, I5.freeC, fun p hp => ?_, fun b o e => ?_, I5.len⟩
      · exact (sb.2 b (neL b ⟨o, e⟩)).trans (I5.base.keep b o e n hb hx)
      · obtain ⟨sl, e1⟩ := I5.base.slot b o e n hb hx
        exact ⟨sl, (sb.2 b (neL b ⟨o, e⟩)).trans e1⟩
      · obtain ⟨o', e1⟩ := I5.base.there b o e hx
        exact ⟨o', (sb.2 b (neL b ⟨o, e⟩)).trans e1⟩
      · rw [List.getElem?_map] at e2
        cases q : σ'[j]? with
        | none => rw [q] at e2; cases e2
        | some _ => rw [q] at e2; cases e2
      · obtain ⟨w, hw⟩ := I5.cell y c e
        exact ⟨w, hw.sameBut sb (I5.cne y c e)⟩
      · obtain ⟨e, n, ne, nf, d⟩ := I5.pin p hp
        exact ⟨(sb.2 p.1 ne).trans e, n, ne, nf, d⟩
      · refine (I5.hok b o e).stay (fun c u hc q => (sb.2 c ?_).trans q) (fun _ q => q) fun _ _ q => q
        rcases hc with rfl | hc
        · exact nH c o e
        · exact nH c _ hc
def tTry (X : Cx) (Eb : XK) (t : TS) (th : TH) : TS := fun D σ H => t D σ H ∧ ∀ a C fs cx σ' H', Noted H' a C fs cx .none → Eb (.ref C) cx (xH fs) → σ'.length = X.N.length → th a C fs cx D σ' H'
/-- try: body, except ..: no else, no finally -/
theorem ps_try {Eb : XK} {L : Addr} {body : List Stmt} {h0 : ExceptHandler} {hs : List ExceptHandler} {t : TS} {th : TH} (hst : X.stack = X.env :: X.outer) (hf : X.env.frame = some L)
    (hb : ∀ (pn : List (Addr × Obj)) (E' : Value → Shared → Prop), Out (X.tr pn E') Eb → PSs (X.tr pn E') body t) (hh : PH X (h0 :: hs) th) : PS X (.Try body (h0 :: hs) [] [] pos) (tTry X Eb t th) := by
  intro pins s σ H D I ⟨h, hth⟩
  rw [arm_exec_Try]
  refine wpAny_bind (wpAny_standAt (wpAny_tryStmt_except ?_))
  have o : Out (X.tr (X.pn ++ pins) (fun e s1 => wpAny (model X.prog X.w) X.A (noteFrame e X.env) (fun _ s2 => wpAny (model X.prog X.w) X.A (setFlight e none) (fun _ s3 => wpAny (model X.prog X.w) X.A (handleBy e X.env (h0 :: hs)) (SP X pins D) X.xe s3) X.xe s2) X.xe s1)) Eb := by
    intro pins' σ' H' s' a C fs cx I' n q
    have I1 : Inv X pins σ' H' s' := I'.untr I.ok
    have fin : ∀ H1 s1, Inv X pins σ' H1 s1 → Noted H1 a C fs cx (rawInt L) → wpAny (model X.prog X.w) X.A (setFlight (.ref a) none) (fun _ s3 => wpAny (model X.prog X.w) X.A (handleBy (.ref a) X.env (h0 :: hs)) (SP X pins D) X.xe s3) X.xe s1 :=
      fun H1 s1 J1 m1 => flight_ok J1 m1 fun H2 s2 J2 m2 => hh pins s2 σ' H2 D a C fs cx J2 m2 (hth a C fs cx σ' H2 m2 q J2.len)
    rcases n with n | ⟨L', e, n⟩
    · exact note_ok hst hf I1.ok.frames I1 n fin
    · have e' : L = L' := Option.some.inj (hf.symm.trans e)
      subst e'
      exact note_again hf I1 n (fin H' s' I1 n)
  refine wpAny_mono (hb _ _ o [] s σ H D I.tr h) (fun f s1 q => ?_) fun _ _ q => q
  have q' : SP X pins D f s1 := SP.untr I.ok q
  cases f with
  | next => exact wpAny_execs_nil q'
  | ret u => exact q'
  | brk => exact q'
  | cont => exact q'
end
end L2
end
section
set_option Elab.async false
set_option linter.all false
set_option maxRecDepth 100000
namespace L2
open PySem PySem.Spec PyProof.Rows
section
variable {prog : Program} {w : World} {A : Around} {E : Value → Shared → Prop} {s : Shared}
theorem nextOf_tup_item {it l : Addr} {i : Nat} {items : Array Value} {x : Value} {Q : Value → Shared → Prop} (hit : s.heap.IsTupleIter it l i) (hl : s.heap.IsTuple l items) (hx : items[i]? = some x)
    (hQ : ∀ h', h'.IsTupleIter it l (i + 1) → Heap.SameBut it s.heap h' → Q x { s with heap := h' }) : wpAny (model prog w) A (Builtin.SmallTypes.nextOf (.ref it)) Q E s := by
  obtain ⟨o, ho, hc, hd⟩ := id hit
  obtain ⟨ol, hol, _, nl, hdl⟩ := hl
  unfold Builtin.SmallTypes.nextOf
  refine wpAny_bind (wpAny_callSpecial?_slot (name := Str.ofString "__next__") hit.typeIs F.slot_tuple_iterator_next (wpAny_call_entry F.slot_tuple_iterator_next hit.typeIs F.entry_tuple_iterator_next ?_ (F.args_tuple_iterator_next_1 _)))
  show wpAny _ _ (field (.ref it) 0 >>= _) _ _ s
  refine wpAny_bind (wpAny_field ho hd (x := .ref l) rfl ?_)
  show wpAny _ _ (if (Value.ref l == Value.none) = true then _ else _) _ _ s
  rw [if_neg (show ¬ ((Value.ref l == Value.none) = true) from Bool.false_ne_true)]
  show wpAny _ _ (field (.ref it) 1 >>= _) _ _ s
  refine wpAny_bind (wpAny_field ho hd (x := .int i 0) rfl ?_)
  show wpAny _ _ (seqItems? (.ref l) >>= _) _ _ s
  refine wpAny_bind (wpAny_seqItems hol hdl ?_)
  simp only [Int.toNat_natCast, hx]
  refine wpAny_bind (wpAny_setField ho hd (by simp) (wpAny_pure ⟨x, rfl, wpAny_pure (hQ _ ?_ (Heap.SameBut.update ..))⟩))
  exact ⟨_, Heap.get?_update_self _ ho (Obj.isFreed_of_fields (Obj.data_mapFields hd _)), (Obj.cls_mapFields ..).trans hc, by rw [Obj.data_mapFields hd]; simp [rawInt]⟩
theorem nextOf_tup_end {it l : Addr} {i : Nat} {items : Array Value} {Q : Value → Shared → Prop} (hh : A.handled = none) (hit : s.heap.IsTupleIter it l i) (hl : s.heap.IsTuple l items) (hx : items[i]? = none)
    (hE : ∀ h' e, Heap.ExtBut it s.heap h' → (∃ o, h'.get? e = some o ∧ o.cls = .type "StopIteration") → E (.ref e) { s with heap := h' }) : wpAny (model prog w) A (Builtin.SmallTypes.nextOf (.ref it)) Q E s := by
  obtain ⟨o, ho, hc, hd⟩ := id hit
  obtain ⟨ol, hol, _, nl, hdl⟩ := hl
  unfold Builtin.SmallTypes.nextOf
  refine wpAny_bind (wpAny_callSpecial?_slot (name := Str.ofString "__next__") hit.typeIs F.slot_tuple_iterator_next (wpAny_call_entry F.slot_tuple_iterator_next hit.typeIs F.entry_tuple_iterator_next ?_ (F.args_tuple_iterator_next_1 _)))
  show wpAny _ _ (field (.ref it) 0 >>= _) _ _ s
  refine wpAny_bind (wpAny_field ho hd (x := .ref l) rfl ?_)
  show wpAny _ _ (if (Value.ref l == Value.none) = true then _ else _) _ _ s
  rw [if_neg (show ¬ ((Value.ref l == Value.none) = true) from Bool.false_ne_true)]
  show wpAny _ _ (field (.ref it) 1 >>= _) _ _ s
  refine wpAny_bind (wpAny_field ho hd (x := .int i 0) rfl ?_)
  show wpAny _ _ (seqItems? (.ref l) >>= _) _ _ s
  refine wpAny_bind (wpAny_seqItems hol hdl ?_)
  simp only [Int.toNat_natCast, hx]
  refine wpAny_bind (wpAny_rule (wpAny_bind (wpAny_setField ho hd (by simp) ?_)))
  show wpAny _ _ (newExc (.type "StopIteration") [] >>= _) _ _ _
  refine wpAny_bind ?_
  simp only [newExc, newTuple]
  refine wpAny_bind (wpAny_newObj_type ?_ (by size_fits))
  refine wpAny_bind (m := firstArgMember _ _) (wpAny_of_eq (a := Value.none) (by first | rfl | (simp only [firstArgMember]; rfl)) ?_)
  refine wpAny_newObj_type ?_ (by size_fits)
  simp only [raiseNew]
  refine wpAny_bind (wpAny_handled ?_)
  first | rw [show A.in1.handled = none from hh] | rw [hh]
  refine wpAny_bind (wpAny_pure (wpAny_throw ?_))
  exact hE _ _ (((Heap.SameBut.update ..).extBut.push _).push _) ⟨_, Heap.get?_push_size _ rfl, rfl⟩
theorem drawsTup (hh : A.handled = none) (it l : Addr) (hne : l ≠ it) (items : Array Value) :
    Draws prog w A it [it, l] items.size (fun i v => items[i]? = some v) (fun i h => h.IsTupleIter it l i ∧ h.IsTuple l items) where
  live := fun _ _ st => let ⟨o, ho, _⟩ := st.1; ⟨o, ho⟩
  frame := fun _ _ _ st hk => ⟨st.1.at fun o e => hk it (by simp) o e, let ⟨o, e, r⟩ := st.2; ⟨o, hk l (by simp) o e, r⟩⟩
  item := fun i s Q E hi st hQ => by
    refine nextOf_tup_item st.1 st.2 (x := items[i]) (by simp [hi]) fun h' hit' hs' => ?_
    exact hQ _ h' s.toks (by simp [hi]) ⟨hit', let ⟨o, e, r⟩ := st.2; ⟨o, (hs'.2 l hne).trans e, r⟩⟩ hs'
  done := fun s Q E st hE => nextOf_tup_end hh st.1 st.2 (by simp) hE
theorem enum_newT (l : Addr) (items : Array Value) (n : Nat) (dct : Option Addr) (sl : Array (Option Value)) :
    Meets (Builtin.«enumerate.__new__» ⟨[.type "enumerate", .ref l], []⟩) (fun _ R s => s.heap.get? l = some { cls := .type "tuple", dict := dct, data := .seq items n, slots := sl } ∧
      R (.ok (.ret (.ref (s.heap.push { cls := .type "tuple_iterator", data := .fields #[.ref l, .int 0 0] }).objs.size)))
        { s with heap := (s.heap.push { cls := .type "tuple_iterator", data := .fields #[.ref l, .int 0 0] }).push { cls := .type "enumerate", data := .fields #[.none, .bool false, .ref s.heap.objs.size, rawInt 0, .none, .none] } }) :=
  .of_wp fun prog w A R s h => by
    obtain ⟨hp, g, d, tk, os⟩ := s
    obtain ⟨hl, h⟩ := h
    have hsub := sub_enumerate
    have hL : Heap.IsTuple (Shared.heap ⟨hp, g, d, tk, os⟩) l items := ⟨_, hl, rfl, n, rfl⟩
    wp_walk using AutoSeq1.wpAny_loadPart' hl
    refine wpAny_stack_any fun st => wpAny_pure ?_
    split
    · rename_i c _ _ _ _ _
      cases (c == Value.type "enumerate")
      · wp_walk using AutoSeq1.wpAny_loadPart' hl, wpAny_pyIter_tuple hL
        exact ⟨_, rfl, h⟩
      · wp_walk using AutoSeq1.wpAny_loadPart' hl, wpAny_pyIter_tuple hL
        exact ⟨_, rfl, h⟩
    · wp_walk using AutoSeq1.wpAny_loadPart' hl, wpAny_pyIter_tuple hL
      exact ⟨_, rfl, h⟩
theorem call_enumT {l : Addr} {items : Array Value} {Q : Value → Shared → Prop} (hL : s.heap.IsTuple l items)
    (h : ∀ h', IsEnum h' (s.heap.objs.size + 1) s.heap.objs.size 0 .none → h'.IsTupleIter s.heap.objs.size l 0 → h'.objs.size = s.heap.objs.size + 2 →
      (∀ b o, s.heap.get? b = some o → h'.get? b = some o) → Q (.ref (s.heap.objs.size + 1)) { s with heap := h' }) :
    wpAny (model prog w) A (call (.type "enumerate") [.ref l]) Q E s := by
  obtain ⟨⟨c, dct, dt, sl⟩, hl, hc, n, hd⟩ := hL
  replace hc : c = .type "tuple" := hc
  replace hd : dt = .seq items n := hd
  subst hc hd
  refine callType_new F.called_enumerate (by decide) (F.typeCall_enumerate_1 _) (F.newCall_enumerate_1 _) (fun obj => F.args_object_init_2 obj _) F.entry_enumerate_new (enum_newT l items n dct sl) ⟨hl, ?_⟩
  have hz : (s.heap.push { cls := .type "tuple_iterator", data := .fields #[.ref l, .int 0 0] }).objs.size = s.heap.objs.size + 1 := Heap.size_push ..
  show _ ∧ _
  rw [hz]
  have he : IsEnum ((s.heap.push { cls := .type "tuple_iterator", data := .fields #[.ref l, .int 0 0] }).push
      { cls := .type "enumerate", data := .fields #[.none, .bool false, .ref s.heap.objs.size, rawInt 0, .none, .none] }) (s.heap.objs.size + 1) s.heap.objs.size 0 .none := by
    have := Heap.get?_push_size (s.heap.push { cls := .type "tuple_iterator", data := .fields #[.ref l, .int 0 0] })
      (o := { cls := .type "enumerate", data := .fields #[.none, .bool false, .ref s.heap.objs.size, rawInt 0, .none, .none] }) rfl
    rw [hz] at this; exact this
  refine ⟨⟨_, he, rfl⟩, h _ he ⟨_, Heap.get?_push_of_some _ (Heap.get?_push_size _ rfl), rfl, rfl⟩ (by rw [Heap.size_push, hz]) fun b o x => Heap.get?_push_of_some _ (Heap.get?_push_of_some _ x)⟩
end
/-- one turn of an enumerate over any drawn iterator -/
theorem enum_item {X : Cx} {pins : List (Addr × Obj)} {s : Shared} {σ : St} {H : Hp} {E : Value → Shared → Prop} {e it : Addr} {fpD : List Addr} {n i : Nat} {Pd : Nat → Value → Prop} {St' : Nat → Heap → Prop} {x : V} {elts : List Expr} {kk : Nat} {tpos : Pos}
    (I : Inv X pins σ H s) (hf : ∀ b ∈ [e, it], FpOk X pins H b) (D : Draws X.prog X.w X.A.in1 it fpD n Pd St') (he : ∃ old, IsEnum s.heap e it ((i : Nat) : Int) old) (hst : St' i s.heap) (hlt : i < n) (hne : e ≠ it) (hef : e ∉ fpD) (hP : ∀ u, Pd i u → RelV x u) :
    wpAny (model X.prog X.w) X.A (pyNext (.ref e)) (fun r s1 => ∃ u, r = some u ∧ wpAny (model X.prog X.w) X.A (letOwnedTupleGo (.Tuple elts kk tpos) (.ref e) u) (fun _ s2 => ∃ T, u = .ref T ∧ Inv X pins σ (upd H T (.tup [.int (i : Nat), x])) s2 ∧ H T = none ∧
      (∃ old, IsEnum s2.heap e it ((i + 1 : Nat) : Int) old) ∧ St' (i + 1) s2.heap ∧ ∀ b ∈ [e, it], (upd H T (.tup [.int (i : Nat), x])) b = none) E s1) E s := by
  obtain ⟨old, he⟩ := he
  have hel : e < s.heap.objs.size := Heap.lt_size he
  have hil : it < s.heap.objs.size := by obtain ⟨_, q⟩ := D.live _ _ hst; exact Heap.lt_size q
  refine wpAny_pyNext_enum_itemD D he hst hlt hne hef fun u h' tk hPu ho hst' hT hsz hk => ?_
  refine ⟨_, rfl, wpAny_letOwnedTupleGo_enum (s := { s with heap := h', toks := tk + 1 }) ho fun h'' he' sb => ?_⟩
  have hT2 : h''.get? s.heap.objs.size = some { cls := .type "tuple", data := .seq #[.int i tk, u] } := (sb.2 _ (Nat.ne_of_gt hel)).trans hT
  have new : ObjOk X.prog X.w (upd H s.heap.objs.size (.tup [.int (i : Nat), x])) h'' s.heap.objs.size (.tup [.int (i : Nat), x]) :=
    ⟨by show 2 ≤ sizeLine; decide, [.int i tk, u], .cons ⟨_, rfl⟩ (.cons (hP u hPu) .nil), ⟨_, hT2, rfl, _, rfl⟩⟩
  have I1 : Inv X pins σ (upd H s.heap.objs.size (.tup [.int (i : Nat), x])) { s with heap := h'', toks := tk + 1 } :=
    I.turnedNew (ch := [e, it]) (fun b ob hb q => (sb.2 b (fun z => hb (by simp [z]))).trans (hk b ob (fun z => hb (by simp [z])) (fun z => hb (by simp [z])) q)) hf (Nat.le_refl _) new
  refine ⟨_, rfl, I1, I.hok.fresh (Nat.le_refl _), ⟨u, ?_⟩, D.frame _ _ _ hst' fun b hb o q => (sb.2 b fun z => hef (z ▸ hb)).trans q, fun b hb => ?_⟩
  · have e1 : ((i + 1 : Nat) : Int) = (i : Int) + 1 := by omega
    rw [e1]; exact he'
  · have hb' : b < s.heap.objs.size := by
      have e' : b = e ∨ b = it := by simpa using hb
      rcases e' with z | z
      · rw [z]; exact hel
      · rw [z]; exact hil
    rw [upd_ne (Nat.ne_of_lt hb')]
    exact (hf b hb).1
def Ites (x : Str) : It := ⟨fun i _ => i < x.cps.size, fun i H v H' => ∃ T c, v = .ref T ∧ H T = none ∧ x.cps[i]? = some c ∧ H' = upd H T (.tup [.int (i : Nat), .str ⟨#[c]⟩]), fun i _ => i = x.cps.size⟩
theorem drawsStr {prog : Program} {w : World} {A : Around} (hh : A.handled = none) (it : Addr) (x : Str) (t : Tok) :
    Draws prog w A it [it] x.cps.size (fun i v => ∃ c u, x.cps[i]? = some c ∧ v = .str ⟨#[c]⟩ u) (fun i h => h.IsStrIter it (strIterType x) x t i) := by
  cases ha : x.cps.all (· < 128)
  · have e : strIterType x = "str_iterator" := by simp [strIterType, ha]
    rw [e]; exact Draws.strWide hh it x t
  · have e : strIterType x = "str_ascii_iterator" := by simp [strIterType, ha]
    rw [e]; exact Draws.strAscii hh it x t
theorem turn_enumS {P : Program} {w : World} {K : PySem.W.Frag} {elts : List Expr} {kk : Nat} {tpos : Pos} (x : Str) (t : Tok) (e it : Addr) :
    Turn P w K (.Tuple elts kk tpos) (Ites x) [e, it] e (fun i h => (∃ old, IsEnum h e it ((i : Nat) : Int) old) ∧ h.IsStrIter it (strIterType x) x t i ∧ e ≠ it) where
  mem := by simp
  obj := fun i h st b hb => by
    obtain ⟨⟨old, he⟩, ⟨o, ho, hc, hd⟩, _⟩ := st
    have e' : b = e ∨ b = it := by simpa using hb
    rcases e' with z | z
    · rw [z]; exact ⟨_, he, fun v q => nomatch q⟩
    · rw [z]; exact ⟨o, ho, fun v q => by rw [hd] at q; cases q⟩
  keep := fun i h h' st k => let ⟨⟨old, he⟩, ⟨o, ho, r⟩, hne⟩ := st; ⟨⟨old, k e (by simp) _ he⟩, ⟨o, k it (by simp) o ho, r⟩, hne⟩
  item := by
    intro X hP hw hK hc i pins s σ H E I hf st hg
    subst hP hw hK
    obtain ⟨he, hit, hne⟩ := st
    have hg' : i < x.cps.size := hg
    have hx : x.cps[i]? = some x.cps[i] := by simp [hg']
    have D := drawsStr (prog := X.prog) (w := X.w) (A := X.A.in1) (I.ok.hd hc) it x t
    refine thn (enum_item (x := .str ⟨#[x.cps[i]]⟩) I hf D he hit hg' hne (by simpa using hne) fun u ⟨c, tk, q, z⟩ => ?_) fun r s1 ⟨u, er, h1⟩ => ⟨u, er, thn h1 fun _ s2 ⟨T, eu, J, nT, he', hst', fr⟩ => ?_⟩
    · rw [hx] at q; cases q; exact ⟨tk, z⟩
    · subst eu
      exact ⟨.ref T, _, J, rfl, ⟨T, _, rfl, nT, hx, rfl⟩, ⟨he', hst', hne⟩, fr⟩
  done := by
    intro X hP hw hK hc i pins s σ H E I hf st hg
    subst hP hw hK
    obtain ⟨⟨old, he⟩, hit, hne⟩ := st
    obtain ⟨f0, f1, f2, f3, f4, f5⟩ := hf it (by simp)
    have hge : i = x.cps.size := hg
    subst hge
    have D := drawsStr (prog := X.prog) (w := X.w) (A := X.A.in1) (I.ok.hd hc) it x t
    exact wpAny_pyNext_enum_endD D he hit fun h' eb => ⟨rfl, I.turned (t' := s.toks) (fun b o hb q => eb b o hb q) f0 f1 f3 f4 f5⟩
  self := fun A i s Q E st h => let ⟨⟨_, he⟩, _⟩ := st; wpAny_pyIter_enum he h
def iEnumS (ta : TA) : TI := fun σ H R => ta σ H fun vs H1 => ∃ x, vs = [.str x] ∧ R (Ites x) H1
theorem pi_enumS {X : Cx} {e : Expr} {ta : TA} {p pos tpos : Pos} {elts : List Expr} {kk : Nat} (hg : Gl X "enumerate") (hm : X.mg "enumerate" = none) (ha : PA X [e] ta) (hs : starEach [e] X.env = [(false, eval e X.env)] := by rfl) :
    PI X (.Tuple elts kk tpos) (.Call (.Name "enumerate" p) [e] [] pos) (iEnumS ta) := by
  intro pins s σ H R I h
  refine Call_ (ld_blt I hg hm boot_enumerate (PyProof.Rows.callWith_type1 (thn (ha pos pins s σ H _ I h) fun us s1 ⟨vs, H1, I1, r1, q1⟩ => ?_) hs rfl))
  obtain ⟨x, ex, q⟩ := q1
  subst ex
  cases r1 with
  | cons r rr =>
    cases rr
    obtain ⟨t, rfl⟩ := r
    refine call_enumerate_str fun h' he hit hsz hk => wpAny_pyIter_enum he ?_
    have I2 : Inv X pins σ H1 { s1 with heap := h' } := I1.kept (t' := s1.toks) hk
    refine ⟨s1.heap.objs.size + 1, [s1.heap.objs.size + 1, s1.heap.objs.size], _, _, H1, rfl, I2, turn_enumS x t (s1.heap.objs.size + 1) s1.heap.objs.size, ⟨⟨.none, he⟩, hit, Nat.succ_ne_self _⟩, fun b hb => ?_, q⟩
    have e' : b = s1.heap.objs.size + 1 ∨ b = s1.heap.objs.size := by simpa using hb
    have hle : s1.heap.objs.size ≤ b := by
      rcases e' with z | z
      · rw [z]; exact Nat.le_add_right _ _
      · rw [z]; exact Nat.le_refl _
    exact I1.fpOk hle (I1.hok.fresh hle)
def Itet (K : PySem.W.Frag) (a : Addr) : It := ⟨fun i H => ∃ (xs : List V) (x : V), SqT K H a xs ∧ xs[i]? = some x, fun i H v H' => ∃ T x, v = .ref T ∧ H T = none ∧ H' = upd H T (.tup [.int (i : Nat), x]) ∧ ∀ xs, SqT K H a xs → xs[i]? = some x, fun i H => ∃ xs : List V, SqT K H a xs ∧ xs.length = i⟩
theorem turn_enumT {P : Program} {w : World} {K : PySem.W.Frag} {elts : List Expr} {kk : Nat} {tpos : Pos} (a e it : Addr) :
    Turn P w K (.Tuple elts kk tpos) (Itet K a) [e, it] e (fun i h => (∃ old, IsEnum h e it ((i : Nat) : Int) old) ∧ h.IsTupleIter it a i ∧ e ≠ it) where
  mem := by simp
  obj := fun i h st b hb => by
    obtain ⟨⟨old, he⟩, ⟨o, ho, hc, hd⟩, _⟩ := st
    have e' : b = e ∨ b = it := by simpa using hb
    rcases e' with z | z
    · rw [z]; exact ⟨_, he, fun v q => nomatch q⟩
    · rw [z]; exact ⟨o, ho, fun v q => by rw [hd] at q; cases q⟩
  keep := fun i h h' st k => let ⟨⟨old, he⟩, hi, hne⟩ := st; ⟨⟨old, k e (by simp) _ he⟩, hi.at fun o q => k it (by simp) o q, hne⟩
  item := by
    intro X hP hw hK hc i pins s σ H E I hf st hg
    subst hP hw hK
    obtain ⟨he, hit, hne⟩ := st
    obtain ⟨xs, x, hq, hx⟩ := hg
    obtain ⟨its, rv, p, hz⟩ := I.tuple hq
    obtain ⟨u, hu, ru⟩ := rv.get hx
    have hai : a ≠ it := by
      rintro rfl
      obtain ⟨o, e1, c1, _⟩ := p
      obtain ⟨o2, e2, c2, _⟩ := hit
      rw [e1] at e2; cases e2; rw [c1] at c2; exact absurd c2 (by decide)
    have hea : e ≠ a := by
      rintro rfl
      obtain ⟨old, he⟩ := he
      obtain ⟨o, e1, c1, _⟩ := p
      have he' := he
      unfold IsEnum at he'
      rw [e1] at he'
      cases he'
      exact absurd (show Value.type "enumerate" = Value.type "tuple" from c1) (by decide)
    have D := drawsTup (prog := X.prog) (w := X.w) (A := X.A.in1) (I.ok.hd hc) it a hai its.toArray
    have hi : i < its.toArray.size := by
      have := (List.getElem?_eq_some_iff.mp hu).1
      simpa using this
    refine thn (enum_item (x := x) I hf D he ⟨hit, p⟩ hi hne (by simp [hne, hea]) fun u' q => ?_) fun r s1 ⟨u', er, h1⟩ => ⟨u', er, thn h1 fun _ s2 ⟨T, eu, J, nT, he', hst', fr⟩ => ?_⟩
    · have q' : its[i]? = some u' := by simpa using q
      rw [hu] at q'; cases q'; exact ru
    · subst eu
      exact ⟨.ref T, _, J, rfl, ⟨T, x, rfl, nT, rfl, fun ys hy => by rw [I.tuple_inj hy hq]; exact hx⟩, ⟨he', hst'.1, hne⟩, fr⟩
  done := by
    intro X hP hw hK hc i pins s σ H E I hf st hg
    subst hP hw hK
    obtain ⟨⟨old, he⟩, hit, hne⟩ := st
    obtain ⟨xs, hq, hx⟩ := hg
    obtain ⟨its, rv, p, hz⟩ := I.tuple hq
    obtain ⟨f0, f1, f2, f3, f4, f5⟩ := hf it (by simp)
    have hai : a ≠ it := by
      rintro rfl
      obtain ⟨o, e1, c1, _⟩ := p
      obtain ⟨o2, e2, c2, _⟩ := hit
      rw [e1] at e2; cases e2; rw [c1] at c2; exact absurd c2 (by decide)
    have D := drawsTup (prog := X.prog) (w := X.w) (A := X.A.in1) (I.ok.hd hc) it a hai its.toArray
    have hn : its.toArray.size = i := by rw [List.size_toArray, ← rv.length]; exact hx
    exact wpAny_pyNext_enum_endD D he ⟨by rw [hn]; exact hit, p⟩ fun h' eb => ⟨rfl, I.turned (t' := s.toks) (fun b o hb q => eb b o hb q) f0 f1 f3 f4 f5⟩
  self := fun A i s Q E st h => let ⟨⟨_, he⟩, _⟩ := st; wpAny_pyIter_enum he h
def iEnumT (K : PySem.W.Frag) (ta : TA) : TI := fun σ H R => ta σ H fun vs H1 => ∃ a xs, vs = [.ref a] ∧ SqT K H1 a xs ∧ R (Itet K a) H1
theorem pi_enumT {X : Cx} {e : Expr} {ta : TA} {p pos tpos : Pos} {elts : List Expr} {kk : Nat} (hg : Gl X "enumerate") (hm : X.mg "enumerate" = none) (ha : PA X [e] ta) (hs : starEach [e] X.env = [(false, eval e X.env)] := by rfl) :
    PI X (.Tuple elts kk tpos) (.Call (.Name "enumerate" p) [e] [] pos) (iEnumT X.K ta) := by
  intro pins s σ H R I h
  refine Call_ (ld_blt I hg hm boot_enumerate (PyProof.Rows.callWith_type1 (thn (ha pos pins s σ H _ I h) fun us s1 ⟨vs, H1, I1, r1, q1⟩ => ?_) hs rfl))
  obtain ⟨a, xs, ex, hq, q⟩ := q1
  subst ex
  cases r1 with
  | cons r rr =>
    cases rr
    cases r
    obtain ⟨its, rv, p', hz⟩ := I1.tuple hq
    refine call_enumT (show s1.heap.IsTuple a its.toArray from p') fun h' he hit hsz hk => wpAny_pyIter_enum he ?_
    have I2 : Inv X pins σ H1 { s1 with heap := h' } := I1.kept (t' := s1.toks) hk
    refine ⟨s1.heap.objs.size + 1, [s1.heap.objs.size + 1, s1.heap.objs.size], _, _, H1, rfl, I2, turn_enumT a (s1.heap.objs.size + 1) s1.heap.objs.size, ⟨⟨.none, he⟩, hit, Nat.succ_ne_self _⟩, fun b hb => ?_, q⟩
    have e' : b = s1.heap.objs.size + 1 ∨ b = s1.heap.objs.size := by simpa using hb
    have hle : s1.heap.objs.size ≤ b := by
      rcases e' with z | z
      · rw [z]; exact Nat.le_add_right _ _
      · rw [z]; exact Nat.le_refl _
    exact I1.fpOk hle (I1.hok.fresh hle)
/-- any loop: Pv tells the state ahead of turn i of n; each turn's item is one of those that the iterator may yield -/
theorem for_any {J : It} {n : Nat} {g : TG} {tb : TS} {D : Ends} {σ : St} {H : Hp} (Pv : Nat → St → Hp → Prop) (h0 : Pv 0 σ H) (hgo : ∀ i σ H, i < n → Pv i σ H → J.go i H) (hst : ∀ σ H, Pv n σ H → J.stop n H)
    (hs : ∀ i x σ H H', i < n → Pv i σ H → J.yld i H x H' → g x σ H' fun σ2 H2 => tb { D with nx := Pv (i + 1), ct := Pv (i + 1), bk := D.nx } σ2 H2) (hd : ∀ σ H, Pv n σ H → D.nx σ H) :
    ∃ W : Nat → Nat → St → Hp → Prop, (∃ m, W 0 m σ H) ∧ ∀ i m σ H, W i m σ H →
      (J.stop i H ∧ D.nx σ H) ∨ (J.go i H ∧ ∃ N : St → Hp → Prop, (∀ σ' H', N σ' H' → ∃ m', m' < m ∧ W (i + 1) m' σ' H') ∧ ∀ x H', J.yld i H x H' → g x σ H' fun σ2 H2 => tb { D with nx := N, ct := N, bk := D.nx } σ2 H2) := by
  refine ⟨fun i m σ H => m = n - i ∧ i ≤ n ∧ Pv i σ H, ⟨n, by simp, Nat.zero_le _, h0⟩, ?_⟩
  rintro i m σ H ⟨rfl, hi, p⟩
  by_cases hlt : i < n
  · exact .inr ⟨hgo i σ H hlt p, Pv (i + 1), fun σ' H' p' => ⟨n - (i + 1), by omega, rfl, hlt, p'⟩, fun x H' y => hs i x σ H H' hlt p y⟩
  · have e : i = n := by omega
    subst e
    exact .inl ⟨hst σ H p, hd σ H p⟩
/-- a comprehension -/
def LcW (J : It) (g : TG) (tt : TT) (te : TE) (vs : List Nat) (σ : St) (H1 : Hp) (D : Addr) (Q : VK) : Prop :=
  ∃ W : Nat → Nat → Hp → Prop, (∃ m, W 0 m (upd H1 D (.lst []))) ∧ ∀ i m H, W i m H →
    (J.stop i H ∧ Q (.ref D) H) ∨ (J.go i H ∧ ∃ Nx : Hp → Prop, (∀ H', Nx H' → ∃ m', m' < m ∧ W (i + 1) m' H') ∧ ∀ x H', J.yld i H x H' → g x (wipe σ vs) H' fun σ2 H2 => wipe σ2 vs = wipe σ vs ∧ tt σ2 H2 fun b H3 =>
      if b = true then te σ2 H3 fun y H4 => ∃ acc, H4 D = some (.lst acc) ∧ acc.length < sizeLine ∧ Nx (upd H4 D (.lst (acc ++ [y]))) else Nx H3)
def tLcN (wi : TI) (g : TG) (tt : TT) (te : TE) (vs : List Nat) : TE := fun σ H Q => wi σ H fun J H1 => ∀ D, H1 D = none → LcW J g tt te vs σ H1 D Q
theorem pe_lcN {X : Cx} {elt tg iter : Expr} {ifs : List Expr} {scope : Scope} {own : List (Str × Nat)} {pos : Pos} {wi : TI} {g : TG} {tt : TT} {te : TE} (hc : X.calm = true) (hN : X.N.Nodup) (hi : PI X tg iter wi) (ok : BlkOk X.N X.env.scope scope own)
    (hg : ∀ (s : Shared) (H : Hp) (C : Addr) (cl : List (Str × Addr)) (fp : List Addr), PG (X.blk s H scope (compEnvC scope cl C X.env) fp) tg g) (ht : ∀ (s : Shared) (H : Hp) (C : Addr) (cl : List (Str × Addr)) (fp : List Addr), PTs (X.blk s H scope (compEnvC scope cl C X.env) fp) ifs tt)
    (he : ∀ (s : Shared) (H : Hp) (C : Addr) (cl : List (Str × Addr)) (fp : List Addr), PE (X.blk s H scope (compEnvC scope cl C X.env) fp) elt te) (hs : ∀ x, foldedSetIterable iter X.env x = pure x := by intro _; rfl) :
    PE X (.ListComp elt [⟨tg, iter, ifs, 0⟩] scope pos) (tLcN wi g tt te (own.map (·.2))) := pe_lc hc hN hi ok hg ht he hs
theorem ps_setLcN {X : Cx} {i : Nat} {y : Str} {py : Pos} {elt tg iter : Expr} {ifs : List Expr} {scope : Scope} {own : List (Str × Nat)} {pos spos : Pos} {wi : TI} {g : TG} {tt : TT} {te : TE} (hc : X.calm = true) (hN : X.N.Nodup) (hy : X.N[i]? = some y) (hyl : X.env.scope.names.lookup y = some .local)
    (hsw : swapsWith (.ListComp elt [⟨tg, iter, ifs, 0⟩] scope pos) (some (.Name y py)) spos.line X.env = pure true) (hi : PI X tg iter wi) (ok : BlkOk X.N X.env.scope scope own)
    (hg : ∀ (s : Shared) (H : Hp) (C : Addr) (cl : List (Str × Addr)) (fp : List Addr), PG (X.blk s H scope (compEnvC scope cl C X.env) fp) tg g) (ht : ∀ (s : Shared) (H : Hp) (C : Addr) (cl : List (Str × Addr)) (fp : List Addr), PTs (X.blk s H scope (compEnvC scope cl C X.env) fp) ifs tt)
    (he : ∀ (s : Shared) (H : Hp) (C : Addr) (cl : List (Str × Addr)) (fp : List Addr), PE (X.blk s H scope (compEnvC scope cl C X.env) fp) elt te) (hs : ∀ x, foldedSetIterable iter X.env x = pure x := by intro _; rfl) :
    PS X (.Assign [.Name y py] (.ListComp elt [⟨tg, iter, ifs, 0⟩] scope pos) spos) (tAsg (tLcN wi g tt te (own.map (·.2))) (gName i)) := ps_setLc hc hN hy hyl hsw hi ok hg ht he hs
theorem lc_any {J : It} {n : Nat} {σ : St} {H1 : Hp} {Q : VK} {g : TG} {tt : TT} {te : TE} {vs : List Nat} {D : Addr} (Pv : Nat → Hp → Prop) (h0 : Pv 0 (upd H1 D (.lst []))) (hgo : ∀ i H, i < n → Pv i H → J.go i H) (hst : ∀ H, Pv n H → J.stop n H)
    (hs : ∀ i x H H', i < n → Pv i H → J.yld i H x H' → g x (wipe σ vs) H' fun σ2 H2 => wipe σ2 vs = wipe σ vs ∧ tt σ2 H2 fun b H3 =>
      if b = true then te σ2 H3 fun y H4 => ∃ acc, H4 D = some (.lst acc) ∧ acc.length < sizeLine ∧ Pv (i + 1) (upd H4 D (.lst (acc ++ [y]))) else Pv (i + 1) H3) (hd : ∀ H, Pv n H → Q (.ref D) H) :
    LcW J g tt te vs σ H1 D Q := by
  refine ⟨fun i m H => m = n - i ∧ i ≤ n ∧ Pv i H, ⟨n, by simp, Nat.zero_le _, h0⟩, ?_⟩
  rintro i m H ⟨rfl, hi, p⟩
  by_cases hlt : i < n
  · exact .inr ⟨hgo i H hlt p, Pv (i + 1), fun H' p' => ⟨n - (i + 1), by omega, rfl, hlt, p'⟩, fun x H' y => hs i x H H' hlt p y⟩
  · have e : i = n := by omega
    subst e
    exact .inl ⟨hst H p, hd H p⟩
end L2
end
section
section
set_option Elab.async false
set_option linter.all false
set_option maxRecDepth 100000
set_option maxHeartbeats 2000000
namespace L2
open PySem PySem.Spec PyProof.Rows
open PySem.W (WData Codec OpenSpec Well WellAll ReadsW ReadsAllW)
mutual
/-- x stands for the datum d, lists and tuples all the way -/
inductive Dw (K : PySem.W.Frag) (H : Hp) : V → WData → Prop
  | non : Dw K H .non .none
  | bl (b : Bool) : Dw K H (.bl b) (.bool b)
  | int (i : Int) : Dw K H (.int i) (.int i)
  | str (x : Str) : Dw K H (.str x) (.str x)
  | byt (b : Array UInt8) : Dw K H (.byt b) (.bytes b.toList)
  | lst {a : Addr} {xs : List V} {ds : List WData} : SqL K H a xs → DwAll K H xs ds → Dw K H (.ref a) (.list ds)
  | tup {a : Addr} {xs : List V} {ds : List WData} : SqT K H a xs → DwAll K H xs ds → Dw K H (.ref a) (.tuple ds)
inductive DwAll (K : PySem.W.Frag) (H : Hp) : List V → List WData → Prop
  | nil : DwAll K H [] []
  | cons {v : V} {vs : List V} {d : WData} {ds : List WData} : Dw K H v d → DwAll K H vs ds → DwAll K H (v :: vs) (d :: ds)
end
theorem dw_ints {K : PySem.W.Frag} {H : Hp} : ∀ ns : List Int, DwAll K H (ns.map V.int) (ns.map WData.int)
  | [] => .nil
  | n :: r => .cons (.int n) (dw_ints r)
theorem ints_dw {K : PySem.W.Frag} {H : Hp} : ∀ (ns : List Int) (xs : List V), DwAll K H xs (ns.map WData.int) → xs = ns.map V.int
  | [], xs, h => by
    cases h
    rfl
  | n :: r, xs, h => by
    cases h with
    | cons h1 h2 =>
      cases h1
      rw [ints_dw r _ h2] <;> rfl
section
variable {P : Program} {w : World} {K : PySem.W.Frag} {H : Hp} {h : Heap} {R : PySem.W.WRecords} {cl : Str → Option Addr}
theorem sqL_at {a : Addr} {xs : List V} (hok : HOk P w H h) (KX : K.In h) (q : SqL K H a xs) : ∃ (its : List Value) (o : Obj) (n : Nat), Vals xs its ∧ h.get? a = some o ∧ o.cls = .type "list" ∧ o.data = .seq its.toArray n := by
  rcases q with q | ⟨o, its, n, e, hc, _, hd, _, hv⟩
  · obtain ⟨_, its, n, hv, e⟩ := (show ObjOk P w H h a (.lst xs) from q.ok hok)
    exact ⟨its, _, n, hv, e, rfl, rfl⟩
  · exact ⟨its.toList, o, n, hv, KX _ _ e, hc, by simp [hd]⟩
theorem sqT_at {a : Addr} {xs : List V} (hok : HOk P w H h) (KX : K.In h) (q : SqT K H a xs) : ∃ (its : List Value) (o : Obj) (n : Nat), Vals xs its ∧ h.get? a = some o ∧ o.cls = .type "tuple" ∧ o.data = .seq its.toArray n := by
  rcases q with q | ⟨o, its, n, e, hc, hd, _, hv⟩
  · obtain ⟨_, its, hv, o, e, hc, n, hd⟩ := (show ObjOk P w H h a (.tup xs) from q.ok hok)
    exact ⟨its, o, n, hv, e, hc, hd⟩
  · exact ⟨its.toList, o, n, hv, KX _ _ e, hc, by simp [hd]⟩
mutual
theorem Dw.reads (hok : HOk P w H h) (KX : K.In h) : ∀ (d : WData) (v : V) (u : Value), Dw K H v d → RelV v u → ∃ as, ReadsW R cl h u d as
  | .none, _, _, x, r => by
    cases x
    cases r
    exact ⟨_, ReadsW.none⟩
  | .bool b, _, _, x, r => by
    cases x
    cases r
    exact ⟨_, ReadsW.bool b⟩
  | .int i, _, _, x, r => by
    cases x
    obtain ⟨t, rfl⟩ := r
    exact ⟨_, ReadsW.int i t⟩
  | .str s, _, _, x, r => by
    cases x
    obtain ⟨t, rfl⟩ := r
    exact ⟨_, ReadsW.str s t⟩
  | .bytes b, _, _, x, r => by
    cases x
    obtain ⟨t, rfl⟩ := r
    exact ⟨_, ReadsW.bytes _ t⟩
  | .list ds, _, _, x, r => by
    cases x with
    | lst hs ha =>
      cases r
      obtain ⟨its, o, n, rv, ho, hc, hd⟩ := sqL_at hok KX hs
      obtain ⟨as, hr⟩ := Dw.readsAll hok KX ds _ its ha rv
      exact ⟨_, ReadsW.list ho hc hd hr⟩
  | .tuple ds, _, _, x, r => by
    cases x with
    | tup hs ha =>
      cases r
      obtain ⟨its, o, n, rv, ho, hc, hd⟩ := sqT_at hok KX hs
      obtain ⟨as, hr⟩ := Dw.readsAll hok KX ds _ its ha rv
      exact ⟨_, ReadsW.tuple ho hc hd hr⟩
  | .float _, _, _, x, _ => by cases x
  | .dict _, _, _, x, _ => by cases x
  | .bytearray _, _, _, x, _ => by cases x
  | .set _, _, _, x, _ => by cases x
  | .frozenset _, _, _, x, _ => by cases x
  | .obj _ _, _, _, x, _ => by cases x
theorem Dw.readsAll (hok : HOk P w H h) (KX : K.In h) : ∀ (ds : List WData) (vs : List V) (us : List Value), DwAll K H vs ds → Vals vs us → ∃ as, ReadsAllW R cl h us ds as
  | [], _, _, x, r => by
    cases x
    cases r
    exact ⟨_, ReadsAllW.nil⟩
  | d :: ds, _, _, x, r => by
    cases x with
    | cons h1 h2 =>
      cases r with
      | cons r1 r2 =>
        obtain ⟨as, q1⟩ := Dw.reads hok KX d _ _ h1 r1
        obtain ⟨bs, q2⟩ := Dw.readsAll hok KX ds _ _ h2 r2
        exact ⟨_, ReadsAllW.cons q1 q2⟩
end
end
mutual
/-- data that a codec tells -/
def plW : WData → Bool
  | .none => true
  | .bool _ => true
  | .int _ => true
  | .str _ => true
  | .bytes _ => true
  | .list xs => plWs xs
  | .tuple xs => plWs xs
  | _ => false
def plWs : List WData → Bool
  | [] => true
  | x :: r => plW x && plWs r
end
theorem plWs_map {α : Type} {f : α → WData} (h : ∀ a, plW (f a) = true) : ∀ l : List α, plWs (l.map f) = true
  | [] => rfl
  | x :: r => by
    show (plW (f x) && plWs (r.map f)) = true
    rw [h x, plWs_map h r] <;> rfl
theorem pl_enc : ∀ (c : Codec) (a : c.denote), plW (c.enc a) = true
  | .unit, _ => rfl
  | .bool, _ => rfl
  | .int _ _, _ => rfl
  | .nat _ _, _ => rfl
  | .u8, _ => rfl
  | .bytes _ _, _ => rfl
  | .text _ _ _ _, _ => rfl
  | .list _ _ c, a => plWs_map (fun x => pl_enc c x) a
  | .pair c d, a => by
    show (plW (c.enc a.1) && (plW (d.enc a.2) && true)) = true
    rw [pl_enc c a.1, pl_enc d a.2] <;> rfl
  | .triple c d e, a => by
    show (plW (c.enc a.1) && (plW (d.enc a.2.1) && (plW (e.enc a.2.2) && true))) = true
    rw [pl_enc c a.1, pl_enc d a.2.1, pl_enc e a.2.2] <;> rfl
  | .option c, none => rfl
  | .option c, some x => pl_enc c x
theorem pl_encAll : ∀ (cs : List Codec) (a : Codec.denoteAll cs), plWs (Codec.encAll cs a) = true
  | [], _ => rfl
  | c :: cs, a => by
    show (plW (c.enc a.1) && plWs (Codec.encAll cs a.2)) = true
    rw [pl_enc c a.1, pl_encAll cs a.2] <;> rfl
theorem weight_mem : ∀ {xs : List WData} {d : WData}, d ∈ xs → d.weight ≤ WData.weightAll xs
  | [], d, h => absurd h (by simp)
  | x :: r, d, h => by
    show d.weight ≤ x.weight + 1 + WData.weightAll r
    rcases List.mem_cons.mp h with e | m
    · rw [e]
      omega
    · have z := weight_mem m
      omega
def toV : Value → V
  | .none => .non
  | .bool b => .bl b
  | .int i _ => .int i
  | .str x _ => .str x
  | .bytes b _ => .byt b
  | .ref a => .ref a
  | _ => .non
def OkU (A : List Addr) : Value → Prop
  | .none => True
  | .bool _ => True
  | .int _ _ => True
  | .str _ _ => True
  | .bytes _ _ => True
  | .ref a => a ∈ A
  | _ => False
theorem OkU.mono {A B : List Addr} (h : ∀ a ∈ A, a ∈ B) : ∀ {u : Value}, OkU A u → OkU B u := fun {u} x => by
  cases u with
  | ref a => exact h a x
  | none => trivial
  | bool b => trivial
  | int i t => trivial
  | str s t => trivial
  | bytes b t => trivial
  | _ => exact False.elim x
theorem relV_toV {A : List Addr} {u : Value} (x : OkU A u) : RelV (toV u) u := by
  cases u with
  | ref a => rfl
  | none => rfl
  | bool b => rfl
  | int i t => exact ⟨t, rfl⟩
  | str s t => exact ⟨t, rfl⟩
  | bytes b t => exact ⟨t, rfl⟩
  | _ => exact False.elim x
theorem vals_toV {A : List Addr} : ∀ {vs : List Value}, (∀ u ∈ vs, OkU A u) → Vals (vs.map toV) vs
  | [], _ => .nil
  | u :: r, h => .cons (relV_toV (h u (List.mem_cons_self ..))) (vals_toV fun x hx => h x (List.mem_cons_of_mem _ hx))
def ArgOb (h : Heap) (A : List Addr) (a : Addr) : Prop := ∃ vs : List Value, vs.length ≤ sizeLine ∧ (∀ u ∈ vs, OkU A u) ∧
  (h.get? a = some { cls := .type "list", data := .seq vs.toArray } ∨ h.get? a = some { cls := .type "tuple", data := .seq vs.toArray })
theorem ArgOb.mono {h : Heap} {A B : List Addr} {a : Addr} (k : ∀ a ∈ A, a ∈ B) (x : ArgOb h A a) : ArgOb h B a := by
  obtain ⟨vs, h1, h2, h3⟩ := x
  exact ⟨vs, h1, fun u hu => (h2 u hu).mono k, h3⟩
theorem wellAll_len {P : Params} {h : Heap} : ∀ {vs : List Value} {ds : List WData}, WellAll P h vs ds → vs.length = ds.length
  | _, _, .nil => rfl
  | _, _, .cons _ b => by
    show _ + 1 = _ + 1
    rw [wellAll_len b]
theorem well_list {P : Params} {h : Heap} {v : Value} {ds : List WData} (x : Well P h v (.list ds)) : ∃ (a : Addr) (vs : List Value), v = .ref a ∧ h.get? a = some { cls := .type "list", data := .seq vs.toArray } ∧ WellAll P h vs ds := by
  cases x with
  | list ho hall => exact ⟨_, _, rfl, ho, hall⟩
theorem well_tuple {P : Params} {h : Heap} {v : Value} {ds : List WData} (x : Well P h v (.tuple ds)) : ∃ (a : Addr) (vs : List Value), v = .ref a ∧ h.get? a = some { cls := .type "tuple", data := .seq vs.toArray } ∧ WellAll P h vs ds := by
  cases x with
  | tuple ho hall => exact ⟨_, _, rfl, ho, hall⟩
theorem well_cons {P : Params} {h : Heap} {us : List Value} {d : WData} {ds : List WData} (x : WellAll P h us (d :: ds)) : ∃ (v : Value) (vs : List Value), us = v :: vs ∧ Well P h v d ∧ WellAll P h vs ds := by
  cases x with
  | cons a b => exact ⟨_, _, rfl, a, b⟩
theorem line_of {n : Nat} (h : n ≤ 1048576) : n ≤ sizeLine := Nat.le_trans h (by decide)
section
variable {P : Params} {h : Heap}
mutual
theorem area_one : ∀ (d : WData) (v : Value), Well P h v d → plW d = true → d.weight ≤ 1048576 → ∃ A : List Addr, OkU A v ∧ ∀ a ∈ A, ArgOb h A a
  | .none, _, x, _, _ => by
    cases x
    exact ⟨[], trivial, fun a m => absurd m (by simp)⟩
  | .bool b, _, x, _, _ => by
    cases x
    exact ⟨[], trivial, fun a m => absurd m (by simp)⟩
  | .int i, _, x, _, _ => by
    cases x
    exact ⟨[], trivial, fun a m => absurd m (by simp)⟩
  | .str s, _, x, _, _ => by
    cases x
    exact ⟨[], trivial, fun a m => absurd m (by simp)⟩
  | .bytes b, _, x, _, _ => by
    cases x
    exact ⟨[], trivial, fun a m => absurd m (by simp)⟩
  | .list ds, _, x, p, z => by
    obtain ⟨a, vs, rfl, ho, hall⟩ := well_list x
    have z2 : WData.weightAll ds ≤ 1048576 := z
    obtain ⟨A, h1, h2⟩ := area_all ds _ hall p fun d hd => Nat.le_trans (weight_mem hd) z2
    have k : ∀ b ∈ A, b ∈ a :: A := fun b hb => List.mem_cons_of_mem _ hb
    refine ⟨a :: A, List.mem_cons_self .., fun b hb => ?_⟩
    rcases List.mem_cons.mp hb with e | m
    · rw [e]
      exact ⟨vs, line_of (by rw [wellAll_len hall]; exact Nat.le_trans (PySem.W.length_le_weightAllW ds) z2), fun u hu => (h1 u hu).mono k, .inl ho⟩
    · exact (h2 b m).mono k
  | .tuple ds, _, x, p, z => by
    obtain ⟨a, vs, rfl, ho, hall⟩ := well_tuple x
    have z2 : WData.weightAll ds ≤ 1048576 := z
    obtain ⟨A, h1, h2⟩ := area_all ds _ hall p fun d hd => Nat.le_trans (weight_mem hd) z2
    have k : ∀ b ∈ A, b ∈ a :: A := fun b hb => List.mem_cons_of_mem _ hb
    refine ⟨a :: A, List.mem_cons_self .., fun b hb => ?_⟩
    rcases List.mem_cons.mp hb with e | m
    · rw [e]
      exact ⟨vs, line_of (by rw [wellAll_len hall]; exact Nat.le_trans (PySem.W.length_le_weightAllW ds) z2), fun u hu => (h1 u hu).mono k, .inr ho⟩
    · exact (h2 b m).mono k
  | .float _, _, _, p, _ => Bool.noConfusion (show false = true from p)
  | .dict _, _, _, p, _ => Bool.noConfusion (show false = true from p)
  | .bytearray _, _, _, p, _ => Bool.noConfusion (show false = true from p)
  | .set _, _, _, p, _ => Bool.noConfusion (show false = true from p)
  | .frozenset _, _, _, p, _ => Bool.noConfusion (show false = true from p)
  | .obj _ _, _, _, p, _ => Bool.noConfusion (show false = true from p)
theorem area_all : ∀ (ds : List WData) (vs : List Value), WellAll P h vs ds → plWs ds = true → (∀ d ∈ ds, d.weight ≤ 1048576) → ∃ A : List Addr, (∀ u ∈ vs, OkU A u) ∧ ∀ a ∈ A, ArgOb h A a
  | [], _, x, _, _ => by
    cases x
    exact ⟨[], fun u m => absurd m (by simp), fun a m => absurd m (by simp)⟩
  | d :: ds, _, x, p, z => by
    obtain ⟨v, vs, rfl, x1, x2⟩ := well_cons x
    have q : plW d = true ∧ plWs ds = true := Bool.and_eq_true_iff.mp p
    obtain ⟨A, a1, a2⟩ := area_one d v x1 q.1 (z d (List.mem_cons_self ..))
    obtain ⟨B, b1, b2⟩ := area_all ds vs x2 q.2 fun e he => z e (List.mem_cons_of_mem _ he)
    have kA : ∀ b ∈ A, b ∈ A ++ B := fun b hb => List.mem_append.mpr (.inl hb)
    have kB : ∀ b ∈ B, b ∈ A ++ B := fun b hb => List.mem_append.mpr (.inr hb)
    refine ⟨A ++ B, fun u hu => ?_, fun b hb => ?_⟩
    · rcases List.mem_cons.mp hu with e | m
      · rw [e]
        exact a1.mono kA
      · exact (b1 u m).mono kB
    · rcases List.mem_append.mp hb with m | m
      · exact (a2 b m).mono kA
      · exact (b2 b m).mono kB
end
end
def hoOf (o : Obj) : Option HO := match o.data with
  | .seq vs _ => if (o.cls == Value.type "list") = true then some (.frz o (.lst (vs.toList.map toV))) else some (.frz o (.tup (vs.toList.map toV)))
  | _ => none
def argH (K : PySem.W.Frag) (h : Heap) (A : List Addr) : Hp := fun b => if b ∈ A then (if (K.lookup b).isNone = true then (h.get? b).bind hoOf else none) else none
def OnlyF (H : Hp) : Prop := ∀ b, H b = none ∨ ∃ o u, H b = some (.frz o u)
theorem hoOf_lst (vs : List Value) : hoOf { cls := .type "list", data := .seq vs.toArray } = some (.frz { cls := .type "list", data := .seq vs.toArray } (.lst (vs.map toV))) := by
  show (if (Value.type "list" == Value.type "list") = true then some (HO.frz { cls := .type "list", data := .seq vs.toArray } (.lst (vs.toArray.toList.map toV))) else some (HO.frz { cls := .type "list", data := .seq vs.toArray } (.tup (vs.toArray.toList.map toV)))) = _
  rw [if_pos (beq_self_eq_true _)]
theorem hoOf_tup (vs : List Value) : hoOf { cls := .type "tuple", data := .seq vs.toArray } = some (.frz { cls := .type "tuple", data := .seq vs.toArray } (.tup (vs.map toV))) := by
  show (if (Value.type "tuple" == Value.type "list") = true then some (HO.frz { cls := .type "tuple", data := .seq vs.toArray } (.lst (vs.toArray.toList.map toV))) else some (HO.frz { cls := .type "tuple", data := .seq vs.toArray } (.tup (vs.toArray.toList.map toV)))) = _
  rw [if_neg (by decide)]
section
variable {P : Program} {w : World} {K : PySem.W.Frag} {h : Heap} {A : List Addr}
theorem argH_at {b : Addr} {o : Obj} (hb : b ∈ A) (hk : K.lookup b = none) (e : h.get? b = some o) : argH K h A b = hoOf o := by
  unfold argH
  rw [if_pos hb, hk, if_pos (show (none : Option Obj).isNone = true from rfl), e] <;> rfl
theorem of_argH {b : Addr} {u : HO} (q : argH K h A b = some u) : b ∈ A ∧ K.lookup b = none := by
  unfold argH at q
  by_cases hb : b ∈ A
  · rw [if_pos hb] at q
    cases hk : K.lookup b with
    | none => exact ⟨hb, rfl⟩
    | some o =>
      rw [hk, if_neg (by simp)] at q
      cases q
  · rw [if_neg hb] at q
    cases q
theorem argH_is (ar : ∀ a ∈ A, ArgOb h A a) {b : Addr} {u : HO} (q : argH K h A b = some u) : K.lookup b = none ∧ ∃ vs : List Value, vs.length ≤ sizeLine ∧ (∀ u ∈ vs, OkU A u) ∧
    ((h.get? b = some { cls := .type "list", data := .seq vs.toArray } ∧ u = .frz { cls := .type "list", data := .seq vs.toArray } (.lst (vs.map toV))) ∨
     (h.get? b = some { cls := .type "tuple", data := .seq vs.toArray } ∧ u = .frz { cls := .type "tuple", data := .seq vs.toArray } (.tup (vs.map toV)))) := by
  obtain ⟨hb, hk⟩ := of_argH q
  obtain ⟨vs, h1, h2, h3⟩ := ar b hb
  refine ⟨hk, vs, h1, h2, ?_⟩
  rcases h3 with e | e
  · rw [argH_at hb hk e, hoOf_lst] at q
    exact .inl ⟨e, (Option.some.inj q).symm⟩
  · rw [argH_at hb hk e, hoOf_tup] at q
    exact .inr ⟨e, (Option.some.inj q).symm⟩
theorem argH_only (ar : ∀ a ∈ A, ArgOb h A a) : OnlyF (argH K h A) := fun b => by
  cases q : argH K h A b with
  | none => exact .inl rfl
  | some u =>
    obtain ⟨_, vs, _, _, ⟨_, e⟩ | ⟨_, e⟩⟩ := argH_is ar q
    · exact .inr ⟨_, _, by rw [e]⟩
    · exact .inr ⟨_, _, by rw [e]⟩
theorem argH_ok (ar : ∀ a ∈ A, ArgOb h A a) : HOk P w (argH K h A) h := fun b u q => by
  obtain ⟨_, vs, h1, h2, ⟨e, rfl⟩ | ⟨e, rfl⟩⟩ := argH_is ar q
  · exact ⟨e, by rw [List.length_map]; exact h1, vs, _, vals_toV h2, e⟩
  · exact ⟨e, by rw [List.length_map]; exact h1, vs, vals_toV h2, _, e, rfl, _, rfl⟩
theorem seq_inj {c c' : Value} {vs us : List Value} (e : (some { cls := c, data := .seq vs.toArray } : Option Obj) = some { cls := c', data := .seq us.toArray }) : c = c' ∧ vs = us := by
  have e1 := Option.some.inj e
  have e2 : c = c' := congrArg Obj.cls e1
  have e3 : Data.seq vs.toArray = Data.seq us.toArray := congrArg Obj.data e1
  injection e3 with e4
  refine ⟨e2, ?_⟩
  have e5 := congrArg Array.toList e4
  simpa using e5
theorem argL (KX : K.In h) (ar : ∀ a ∈ A, ArgOb h A a) {a : Addr} {vs : List Value} (ha : a ∈ A) (e : h.get? a = some { cls := .type "list", data := .seq vs.toArray }) : (∀ u ∈ vs, OkU A u) ∧ SqL K (argH K h A) a (vs.map toV) := by
  obtain ⟨us, h1, h2, h3⟩ := ar a ha
  have hu : us = vs := by
    rcases h3 with q | q
    · rw [e] at q
      exact (seq_inj q).2.symm
    · rw [e] at q
      exact absurd (Value.type.inj (seq_inj q).1) (by decide)
  subst hu
  refine ⟨h2, ?_⟩
  cases hk : K.lookup a with
  | none => exact .inl (.inr ⟨_, by rw [argH_at ha hk e, hoOf_lst]⟩)
  | some o =>
    have e2 := KX a o hk
    rw [e] at e2
    obtain rfl := Option.some.inj e2
    exact .inr ⟨_, us.toArray, _, hk, rfl, rfl, rfl, by rw [List.size_toArray]; exact h1, by simpa using vals_toV h2⟩
theorem argT (KX : K.In h) (ar : ∀ a ∈ A, ArgOb h A a) {a : Addr} {vs : List Value} (ha : a ∈ A) (e : h.get? a = some { cls := .type "tuple", data := .seq vs.toArray }) : (∀ u ∈ vs, OkU A u) ∧ SqT K (argH K h A) a (vs.map toV) := by
  obtain ⟨us, h1, h2, h3⟩ := ar a ha
  have hu : us = vs := by
    rcases h3 with q | q
    · rw [e] at q
      exact absurd (Value.type.inj (seq_inj q).1) (by decide)
    · rw [e] at q
      exact (seq_inj q).2.symm
  subst hu
  refine ⟨h2, ?_⟩
  cases hk : K.lookup a with
  | none => exact .inl (.inr ⟨_, by rw [argH_at ha hk e, hoOf_tup]⟩)
  | some o =>
    have e2 := KX a o hk
    rw [e] at e2
    obtain rfl := Option.some.inj e2
    exact .inr ⟨_, us.toArray, _, hk, rfl, rfl, by rw [List.size_toArray]; exact h1, by simpa using vals_toV h2⟩
mutual
theorem dw_one {Pm : Params} (KX : K.In h) (ar : ∀ a ∈ A, ArgOb h A a) : ∀ (d : WData) (v : Value), Well Pm h v d → plW d = true → OkU A v → Dw K (argH K h A) (toV v) d
  | .none, _, x, _, _ => by
    cases x
    exact .non
  | .bool b, _, x, _, _ => by
    cases x
    exact .bl b
  | .int i, _, x, _, _ => by
    cases x
    exact .int i
  | .str s, _, x, _, _ => by
    cases x
    exact .str s
  | .bytes b, _, x, _, _ => by
    cases x
    have z := Dw.byt (K := K) (H := argH K h A) b.toArray
    exact z
  | .list ds, _, x, p, hu => by
    obtain ⟨a, vs, rfl, ho, hall⟩ := well_list x
    obtain ⟨h2, hs⟩ := argL KX ar hu ho
    exact .lst hs (dw_all KX ar ds _ hall p h2)
  | .tuple ds, _, x, p, hu => by
    obtain ⟨a, vs, rfl, ho, hall⟩ := well_tuple x
    obtain ⟨h2, hs⟩ := argT KX ar hu ho
    exact .tup hs (dw_all KX ar ds _ hall p h2)
  | .float _, _, _, p, _ => Bool.noConfusion (show false = true from p)
  | .dict _, _, _, p, _ => Bool.noConfusion (show false = true from p)
  | .bytearray _, _, _, p, _ => Bool.noConfusion (show false = true from p)
  | .set _, _, _, p, _ => Bool.noConfusion (show false = true from p)
  | .frozenset _, _, _, p, _ => Bool.noConfusion (show false = true from p)
  | .obj _ _, _, _, p, _ => Bool.noConfusion (show false = true from p)
theorem dw_all {Pm : Params} (KX : K.In h) (ar : ∀ a ∈ A, ArgOb h A a) : ∀ (ds : List WData) (vs : List Value), WellAll Pm h vs ds → plWs ds = true → (∀ u ∈ vs, OkU A u) → DwAll K (argH K h A) (vs.map toV) ds
  | [], _, x, _, _ => by
    cases x
    exact .nil
  | d :: ds, _, x, p, hu => by
    obtain ⟨v, vs, rfl, x1, x2⟩ := well_cons x
    have q : plW d = true ∧ plWs ds = true := Bool.and_eq_true_iff.mp p
    exact .cons (dw_one KX ar d v x1 q.1 (hu _ (List.mem_cons_self ..))) (dw_all KX ar ds vs x2 q.2 fun u m => hu u (List.mem_cons_of_mem _ m))
end
end
theorem spec_call {P : Program} {w : World} {K : PySem.W.Frag} {mg mb : Str → Option Value} {CX : CXT} {k : Nat} {fa : Addr} {fd : FuncData} {ps : List Str} {sp : Sp} {s₁ : Shared} {vals : List Value} {ds : List WData} {R : PySem.W.WRecords} {cl : Str → Option Addr} {d0 : WData}
    (KX : K.In s₁.heap) (hns : s₁.heap.Ns mainGlobals mg) (hb : s₁.heap.Ns builtinsNs mb) (hbb : ∀ x : Str, x ≠ "__name__" → mb x = bootBuiltins x) (hlim : s₁.heap.NoLimit) (hg : s₁.gens = #[])
    (hwl : WellAll w.params s₁.heap vals ds) (hpl : plWs ds = true) (hwt : ∀ d ∈ ds, d.weight ≤ 1048576) (hr : Room k callerA)
    (F : ∀ base : Heap, K.In base → base.Ns mainGlobals mg → FnOk P w K mg base CX k fa fd ps sp) (hbind : ∀ (s : Shared) (us : List Value), us.length = ps.length → BindsTo s fd ⟨us, []⟩ (ps.zip us)) (hlen : ds.length = ps.length)
    (hsp : ∀ (H : Hp) (xs : List V), OnlyF H → DwAll K H xs ds → sp xs H (fun v H' => Dw K H' v d0) fun _ _ _ => False)
    (hCX : ∀ H e s', CX [] H s₁ (fun _ _ _ => False) e s' → False) :
    codeAny (model P w) callerA (.call (.ref fa) ⟨vals, []⟩) (fun r s' => ∃ u as, r = .ok (.ret u) ∧ ReadsW R cl s'.heap u d0 as ∧ OldK s₁.heap s'.heap ∧ s'.os = s₁.os ∧ AllBare s'.gens) s₁ := by
  obtain ⟨A, ho, ar⟩ := area_all ds vals hwl hpl hwt
  have hO : OnlyF (argH K s₁.heap A) := argH_only ar
  have hok : HOk P w (argH K s₁.heap A) s₁.heap := argH_ok ar
  have hS := dw_all KX ar ds vals hwl hpl ho
  have hV := vals_toV ho
  have hK : ∀ b u, argH K s₁.heap A b = some u → K.lookup b = none := fun b u q => (argH_is ar q).1
  have noA : ∀ {b : Addr} {o : Obj} {es : Array DictEntry} {ep : Nat}, s₁.heap.get? b = some o → o.data = .dict es ep → argH K s₁.heap A b = none := fun {b o es ep} e d => by
    cases q : argH K s₁.heap A b with
    | none => rfl
    | some u =>
      obtain ⟨_, vs, _, _, ⟨e2, _⟩ | ⟨e2, _⟩⟩ := argH_is ar q
      · rw [e2] at e
        cases e
        have d' : Data.seq vs.toArray _ = Data.dict es ep := d
        cases d'
      · rw [e2] at e
        cases e
        have d' : Data.seq vs.toArray _ = Data.dict es ep := d
        cases d'
  generalize argH K s₁.heap A = H at hO hok hS hK noA
  have base_of : ∀ {b : Addr} {o : Obj}, s₁.heap.get? b = some o → H b = none → (hidT s₁.heap H).get? b = some o := fun e n => hidT_get e n
  have nsK : ∀ {b : Addr} {m : Str → Option Value}, s₁.heap.Ns b m → (hidT s₁.heap H).Ns b m := fun {b m} ⟨o, es, ep, e, d, r⟩ => ⟨o, es, ep, base_of e (noA e d), d, r⟩
  have nK : ∀ b o, K.lookup b = some o → H b = none := fun b o e => by
    cases q : H b with
    | none => rfl
    | some u =>
      rw [hK b u q] at e
      cases e
  have hKb : K.In (hidT s₁.heap H) := fun b o e => base_of (KX b o e) (nK b o e)
  have hM : Mod K mg (hidT s₁.heap H) := ⟨hKb, nsK hns, ⟨mb, nsK hb, hbb⟩, let ⟨mc, h1, h2⟩ := hlim; ⟨mc, nsK h1, h2⟩⟩
  have e0 : Env0 P w K mg (hidT s₁.heap H) callerA [] s₁ H := ⟨rfl, hM, fun b o e => of_hidT e, Nat.le_of_eq (hidT_size _ _), trivial, fun b hb => absurd (show b ∈ ([] : List Addr) from hb) (by simp), hok, .of_eq hg⟩
  have hl : vals.length = ps.length := by rw [wellAll_len hwl]; exact hlen
  refine codeAny_mono ((F _ hKb (nsK hns)).run callerA [] s₁ H ⟨vals, []⟩ vals (vals.map toV) _ _ hr e0 (hbind s₁ vals hl) hV (hsp H _ hO hS)) fun r s' x => ?_
  cases r with
  | error e => exact (hCX H e s' x).elim
  | ok fl =>
    cases fl with
    | next => exact False.elim x
    | brk => exact False.elim x
    | cont => exact False.elim x
    | ret u =>
      obtain ⟨v, H', os, bare, un, hok', r', q⟩ := x
      have kept : ∀ b o, s₁.heap.get? b = some o → s'.heap.get? b = some o := fun b o e => by
        cases q2 : H b with
        | none => exact un.keep b o e q2 (by intro z; exact absurd (show b ∈ ([] : List Addr) from z) (by simp)) (by simp)
        | some u2 =>
          rcases hO b with z | ⟨ob, u3, z⟩
          · rw [q2] at z
            cases z
          · have z2 := un.frzs b ob _ z
            obtain ⟨e1, _⟩ := hok b _ z
            obtain ⟨e2, _⟩ := hok' b _ z2
            rw [e] at e1
            cases e1
            exact e2
      have KX' : K.In s'.heap := fun b o e => kept b o (KX b o e)
      obtain ⟨as, hrd⟩ := Dw.reads (R := R) (cl := cl) hok' KX' d0 v u q r'
      exact ⟨u, as, rfl, hrd, OldK.of_keep kept, os, bare⟩
theorem layable_weight {ds : List WData} (h : WData.layableAll ds = true) : ∀ d ∈ ds, d.weight ≤ 1048576 := fun d hd =>
  (PySem.W.layableW_iff.mp (List.all_eq_true.mp h d hd)).2.2
theorem encAll_len : ∀ (cs : List Codec) (a : Codec.denoteAll cs), (Codec.encAll cs a).length = cs.length
  | [], _ => rfl
  | c :: cs, a => by
    show (Codec.encAll cs a.2).length + 1 = cs.length + 1
    rw [encAll_len cs a.2]
theorem walk_spec {r : OpenSpec} {k : Nat} {q : Program} {loose : List Str} {XP : (Str → Option Value) → Heap → Prop} {YP : World → Heap → Prop} {d : DefRec} {K : Params → PySem.W.Frag} {CX : World → CXT} {ps : List Str} {sp : World → Sp}
    (hwell : r.wellSaid = true) (hdf : d.params.defaults = []) (hlen : r.args.length = ps.length) (hr : Room k callerA)
    (hY : ∀ (w : World) (h : Heap), YP w h → (K w.params).In h)
    (F : ∀ (w : World) (mg : Str → Option Value) (fa : Addr) (h : Heap), YP w h → (K w.params).In h → h.Ns mainGlobals mg → mg d.name = some (.ref fa) →
      ∃ fd : FuncData, (∀ (s : Shared) (us : List Value), us.length = ps.length → BindsTo s fd ⟨us, []⟩ (ps.zip us)) ∧
        ∀ base : Heap, (K w.params).In base → base.Ns mainGlobals mg → FnOk r.prog w (K w.params) mg base (CX w) k fa fd ps (sp w))
    (hsp : ∀ (w : World) (H : Hp) (xs : List V) (a : Codec.denoteAll r.args), OnlyF H → Codec.withinAll r.args a = true → Codec.app r.args r.asked a = true → DwAll (K w.params) H xs (Codec.encAll r.args a) →
      sp w xs H (fun v H' => Dw (K w.params) H' v (r.ret.enc (Codec.app r.args r.f a))) fun _ _ _ => False)
    (hCX : ∀ (w : World) (H : Hp) (s : Shared) (e : Value) (s' : Shared), CX w [] H s (fun _ _ _ => False) e s' → False) :
    PySem.W.WalkOS q loose XP YP r d [] (fun f vs => PySem.call f vs) := by
  intro w s_0 s₁ mg mb G Y fa o pm cd doc dV kV ho hd hcd hD hmg hg args vals as hpre hlay hrd hwl hlo
  obtain ⟨a, e1, e2⟩ := PySem.W.os_pre_some hpre
  obtain ⟨e3, hwi⟩ := Codec.encAll_of_decAll r.args args a e1
  subst e3
  have KX := hY w _ Y
  obtain ⟨fd, hb, hF⟩ := F w mg fa _ Y KX G.T.g hmg
  refine PySem.W.enter_call (codeAny_mono (spec_call (R := []) (cl := classAt s_0.heap) (d0 := r.ret.enc (Codec.app r.args r.f a)) KX G.T.g G.T.b G.T.builtins G.T.nolimit hg hwl (pl_encAll _ _) (layable_weight hlay) hr hF hb (by rw [encAll_len]; exact hlen)
    (fun H xs hO hS => hsp w H xs a hO hwi e2 hS) fun H e s' => hCX w H s₁ e s') fun r' s' hq => ?_)
  obtain ⟨u, as', rfl, h1, h2, h3, h4⟩ := hq
  exact ⟨.inl ⟨u, _, as', rfl, fun _ => rfl, h1, (OpenSpec.post_iff hwell hwi _ _).mpr rfl, fun z => Bool.noConfusion (show false = true from z)⟩, h2, h3, h4⟩
end L2
end
end
section
set_option Elab.async false
set_option linter.all false
set_option maxRecDepth 100000
namespace L2
open PySem PySem.Spec PyProof.Rows
section
variable {P : Program} {w : World} {K : PySem.W.Frag} {mg : Str → Option Value} {base : Heap}
/-- a def that may raise -/
theorem Fun.okx {x qual : Str} {st : Stmt} {f : Addr} {fd : FuncData} {N ps : List Str} {k : Nat} {sp : Sp} (F : Fun K x qual st f fd) (S : FnScope N ps (defScope st)) (len : ∀ vs H Q E, sp vs H Q E → vs.length = ps.length)
    (hbody : ∀ (cdv : Value) (A : Around) (outer : List Env) (s : Shared) (H : Hp) (vs : List V) (Q : VK) (E : XK), Room k (A.deeper (envOfC qual (defScope st) s.heap.objs.size f cdv)) → sp vs H Q E →
      ∃ t, PSs (cxOf (CX1 P w) P w K mg base N qual (defScope st) f cdv A outer s H E) (defBody st) t ∧ t { nx := fun _ H' => Q .non H', rt := Q } (start N vs) H) : FnOk P w K mg base (CX1 P w) (k + 1) f fd ps sp := by
  obtain ⟨oc, od, kV, doc, pm, an, cdv, ct, osl, rfl, lk, hcd⟩ := F.ex
  exact fn_of lk hcd S len fun A outer s H vs Q E hr hsp => hbody cdv A outer s H vs Q E hr hsp
/-- .. within an except suite, too -/
theorem Fun.oku {x qual : Str} {st : Stmt} {f : Addr} {fd : FuncData} {N ps : List Str} {k : Nat} {sp : Sp} (F : Fun K x qual st f fd) (S : FnScope N ps (defScope st)) (len : ∀ vs H Q E, sp vs H Q E → vs.length = ps.length)
    (hbody : ∀ (cdv : Value) (A : Around) (outer : List Env) (s : Shared) (H : Hp) (vs : List V) (Q : VK) (E : XK), RoomU k (A.deeper (envOfC qual (defScope st) s.heap.objs.size f cdv)) → sp vs H Q E →
      ∃ t, PSs (cxOfU (CX1 P w) P w K mg base N qual (defScope st) f cdv A outer s H E) (defBody st) t ∧ t { nx := fun _ H' => Q .non H', rt := Q } (start N vs) H) : FnOkU P w K mg base (CX1 P w) (k + 1) f fd ps sp := by
  obtain ⟨oc, od, kV, doc, pm, an, cdv, ct, osl, rfl, lk, hcd⟩ := F.ex
  exact fn_ofU lk hcd S len fun A outer s H vs Q E hr hsp => hbody cdv A outer s H vs Q E hr hsp
end
theorem out_cxU {P : Program} {w : World} {K : PySem.W.Frag} {mg : Str → Option Value} {base : Heap} {N : List Str} {qual : Str} {scope : Scope} {f : Addr} {cd : Value} {A : Around} {outer : List Env} {s : Shared} {H : Hp} {E : XK} :
    Out (cxOfU (CX1 P w) P w K mg base N qual scope f cd A outer s H E) E := by
  intro pins σ H1 s1 a C fs cx I n q
  refine leave_ok (C := C) (fs := fs) (cx := cx) (L := s.heap.objs.size) rfl rfl I.ok.frames I ?_ fun H' s' I' n' => ?_
  · rcases n with n | ⟨L, e, n⟩
    · exact .inl n
    · have e' : s.heap.objs.size = L := Option.some.inj e
      subst e'
      exact .inr n
  · exact ⟨a, C, fs, cx, H', rfl, I'.os, I'.bare, I'.base, I'.hok, n', q⟩
/-- a def of the module, by its promise -/
def Def (P : Program) (w : World) (K : PySem.W.Frag) (mg : Str → Option Value) (base : Heap) (k : Nat) (x : Str) (ps : List Str) (sp : Sp) : Prop :=
  ∃ f fd, mg x = some (.ref f) ∧ PySem.W.keepIn K (.ref f) = true ∧ Binds K fd ps [] ∧ FnOk P w K mg base (CX1 P w) k f fd ps sp
/-- a method of the class at C -/
def Mth (P : Program) (w : World) (K : PySem.W.Frag) (mg : Str → Option Value) (base : Heap) (k : Nat) (C : Addr) (m : Str) (ps : List Str) (sp : Sp) : Prop :=
  Cls K C ∧ ∃ f fd, Meth K C m f ∧ Binds K fd ps [] ∧ FnOk P w K mg base (CX1 P w) k f fd ps sp
/-- a class that is called -/
def Mkr (P : Program) (w : World) (K : PySem.W.Frag) (mg : Str → Option Value) (base : Heap) (k : Nat) (C : Addr) (x : Str) (ps : List Str) (sp : Sp) : Prop :=
  mg x = some (.ref C) ∧ ∃ f fd, Mk K C f ∧ Binds K fd ps [] ∧ FnOk P w K mg base (CX1 P w) k f fd ps sp
/-- an exception's class that is called -/
def XMr (P : Program) (w : World) (K : PySem.W.Frag) (mg : Str → Option Value) (base : Heap) (k : Nat) (C : Addr) (x : Str) (ps : List Str) (sp : Sp) : Prop :=
  mg x = some (.ref C) ∧ XCls K C ∧ ∃ f fd, XMk K C f ∧ Binds K fd ps [] ∧ FnOkU P w K mg base (CX1 P w) k f fd ps sp
section
variable {X : Cx} {k k' : Nat} {x m : Str} {C : Addr} {ps : List Str} {sp : Sp} {E : XK} {p pos apos : Pos} {e o : Expr} {es : List Expr} {ta : TE} {t : TA}
theorem Def.call (D : Def X.prog X.w X.K X.mg X.base k x ps sp) (hr : Room k' X.A) (hx : Out X E) (ha : PA X (e :: es) t) (hk : k ≤ k' := by decide) (hg : Gl X x := by rfl) (hdb : (x == ("__debug__" : Str)) = false := by decide)
    (he : starEach (e :: es) X.env = (false, eval e X.env) :: starEach es X.env := by rfl) (hpl : (backTo pos (starEach es X.env)).any (·.1) = false := by rfl) : PE X (.Call (.Name x p) (e :: es) [] pos) (tCall sp [] E t) := by
  obtain ⟨f, fd, hm, hkp, hb, F⟩ := D
  exact pe_call F (hr.mono hk) hg hm hkp hb .nil hx.passes ha hdb he hpl
theorem Mth.call {pl : Sem Bool} (D : Mth X.prog X.w X.K X.mg X.base k C m ps sp) (ho : PE X o ta) (hr : Room k' X.A) (hx : Out X E) (ha : PA X (e :: es) t) (hk : k ≤ k' := by decide)
    (hst : starEach (e :: es) X.env = (false, eval e X.env) :: starEach es X.env := by rfl) (hpl : (backTo pos (starEach es X.env)).any (·.1) = false := by rfl)
    (ht : eval (.Call (.Attribute o m apos) (e :: es) [] pos) X.env = (do
      let ov ← eval o X.env
      standAt apos.atName
      let (f, first) ← holding [ov] (getMethod ov m pl)
      callWith pos f first (backTo pos (starEach (e :: es) X.env)) (backToKw pos (keywordEach [] X.env))) := by rfl) :
    PE X (.Call (.Attribute o m apos) (e :: es) [] pos) (tMeth C m sp [] E ta t) := by
  obtain ⟨c, f, fd, hm, hb, F⟩ := D
  exact pe_meth ho c hm F (hr.mono hk) hb .nil hx.passes ha hst hpl ht
theorem Mth.call0 {pl : Sem Bool} (D : Mth X.prog X.w X.K X.mg X.base k C m ps sp) (ho : PE X o ta) (hr : Room k' X.A) (hx : Out X E) (hk : k ≤ k' := by decide)
    (ht : eval (.Call (.Attribute o m apos) [] [] pos) X.env = (do
      let ov ← eval o X.env
      standAt apos.atName
      let (f, first) ← holding [ov] (getMethod ov m pl)
      callWith pos f first (backTo pos (starEach [] X.env)) (backToKw pos (keywordEach [] X.env))) := by rfl) :
    PE X (.Call (.Attribute o m apos) [] [] pos) (tMeth C m sp [] E ta tNil) := by
  obtain ⟨c, f, fd, hm, hb, F⟩ := D
  exact pe_meth0 ho c hm F (hr.mono hk) hb .nil hx.passes ht
theorem Mkr.call (D : Mkr X.prog X.w X.K X.mg X.base k C x ps sp) (hr : Room k' X.A) (hx : Out X E) (ha : PA X (e :: es) t) (hk : k + 1 ≤ k' := by decide) (hg : Gl X x := by rfl) (hdb : (x == ("__debug__" : Str)) = false := by decide)
    (he : starEach (e :: es) X.env = (false, eval e X.env) :: starEach es X.env := by rfl) (hpl : (backTo pos (starEach es X.env)).any (·.1) = false := by rfl) : PE X (.Call (.Name x p) (e :: es) [] pos) (tMake C sp [] E t) := by
  obtain ⟨hm, f, fd, M, hb, F⟩ := D
  exact pe_make M F (hr.mono hk) hg hm hb .nil hx.passes ha hdb he hpl
theorem Mkr.call0 (D : Mkr X.prog X.w X.K X.mg X.base k C x ps sp) (hr : Room k' X.A) (hx : Out X E) (hk : k + 1 ≤ k' := by decide) (hg : Gl X x := by rfl) (hdb : (x == ("__debug__" : Str)) = false := by decide) :
    PE X (.Call (.Name x p) [] [] pos) (tMake C sp [] E tNil) := by
  obtain ⟨hm, f, fd, M, hb, F⟩ := D
  exact pe_make0 M F (hr.mono hk) hg hm hb .nil hx.passes hdb
theorem XMr.call (D : XMr X.prog X.w X.K X.mg X.base k C x ps sp) (hr : RoomU k' X.A) (hx : Out X E) (ha : PA X (e :: es) t) (hk : k + 1 ≤ k' := by decide) (hg : Gl X x := by rfl) (hdb : (x == ("__debug__" : Str)) = false := by decide)
    (he : starEach (e :: es) X.env = (false, eval e X.env) :: starEach es X.env := by rfl) (hpl : (backTo pos (starEach es X.env)).any (·.1) = false := by rfl) : PE X (.Call (.Name x p) (e :: es) [] pos) (tXMake C sp E t) := by
  obtain ⟨hm, _, f, fd, M, hb, F⟩ := D
  exact pe_xmake M F (hr.mono hk) hg hm hb hx.passes ha hdb he hpl
theorem XMr.call0 (D : XMr X.prog X.w X.K X.mg X.base k C x ps sp) (hr : RoomU k' X.A) (hx : Out X E) (hk : k + 1 ≤ k' := by decide) (hg : Gl X x := by rfl) (hdb : (x == ("__debug__" : Str)) = false := by decide) :
    PE X (.Call (.Name x p) [] [] pos) (tXMake C sp E tNil) := by
  obtain ⟨hm, _, f, fd, M, hb, F⟩ := D
  exact pe_xmake0 M F (hr.mono hk) hg hm hb hx.passes hdb
end
section
variable {X : Cx}
/-- a product of any two numbers that are not huge -/
theorem op_mulB : OpR X (binaryOp .Mult) (rI IntMulOk fun i j => .int (i * j)) := opI fun _ _ _ _ _ _ _ hc q => mul_int q hc
def CDivB (i j : Int) : Prop := 0 < j ∧ j < 2 ^ 1000
theorem op_fdivB : OpR X (binaryOp .FloorDiv) (rI CDivB fun i j => .int (i / j)) := opI fun i j _ _ _ _ _ hc q => by
  have h0 : j.natAbs < 2 ^ 1000 := by have := hc.1; have := hc.2; omega
  have hl : j.natAbs.log2 < 9000 := by
    have hne : j.natAbs ≠ 0 := by have := hc.1; omega
    have h1 : 2 ^ j.natAbs.log2 ≤ j.natAbs := Nat.log2_self_le hne
    have h2 : 2 ^ j.natAbs.log2 < 2 ^ 1000 := Nat.lt_of_le_of_lt h1 h0
    have h3 := (Nat.pow_lt_pow_iff_right (by decide : 1 < 2)).mp h2
    omega
  have e : i / j = i.fdiv j := (Int.fdiv_eq_ediv_of_nonneg i (Int.le_of_lt hc.1)).symm
  rw [e] at q
  exact floordiv_int (by have := hc.1; omega) q (.inl (PyProof.noPylong_of_log2 hl))
end
/-- nothing but r may have changed -/
def Sb (r : Addr) (H H' : Hp) : Prop := ∀ b o, H b = some o → b ≠ r → H' b = some o
theorem Sb.trans {r : Addr} {H H1 H2 : Hp} (a : Sb r H H1) (b : Sb r H1 H2) : Sb r H H2 := fun c o e n => b c o (a c o e n) n
theorem Sb.refl {r : Addr} {H : Hp} : Sb r H H := fun _ _ e _ => e
theorem Same.sb {r : Addr} {H H' : Hp} (s : Same H H') : Sb r H H' := fun b o e _ => s b o e
theorem Same.upd {H : Hp} {a : Addr} {o : HO} (n : H a = none) : Same H (upd H a o) := fun b u e => by rw [upd_ne (ne_of_none e n)]; exact e
theorem Same.tup {K : PySem.W.Frag} {H H' : Hp} {a : Addr} {xs : List V} (e : Same H H') (h : SqT K H a xs) : SqT K H' a xs := by
  rcases h with (h | ⟨o, h⟩) | h
  · exact .inl (.inl (e _ _ h))
  · exact .inl (.inr ⟨o, e _ _ h⟩)
  · exact .inr h
end L2
end
section
namespace Lt
open PySem PySem.Spec PyProof.Rows L2
def top (i : Nat) : Stmt := PySem.Challenge.pw_lutesounds_s01_fits.main.body.getD i (.Pass ⟨0, 0, 0, 0⟩)
abbrev s_common_factor : Stmt := top 6
abbrev s_common_factor_of_all : Stmt := top 7
abbrev s_is_interval : Stmt := top 8
abbrev s_upon : Stmt := top 9
abbrev s_raised : Stmt := top 10
abbrev s_narrower : Stmt := top 11
abbrev s_TextFault_init : Stmt := inClass (top 13) 0
abbrev s_Refusal_init : Stmt := inClass (top 14) 0
abbrev s_TooLong_init : Stmt := inClass (top 15) 0
abbrev s_Misfit_init : Stmt := inClass (top 16) 0
abbrev s_NoInstrument_init : Stmt := inClass (top 17) 0
abbrev s_NoPiece_init : Stmt := inClass (top 18) 0
abbrev s_sign_number : Stmt := top 22
abbrev s_Reader_init : Stmt := inClass (top 23) 0
abbrev s_Reader_ended : Stmt := inClass (top 23) 1
abbrev s_Reader_byte : Stmt := inClass (top 23) 2
abbrev s_Reader_sees : Stmt := inClass (top 23) 3
abbrev s_Reader_pick : Stmt := inClass (top 23) 4
abbrev s_Reader_skip : Stmt := inClass (top 23) 5
abbrev s_Reader_whole_number : Stmt := inClass (top 23) 6
abbrev s_read_interval : Stmt := top 27
abbrev s_read_unison : Stmt := top 28
abbrev s_read_factors : Stmt := top 29
abbrev s_power_of_factor : Stmt := top 30
abbrev s_read_power : Stmt := top 31
abbrev s_read_signed : Stmt := top 32
abbrev s_Instrument_init : Stmt := inClass (top 40) 0
abbrev s_Instrument_string_count : Stmt := inClass (top 40) 1
abbrev s_Instrument_has_place : Stmt := inClass (top 40) 2
abbrev s_read_instrument : Stmt := top 41
abbrev s_read_length_instruments : Stmt := top 42
abbrev s_read_line_instruments : Stmt := top 44
abbrev s_read_fret : Stmt := top 46
abbrev s_read_course : Stmt := top 47
abbrev s_read_bass : Stmt := top 48
abbrev s_skip_word : Stmt := top 49
abbrev s_read_rest : Stmt := top 50
abbrev s_check_fit : Stmt := top 52
abbrev s_count_notes : Stmt := top 53
abbrev s_read_french_stops : Stmt := top 64
abbrev s_read_italian_stops : Stmt := top 65
abbrev s_read_german_stops : Stmt := top 66
abbrev s_read_neck : Stmt := top 67
abbrev s_add_stop : Stmt := top 68
abbrev s_read_french_bass : Stmt := top 69
abbrev s_read_bass_number : Stmt := top 70
abbrev s_read_german_stop : Stmt := top 71
abbrev s_read_crossing : Stmt := top 72
abbrev s_Line_init : Stmt := inClass (top 80) 0
abbrev s_Line_is_bar : Stmt := inClass (top 80) 1
abbrev s_read_piece : Stmt := top 81
abbrev s_read_kind : Stmt := top 82
abbrev s_read_line_pieces : Stmt := top 83
abbrev s_read_length_pieces : Stmt := top 85
abbrev s_read_stops : Stmt := top 87
abbrev s_Tablature_init : Stmt := inClass (top 91) 0
abbrev s_fits : Stmt := top 92
abbrev s_read_tablature : Stmt := top 93
abbrev s_tablature_of : Stmt := top 94
abbrev s_check_sizes : Stmt := top 95
abbrev s_instrument_of : Stmt := top 96
abbrev s_piece_of : Stmt := top 97
end Lt
end
section
set_option Elab.async false
set_option linter.all false
set_option maxRecDepth 100000
set_option maxHeartbeats 2000000
namespace Lt
open PySem PySem.Spec PyProof.Rows L2
/-- the built-in names are not hidden -/
structure Blt (mg : Str → Option Value) : Prop where
  abs : mg "abs" = none
  len : mg "len" = none
  range : mg "range" = none
  enum : mg "enumerate" = none
  ord : mg "ord" = none
  list : mg "list" = none
  tuple : mg "tuple" = none
  rev : mg "reversed" = none
  sum : mg "sum" = none
theorem boot_abs : bootBuiltins "abs" = some (.builtin "abs") := by decide +kernel
theorem boot_ord : bootBuiltins "ord" = some (.builtin "ord") := by decide +kernel
theorem boot_tup : bootBuiltins "tuple" = some (.type "tuple") := by decide +kernel
theorem boot_lst : bootBuiltins "list" = some (.type "list") := by decide +kernel
section
variable {P : Program} {w : World} {K : PySem.W.Frag} {mg : Str → Option Value} {base : Heap}
def spCF : Sp := fun vs H Q _ => ∃ x y : Int, vs = [.int x, .int y] ∧ Q (.int (Int.gcd x y)) H
theorem sc_cf : FnScope ["x", "y", "rest"] ["x", "y"] (defScope s_common_factor) := ⟨rfl, rfl, rfl, by decide +kernel, rfl, by decide +kernel, by decide +kernel⟩
theorem abs_gcd (x : Int) : (if x < 0 then -x else x) = (x.natAbs : Int) := by split <;> omega
theorem ok_cf {f : Addr} {fd : FuncData} (F : Fun K "common_factor" "common_factor" s_common_factor f fd) (B : Blt mg) : FnOk P w K mg base (CX1 P w) 1 f fd ["x", "y"] spCF := by
  refine F.okx sc_cf (fun vs H Q E h => ?_) (fun cdv A outer s H vs Q E hr h => ?_)
  · obtain ⟨x, y, rfl, _⟩ := h
    rfl
  · obtain ⟨x, y, rfl, k⟩ := h
    refine ⟨_, pss_cons (ps_set (i := 0) sc_cf.nd rfl (Or.inl rfl) (pe_callB call_abs (by rfl) B.abs boot_abs (pa_cons (pv 0) pa_nil)))
      (pss_cons (ps_set (i := 1) sc_cf.nd rfl (Or.inl rfl) (pe_callB call_abs (by rfl) B.abs boot_abs (pa_cons (pv 1) pa_nil)))
      (pss_cons (ps_while PassesOwn.leaving (pt_cmpR op_gt (pv 1) pe_int (nomark _))
        (pss_cons (ps_set (i := 2) sc_cf.nd rfl (Or.inl rfl) (pe_op op_mod (pv 0) (pv 1)))
        (pss_cons (ps_set (i := 0) sc_cf.nd rfl (Or.inl rfl) (pv 1)) (pss_one (ps_set (i := 1) sc_cf.nd rfl (Or.inl rfl) (pv 2))))))
      (pss_one (ps_ret (pv 0))))), ?_⟩
    refine ⟨_, rfl, x, rfl, _, rfl, y, rfl, ?_⟩
    rw [abs_gcd, abs_gcd]
    refine while_by (fun σ H' => H' = H ∧ ∃ (m n : Nat) (r : Option V), σ = [some (.int m), some (.int n), r] ∧ Nat.gcd m n = Int.gcd x y) (fun σ _ => match σ with | [_, some (.int n), _] => n.toNat | _ => 0)
      ⟨rfl, x.natAbs, y.natAbs, none, rfl, rfl⟩ ?_ ?_
    · rintro σ H' ⟨rfl, m, n, r, rfl, g⟩
      refine ⟨_, rfl, _, _, rfl, rfl, _, rfl, ?_⟩
      refine ite2 (fun hn => ?_) (fun hn => ?_)
      · have hn0 : 0 < (n : Int) := by simpa using hn
        refine ⟨_, rfl, _, rfl, _, _, rfl, rfl, hn0, _, rfl, _, rfl, ⟨rfl, n, m % n, some (.int (m % n : Nat)), ?_, ?_⟩, ?_⟩
        · simp
        · rw [← g, Nat.gcd_comm m n, Nat.gcd_rec n m, Nat.gcd_comm]
        · show ((m : Int) % (n : Int)).toNat < (n : Int).toNat
          have := Int.emod_lt_of_pos (m : Int) hn0
          have := Int.emod_nonneg (m : Int) (by omega : (n : Int) ≠ 0)
          omega
      · have hn0 : n = 0 := by
          have : ¬ (0 : Int) < n := by simpa using hn
          omega
        subst hn0
        refine ⟨_, rfl, ?_⟩
        rw [Nat.gcd_zero_right] at g
        rw [g]
        exact k
    · rintro σ H' Q1 Q2 hq ⟨v1, e1, z1⟩
      exact ⟨v1, e1, let ⟨i, j, a, b, c, d, e⟩ := z1; ⟨i, j, a, b, c, d, hq _ _ e⟩⟩
end
end Lt
end
section
set_option Elab.async false
set_option linter.all false
set_option maxRecDepth 100000
set_option maxHeartbeats 2000000
namespace Lt
open PySem PySem.Spec PyProof.Rows L2
def GI (mg : Str → Option Value) (x : Str) (i : Int) : Prop := ∃ u, mg x = some u ∧ RelV (.int i) u
def GS (mg : Str → Option Value) (x : Str) (z : Str) : Prop := ∃ u, mg x = some u ∧ RelV (.str z) u
def GT (K : PySem.W.Frag) (mg : Str → Option Value) (x : Str) (xs : List V) : Prop := ∃ a, mg x = some (.ref a) ∧ ∀ H, SqT K H a xs
theorem pe_gi {X : Cx} {x : Str} {i : Int} {pos : Pos} (h : GI X.mg x i) (hg : Gl X x := by rfl) (hd : (x == ("__debug__" : Str)) = false := by decide) : PE X (.Name x pos) (tC (.int i)) :=
  let ⟨_, hm, r⟩ := h; pe_glob hg hm r hd
theorem pe_gs {X : Cx} {x z : Str} {pos : Pos} (h : GS X.mg x z) (hg : Gl X x := by rfl) (hd : (x == ("__debug__" : Str)) = false := by decide) : PE X (.Name x pos) (tC (.str z)) :=
  let ⟨_, hm, r⟩ := h; pe_glob hg hm r hd
/-- a tuple of the module -/
def tGT (K : PySem.W.Frag) (xs : List V) : TE := fun _ H Q => ∀ a, (∀ H', SqT K H' a xs) → Q (.ref a) H
theorem pe_gt {X : Cx} {x : Str} {xs : List V} {pos : Pos} (h : GT X.K X.mg x xs) (hg : Gl X x := by rfl) (hd : (x == ("__debug__" : Str)) = false := by decide) : PE X (.Name x pos) (tGT X.K xs) := by
  obtain ⟨a, hm, r⟩ := h
  intro pins s σ H Q I q
  exact pe_glob (v := .ref a) hg hm rfl hd pins s σ H Q I (q a r)
section
variable {P : Program} {w : World} {K : PySem.W.Frag} {mg : Str → Option Value} {base : Heap}
def gcdFrom (g : Nat) (l : List Int) : Nat := l.foldl (fun (g : Nat) (x : Int) => Int.gcd g x) g
def gcdAll (l : List Int) : Nat := gcdFrom 0 l
def spCFA (K : PySem.W.Frag) : Sp := fun vs H Q _ => ∃ (a : Addr) (l : List Int), vs = [.ref a] ∧ (SqL K H a (l.map V.int) ∨ SqT K H a (l.map V.int)) ∧ Q (.int (gcdAll l)) H
theorem sc_cfa : FnScope ["numbers", "common", "number"] ["numbers"] (defScope s_common_factor_of_all) := ⟨rfl, rfl, rfl, by decide +kernel, rfl, by decide +kernel, by decide +kernel⟩
theorem gcd_snoc {l : List Int} {i : Nat} {z : Int} (h : l[i]? = some z) : gcdAll (l.take (i + 1)) = Int.gcd (gcdAll (l.take i)) z := by
  rw [List.take_add_one, h]
  unfold gcdAll gcdFrom
  rw [List.foldl_append]
  rfl
theorem map_int {l : List Int} {i : Nat} {y : V} (h : (l.map V.int)[i]? = some y) : ∃ z, l[i]? = some z ∧ y = .int z := by
  rw [List.getElem?_map] at h
  cases e : l[i]? with
  | none => rw [e] at h; cases h
  | some z => rw [e] at h; exact ⟨z, rfl, (Option.some.inj h).symm⟩
theorem ok_cfa {f : Addr} {fd : FuncData} (F : Fun K "common_factor_of_all" "common_factor_of_all" s_common_factor_of_all f fd) (D1 : Def P w K mg base 1 "common_factor" ["x", "y"] spCF) :
    FnOk P w K mg base (CX1 P w) 2 f fd ["numbers"] (spCFA K) := by
  refine F.okx sc_cfa (fun vs H Q E h => ?_) (fun cdv A outer s H vs Q E hr h => ?_)
  · obtain ⟨a, l, rfl, _⟩ := h
    rfl
  · obtain ⟨a, l, rfl, hl | hl, k⟩ := h
    · refine ⟨_, pss_cons (ps_set (i := 1) sc_cfa.nd rfl (Or.inl rfl) pe_int) (pss_cons (ps_for PassesOwn.leaving rfl (pi_list (pv 0)) (pg_name (i := 2) sc_cfa.nd rfl (Or.inl rfl))
        (pss_one (ps_set (i := 1) sc_cfa.nd rfl (Or.inl rfl) (D1.call hr out_cx (pa_cons (pv 1) (pa_cons (pv 2) pa_nil)))))) (pss_one (ps_ret (pv 1)))), ?_⟩
      refine ⟨_, rfl, a, rfl, ⟨_, hl⟩, for_list (K := K) (a := a) (xs := l.map V.int) (fun i σ H' => H' = H ∧ ∃ r, σ = [some (.ref a), some (.int (gcdAll (l.take i))), r]) ⟨rfl, none, rfl⟩ (fun i σ H' _ ⟨e, _⟩ => e ▸ hl) ?_ ?_⟩
      · rintro i y σ H' hi ⟨rfl, r, rfl⟩
        obtain ⟨z, hz, rfl⟩ := map_int hi
        refine ⟨_, rfl, _, rfl, _, _, rfl, rfl, some (.int z), ?_⟩
        rw [gcd_snoc hz]
        rfl
      · rintro σ H' ⟨rfl, r, rfl⟩
        rw [List.length_map, List.take_length]
        exact ⟨_, rfl, k⟩
    · refine ⟨_, pss_cons (ps_set (i := 1) sc_cfa.nd rfl (Or.inl rfl) pe_int) (pss_cons (ps_for PassesOwn.leaving rfl (pi_tup (pv 0)) (pg_name (i := 2) sc_cfa.nd rfl (Or.inl rfl))
        (pss_one (ps_set (i := 1) sc_cfa.nd rfl (Or.inl rfl) (D1.call hr out_cx (pa_cons (pv 1) (pa_cons (pv 2) pa_nil)))))) (pss_one (ps_ret (pv 1)))), ?_⟩
      refine ⟨_, rfl, a, rfl, ⟨_, hl⟩, for_tup (K := K) (a := a) (xs := l.map V.int) (fun i σ H' => H' = H ∧ ∃ r, σ = [some (.ref a), some (.int (gcdAll (l.take i))), r]) ⟨rfl, none, rfl⟩ (fun i σ H' _ ⟨e, _⟩ => e ▸ hl) ?_ ?_⟩
      · rintro i y σ H' hi ⟨rfl, r, rfl⟩
        obtain ⟨z, hz, rfl⟩ := map_int hi
        refine ⟨_, rfl, _, rfl, _, _, rfl, rfl, some (.int z), ?_⟩
        rw [gcd_snoc hz]
        rfl
      · rintro σ H' ⟨rfl, r, rfl⟩
        rw [List.length_map, List.take_length]
        exact ⟨_, rfl, k⟩
def isIv (l : List Int) : Bool := (l.take 4).all (fun p => decide (p.natAbs ≤ 99)) && (decide (1 ≤ l.getD 4 0) && decide (l.getD 4 0 ≤ 24) && decide (gcdAll l = 1))
def spII (K : PySem.W.Frag) : Sp := fun vs H Q _ => ∃ (a : Addr) (l : List Int), vs = [.ref a] ∧ SqT K H a (l.map V.int) ∧ l.length = 5 ∧ ∀ H', Same H H' → Q (.bl (isIv l)) H'
theorem sc_ii : FnScope ["numbers", "power"] ["numbers"] (defScope s_is_interval) := ⟨rfl, rfl, rfl, by decide +kernel, rfl, by decide +kernel, by decide +kernel⟩
theorem all_false {l : List Int} {i : Nat} {z : Int} (h : (l.take 4)[i]? = some z) (hz : 99 < z.natAbs) : isIv l = false := by
  have hm : z ∈ l.take 4 := List.mem_of_getElem? h
  unfold isIv
  have : (l.take 4).all (fun p => decide (p.natAbs ≤ 99)) = false := by
    rw [List.all_eq_false]
    exact ⟨z, hm, by simp; omega⟩
  rw [this]; rfl
theorem ok_ii {f : Addr} {fd : FuncData} (F : Fun K "is_interval" "is_interval" s_is_interval f fd) (B : Blt mg) (gw : GI mg "WIDEST_POWER" 99) (gf : GI mg "FINEST_PART" 24) (D1 : Def P w K mg base 2 "common_factor_of_all" ["numbers"] (spCFA K)) :
    FnOk P w K mg base (CX1 P w) 3 f fd ["numbers"] (spII K) := by
  refine F.okx sc_ii (fun vs H Q E h => ?_) (fun cdv A outer s H vs Q E hr h => ?_)
  · obtain ⟨a, l, rfl, _⟩ := h
    rfl
  · obtain ⟨a, l, rfl, hl, h5, k⟩ := h
    refine ⟨_, pss_cons (ps_if (pt_cmpR op_ne (pe_callB call_len_seq (by rfl) B.len PySem.boot_len (pa_cons (pv 0) pa_nil)) pe_int (nomark _)) (pss_one (ps_ret pe_bl)) pss_nil)
      (pss_cons (ps_for PassesOwn.leaving rfl (pi_tup (pe_slice sl_tup (pv 0) po_none (po_some pe_int))) (pg_name (i := 1) sc_ii.nd rfl (Or.inl rfl))
        (pss_one (ps_if (pt_cmpR op_gt (pe_callB call_abs (by rfl) B.abs boot_abs (pa_cons (pv 1) pa_nil)) (pe_gi gw) (nomark _)) (pss_one (ps_ret pe_bl)) pss_nil)))
      (pss_one (ps_ret (pe_and (pe_chain op_le op_le pe_int (pe_ix ix_tup (pv 0) pe_int (fun _ _ => rfl)) (pe_gi gf))
        (pe_one (pe_cmpR op_eq (D1.call hr out_cx (pa_cons (pv 0) pa_nil)) pe_int (nomark _))))))), ?_⟩
    refine ⟨_, rfl, a, l.map V.int, rfl, .inr hl, rfl, _, rfl, ?_⟩
    refine iteNS (by rw [List.length_map, h5]; rfl) ?_
    have hc : cutV (l.map V.int) none (some 4) = (l.take 4).map V.int := by
      unfold cutV
      rw [List.length_map, h5, List.map_take]
      rfl
    refine ⟨_, rfl, 4, rfl, a, l.map V.int, rfl, hl, ?_, fun p hp => ⟨p, rfl, ⟨_, SqT.of upd_same⟩, ?_⟩⟩
    · rw [List.length_map, h5]
      decide
    rw [hc]
    have s1 : Same H (upd H p (.tup ((l.take 4).map V.int))) := Same.upd hp
    refine for_tup (K := K) (a := p) (xs := (l.take 4).map V.int) (fun i σ H' => H' = upd H p (.tup ((l.take 4).map V.int)) ∧ (∃ r, σ = [some (.ref a), r]) ∧ ((l.take 4).take i).all (fun p => decide (p.natAbs ≤ 99)) = true) ⟨rfl, ⟨none, rfl⟩, rfl⟩
      (fun i σ H' _ ⟨e, _⟩ => by rw [e]; exact SqT.of upd_same) ?_ ?_
    · rintro i y σ H' hi ⟨rfl, ⟨r, rfl⟩, ha⟩
      obtain ⟨z, hz, rfl⟩ := map_int hi
      refine ⟨_, rfl, z, rfl, _, _, rfl, rfl, _, rfl, ?_⟩
      rw [abs_gcd]
      refine ite2 (fun h => ?_) (fun h => ?_)
      · have h9 : (99 : Int) < z.natAbs := by simpa using h
        have e := all_false hz (by omega)
        have q := k _ s1
        rw [e] at q
        exact q
      · have h9 : ¬ (99 : Int) < z.natAbs := by simpa using h
        refine ⟨rfl, ⟨some (.int z), rfl⟩, ?_⟩
        rw [List.take_add_one, hz, List.all_append, ha]
        simp
        omega
    · rintro σ H' ⟨rfl, ⟨r, rfl⟩, ha⟩
      rw [List.length_map, List.take_length] at ha
      obtain ⟨d, hd⟩ : ∃ d, l[4]? = some d := ⟨_, List.getElem?_eq_getElem (by omega : 4 < l.length)⟩
      have eg : l.getD 4 0 = d := by simp [List.getD, hd]
      refine ⟨_, rfl, a, l.map V.int, 4, .int d, rfl, rfl, s1.tup hl, atI_nat (by rw [List.getElem?_map, hd]; rfl), _, _, rfl, rfl, _, rfl, ?_⟩
      have q := k _ s1
      unfold isIv at q
      rw [ha, eg, Bool.true_and] at q
      refine ite2 (fun h => ?_) (fun h => ?_)
      · have h1 : (1 : Int) ≤ d := by simpa using h
        rw [decide_eq_true h1, Bool.true_and] at q
        refine ⟨_, _, rfl, rfl, _, rfl, ?_⟩
        refine ite2 (fun h' => ?_) (fun h' => ?_)
        · have h2 : d ≤ 24 := by simpa using h'
          rw [decide_eq_true h2, Bool.true_and] at q
          refine ⟨_, rfl, a, l, rfl, .inr (s1.tup hl), rfl, ?_⟩
          have e : decide (V.int ((gcdAll l : Nat) : Int) = V.int 1) = decide (gcdAll l = 1) := by
            rw [decide_eq_decide]
            constructor
            · intro z; injection z with z; omega
            · intro z; rw [z]; rfl
          rw [e]
          exact q
        · have h2 : ¬ d ≤ 24 := by simpa using h'
          rw [decide_eq_false h2, Bool.false_and] at q
          exact q
      · have h1 : ¬ (1 : Int) ≤ d := by simpa using h
        rw [decide_eq_false h1, Bool.false_and, Bool.false_and] at q
        exact ⟨_, rfl, iteF q⟩
end
end Lt
end
section
set_option Elab.async false
set_option linter.all false
set_option maxRecDepth 100000
set_option maxHeartbeats 2000000
namespace Lt
open PySem PySem.Spec PyProof.Rows L2
section
variable {P : Program} {w : World} {K : PySem.W.Frag} {mg : Str → Option Value} {base : Heap}
theorem ix_tupK {X : Cx} (K : PySem.W.Frag) (h : X.K = K := by rfl) : IxR X (rIxT K) := h ▸ ix_tup
def numK (x y : List Int) (k : Nat) : Int := x.getD k 0 * y.getD 4 0 + y.getD k 0 * x.getD 4 0
def nums (x y : List Int) : List Int := (List.range 4).map (numK x y) ++ [x.getD 4 0 * y.getD 4 0]
def uponL (x y : List Int) : List Int := (nums x y).map fun z => z / (gcdAll (nums x y) : Int)
def spUp (K : PySem.W.Frag) : Sp := fun vs H Q _ => ∃ (ax ay : Addr) (x y : List Int), vs = [.ref ax, .ref ay] ∧ SqT K H ax (x.map V.int) ∧ SqT K H ay (y.map V.int) ∧ x.length = 5 ∧ y.length = 5 ∧ (∀ z ∈ x, z.natAbs < 2 ^ 60) ∧
  0 < x.getD 4 0 ∧ 0 < y.getD 4 0 ∧ y.getD 4 0 < 2 ^ 60 ∧ ∀ H' r, Same H H' → H' r = some (.tup ((uponL x y).map V.int)) → Q (.ref r) H'
theorem sc_up : FnScope ["x", "y", "numbers", "common", "k", "number"] ["x", "y"] (defScope s_upon) := ⟨rfl, rfl, rfl, by decide +kernel, rfl, by decide +kernel, by decide +kernel⟩
def lcScope : Expr → Scope
  | .ListComp _ _ sc _ => sc
  | .Call _ (e :: _) _ _ => lcScope e
  | _ => { kind := .function, names := [], isGenerator := false, isCoroutine := false }
def rhs : Stmt → Expr
  | .Assign _ e _ => e
  | .Return (some e) _ => e
  | _ => .Constant .none 0 ⟨0, 0, 0, 0⟩
theorem blk_up1 : BlkOk ["x", "y", "numbers", "common", "k", "number"] (defScope s_upon) (lcScope (rhs ((defBody s_upon).getD 0 (.Pass ⟨0, 0, 0, 0⟩)))) [("k", 4)] := ⟨rfl, by decide +kernel, by decide +kernel, by decide +kernel, by decide +kernel⟩
theorem blk_up2 : BlkOk ["x", "y", "numbers", "common", "k", "number"] (defScope s_upon) (lcScope (rhs ((defBody s_upon).getD 3 (.Pass ⟨0, 0, 0, 0⟩)))) [("number", 5)] := ⟨rfl, by decide +kernel, by decide +kernel, by decide +kernel, by decide +kernel⟩
theorem at_map {l : List Int} {i : Nat} {z : Int} (hz : (i : Int) = z) (hi : i < l.length) : atI (l.map V.int) z = some (.int (l.getD i 0)) := by
  rw [← hz]
  exact atI_nat (by rw [List.getElem?_map, List.getElem?_eq_getElem hi]; simp [List.getD, List.getElem?_eq_getElem hi])
theorem mem_getD {l : List Int} {i : Nat} (hi : i < l.length) : l.getD i 0 ∈ l := by
  simp [List.getD, List.getElem?_eq_getElem hi]
theorem gcd_dvd_from : ∀ (l : List Int) (g : Nat), gcdFrom g l ∣ g ∧ ∀ z ∈ l, ((gcdFrom g l : Nat) : Int) ∣ z
  | [], g => ⟨Nat.dvd_refl _, fun z h => by simp at h⟩
  | x :: l, g => by
    obtain ⟨h1, h2⟩ := gcd_dvd_from l (Int.gcd g x)
    have e : gcdFrom g (x :: l) = gcdFrom (Int.gcd g x) l := rfl
    rw [e]
    refine ⟨Nat.dvd_trans h1 ?_, fun z hz => ?_⟩
    · have := Int.gcd_dvd_left (a := (g : Int)) (b := x)
      exact Int.natCast_dvd_natCast.mp this
    · rcases List.mem_cons.mp hz with rfl | hz
      · exact Int.dvd_trans (Int.natCast_dvd_natCast.mpr h1) (Int.gcd_dvd_right ..)
      · exact h2 z hz
theorem gcdAll_dvd {l : List Int} {z : Int} (h : z ∈ l) : ((gcdAll l : Nat) : Int) ∣ z := (gcd_dvd_from l 0).2 z h
theorem nums_last (x y : List Int) : x.getD 4 0 * y.getD 4 0 ∈ nums x y := by unfold nums; simp
theorem gcd_pos {x y : List Int} (hx : 0 < x.getD 4 0) (hy : 0 < y.getD 4 0) : 0 < (gcdAll (nums x y) : Int) := by
  have h : 0 < x.getD 4 0 * y.getD 4 0 := Int.mul_pos hx hy
  have hd := gcdAll_dvd (nums_last x y)
  obtain ⟨q, hq⟩ := hd
  by_cases h0 : gcdAll (nums x y) = 0
  · rw [h0] at hq
    have hq' : x.getD 4 0 * y.getD 4 0 = 0 := by rw [hq]; exact Int.zero_mul q
    omega
  · omega
theorem ok_up {f : Addr} {fd : FuncData} (F : Fun K "upon" "upon" s_upon f fd) (B : Blt mg) (D1 : Def P w K mg base 2 "common_factor_of_all" ["numbers"] (spCFA K)) :
    FnOk P w K mg base (CX1 P w) 3 f fd ["x", "y"] (spUp K) := by
  refine F.okx sc_up (fun vs H Q E h => ?_) (fun cdv A outer s H vs Q E hr h => ?_)
  · obtain ⟨ax, ay, x, y, rfl, _⟩ := h
    rfl
  · obtain ⟨ax, ay, x, y, rfl, hx, hy, h5, g5, bx, px, py, by4, k⟩ := h
    refine ⟨_, pss_cons (ps_setLcN (i := 2) (own := [("k", 4)]) rfl sc_up.nd rfl rfl (by rfl) (pi_range1 (by rfl) B.range (pa_cons pe_int pa_nil)) blk_up1 (fun _ _ _ _ _ => pg_name (i := 4) sc_up.nd rfl (Or.inl rfl)) (fun _ _ _ _ _ => pts_nil)
        (fun _ _ _ _ _ => pe_op op_add (pe_op op_mul (pe_ix (ix_tupK K) (pv 0) (pv 4) (fun _ _ => rfl)) (pe_ix (ix_tupK K) (pv 1) pe_int (fun _ _ => rfl))) (pe_op op_mul (pe_ix (ix_tupK K) (pv 1) (pv 4) (fun _ _ => rfl)) (pe_ix (ix_tupK K) (pv 0) pe_int (fun _ _ => rfl)))))
      (pss_cons (ps_expr (pe_bm PySem.F.plainAttrs_list PySem.F.slot_list_append PySem.F.type_list_append mt_append (pv 2) (pa_cons (pe_op op_mul (pe_ix ix_tup (pv 0) pe_int (fun _ _ => rfl)) (pe_ix ix_tup (pv 1) pe_int (fun _ _ => rfl))) pa_nil)))
      (pss_cons (ps_set (i := 3) sc_up.nd rfl (Or.inr rfl) (D1.call hr out_cx (pa_cons (pv 2) pa_nil)))
      (pss_one (ps_ret (pe_callTy call_tuple_of (by rfl) B.tuple boot_tup (pa_cons (pe_lcN (own := [("number", 5)]) rfl sc_up.nd (pi_list (pv 2)) blk_up2 (fun _ _ _ _ _ => pg_name (i := 5) sc_up.nd rfl (Or.inl rfl)) (fun _ _ _ _ _ => pts_nil)
        (fun _ _ _ _ _ => pe_op op_fdivB (pv 5) (pv 3))) pa_nil)))))), ?_⟩
    have x4 : (x.getD 4 0).natAbs < 2 ^ 60 := bx _ (mem_getD (by omega))
    refine ⟨4, rfl, by decide, by decide, fun D1' hD1 => lc_any (n := 4) (fun i H' => H' = upd H D1' (.lst (((List.range i).map (numK x y)).map V.int))) rfl (fun i H' hi _ => hi) (fun H' _ => Nat.le_refl _) ?_ ?_⟩
    · rintro i v H1 H2 hi rfl ⟨rfl, rfl⟩
      have s1 : Same H (upd H D1' (.lst (((List.range i).map (numK x y)).map V.int))) := Same.upd hD1
      refine ⟨rfl, ?_⟩
      have xi : (x.getD i 0).natAbs < 2 ^ 60 := bx _ (mem_getD (by omega))
      refine ⟨_, rfl, _, rfl, ax, _, _, _, rfl, rfl, s1.tup hx, at_map (i := i) (by omega) (by omega), _, rfl, ay, _, _, _, rfl, rfl, s1.tup hy, at_map (i := 4) rfl (by omega), _, _, rfl, rfl, .inl ⟨by omega, by omega⟩,
        _, rfl, _, rfl, ay, _, _, _, rfl, rfl, s1.tup hy, at_map (i := i) (by omega) (by omega), _, rfl, ax, _, _, _, rfl, rfl, s1.tup hx, at_map (i := 4) rfl (by omega), _, _, rfl, rfl, .inr ⟨by omega, by omega⟩, _, _, rfl, rfl, _, upd_same, ?_, ?_⟩
      · rw [List.length_map, List.length_map, List.length_range, sizeLine_eq]; omega
      · funext b
        by_cases hb : b = D1'
        · subst hb
          rw [upd_same, upd_same, List.range_succ, List.map_append, List.map_append]
          rfl
        · rw [upd_ne hb, upd_ne hb, upd_ne hb]
    · rintro H1 rfl
      have s1 : Same H (upd H D1' (.lst (((List.range 4).map (numK x y)).map V.int))) := Same.upd hD1
      refine ⟨_, rfl, .inl ⟨rfl, _, SqL.of upd_same⟩, _, rfl, ax, _, _, _, rfl, rfl, s1.tup hx, at_map (i := 4) rfl (by omega), _, rfl, ay, _, _, _, rfl, rfl, s1.tup hy, at_map (i := 4) rfl (by omega), _, _, rfl, rfl, .inl ⟨by omega, by omega⟩,
        D1', _, _, rfl, rfl, upd_same, ?_, ?_⟩
      · rw [List.length_map, List.length_map, List.length_range, sizeLine_eq]; omega
      have e1 : ((List.range 4).map (numK x y)).map V.int ++ [V.int (x.getD 4 0 * y.getD 4 0)] = (nums x y).map V.int := by unfold nums; rw [List.map_append]; rfl
      rw [e1]
      have s2 : Same H (upd (upd H D1' (.lst (((List.range 4).map (numK x y)).map V.int))) D1' (.lst ((nums x y).map V.int))) := fun b o e => by
        have n := ne_of_none e hD1
        rw [upd_ne n, upd_ne n]; exact e
      generalize hH2 : upd (upd H D1' (.lst (((List.range 4).map (numK x y)).map V.int))) D1' (.lst ((nums x y).map V.int)) = H2
      rw [hH2] at s2
      have l2 : H2 D1' = some (.lst ((nums x y).map V.int)) := by rw [← hH2]; exact upd_same
      refine ⟨_, rfl, D1', nums x y, rfl, .inl (SqL.of l2), ?_⟩
      have gp := gcd_pos (x := x) (y := y) px py
      have gb : (gcdAll (nums x y) : Int) < 2 ^ 1000 := by
        have h1 : (gcdAll (nums x y) : Int) ≤ x.getD 4 0 * y.getD 4 0 := Int.le_of_dvd (Int.mul_pos px py) (gcdAll_dvd (nums_last x y))
        have h2 : x.getD 4 0 * y.getD 4 0 ≤ 2 ^ 60 * 2 ^ 60 := Int.mul_le_mul (by omega) (by omega) (by omega) (by decide)
        have h3 : (2 : Int) ^ 60 * 2 ^ 60 < 2 ^ 1000 := by decide
        omega
      refine ⟨_, rfl, D1', rfl, ⟨_, SqL.of l2⟩, fun D2 hD2 => lc_any (n := (nums x y).length) (fun i H' => H' = upd H2 D2 (.lst (((uponL x y).take i).map V.int))) (by simp) (fun i H' hi e => ?_) (fun H' e => ?_) ?_ ?_⟩
      · subst e
        have n : D1' ≠ D2 := ne_of_none l2 hD2
        exact ⟨_, .int ((nums x y)[i]), SqL.of (by rw [upd_ne n]; exact l2), by rw [List.getElem?_map, List.getElem?_eq_getElem hi]; rfl⟩
      · subst e
        have n : D1' ≠ D2 := ne_of_none l2 hD2
        exact ⟨_, SqL.of (by rw [upd_ne n]; exact l2), by rw [List.length_map]; exact Nat.le_refl _⟩
      · rintro i v H3 H4 hi rfl ⟨rfl, hy'⟩
        have n : D1' ≠ D2 := ne_of_none l2 hD2
        obtain ⟨z, hz, rfl⟩ := map_int (hy' _ (SqL.of (by rw [upd_ne n]; exact l2)))
        refine ⟨rfl, ?_⟩
        refine ⟨_, rfl, _, rfl, _, _, rfl, rfl, ⟨gp, gb⟩, _, upd_same, ?_, ?_⟩
        · rw [List.length_map, List.length_take, sizeLine_eq]
          have : (uponL x y).length = 5 := by simp [uponL, nums]
          omega
        · funext b
          by_cases hb : b = D2
          · subst hb
            rw [upd_same, upd_same, List.take_add_one]
            have e2 : (uponL x y)[i]? = some (z / (gcdAll (nums x y) : Int)) := by unfold uponL; rw [List.getElem?_map, hz]; rfl
            rw [e2, List.map_append]
            rfl
          · rw [upd_ne hb, upd_ne hb, upd_ne hb]
      · rintro H3 rfl
        have e3 : (uponL x y).take (nums x y).length = uponL x y := by
          rw [List.take_of_length_le]
          unfold uponL; rw [List.length_map]; exact Nat.le_refl _
        rw [e3]
        refine ⟨D2, _, rfl, .inl ⟨SqL.of upd_same, fun r hr' => ?_⟩⟩
        refine k _ r (fun b o e => ?_) upd_same
        have n1 : b ≠ D2 := ne_of_none (s2 b o e) hD2
        have n2 : b ≠ r := by
          refine ne_of_none (o := o) ?_ hr'
          rw [upd_ne n1]; exact s2 b o e
        rw [upd_ne n2, upd_ne n1]
        exact s2 b o e
end
end Lt
end
section
set_option Elab.async false
set_option linter.all false
set_option maxRecDepth 100000
set_option maxHeartbeats 400000
namespace Lt
open PySem PySem.Spec PyProof.Rows L2
open PySem.Builtin.Int (intBits)
section
variable {P : Program} {w : World} {K : PySem.W.Frag} {mg : Str → Option Value} {base : Heap}
def spRa : Sp := fun vs H Q _ => ∃ (b : Int) (p : Nat), vs = [.int b, .int p] ∧ (0 ≤ b ∧ b ≤ 7) ∧ p ≤ 10000 ∧ Q (.int (b ^ p)) H
theorem sc_ra : FnScope ["base", "power", "result"] ["base", "power"] (defScope s_raised) := ⟨rfl, rfl, rfl, by decide +kernel, rfl, by decide +kernel, by decide +kernel⟩
theorem bits7 {b : Int} (h : 0 ≤ b ∧ b ≤ 7) : intBits b ≤ 3 := intBits_le_iff.mpr (by have := h.1; have := h.2; omega)
theorem mulOk_pow {b : Int} (h : 0 ≤ b ∧ b ≤ 7) {m n : Nat} (hm : m ≤ 100000) (hn : n ≤ 100000) : IntMulOk (b ^ m) (b ^ n) :=
  .of_le (intBits_pow_le (bits7 h) m) (intBits_pow_le (bits7 h) n) (by omega)
theorem ok_ra {f : Addr} {fd : FuncData} (F : Fun K "raised" "raised" s_raised f fd) : FnOk P w K mg base (CX1 P w) 1 f fd ["base", "power"] spRa := by
  refine F.okx sc_ra (fun vs H Q E h => ?_) (fun cdv A outer s H vs Q E hr h => ?_)
  · obtain ⟨b, p, rfl, _⟩ := h
    rfl
  · obtain ⟨b, p, rfl, hb, hp, k⟩ := h
    refine ⟨_, pss_cons (ps_set (i := 2) sc_ra.nd rfl (Or.inl rfl) pe_int)
      (pss_cons (ps_while PassesOwn.leaving (pt_cmpR op_gt (pv 1) pe_int (nomark _))
        (pss_cons (ps_if (pt_cmpR op_eq (pe_op op_mod (pv 1) pe_int) pe_int (nomark _)) (pss_one (ps_set (i := 2) sc_ra.nd rfl (Or.inl rfl) (pe_op op_mulB (pv 2) (pv 0)))) pss_nil)
        (pss_cons (ps_set (i := 0) sc_ra.nd rfl (Or.inl rfl) (pe_op op_mulB (pv 0) (pv 0)))
        (pss_one (ps_set (i := 1) sc_ra.nd rfl (Or.inl rfl) (pe_op op_fdiv (pv 1) pe_int))))))
      (pss_one (ps_ret (pv 2)))), ?_⟩
    refine while_by (fun σ H' => H' = H ∧ ∃ e q n : Nat, σ = [some (.int (b ^ e)), some (.int n), some (.int (b ^ q))] ∧ q + e * n = p) (fun σ _ => match σ with | [_, some (.int n), _] => n.toNat | _ => 0)
      ⟨rfl, 1, 0, p, (by show [some (V.int b), some (V.int p), some (V.int 1)] = _; rw [Int.pow_succ, Int.pow_zero, Int.one_mul]), by omega⟩ ?_ ?_
    · rintro σ H' ⟨rfl, e, q, n, rfl, g⟩
      refine ⟨_, rfl, _, _, rfl, rfl, _, rfl, ?_⟩
      refine ite2 (fun hn => ?_) (fun hn => ?_)
      · have hn0 : 0 < (n : Int) := by simpa using hn
        have he : e ≤ p := by
          have h1 : e * 1 ≤ e * n := Nat.mul_le_mul_left e (by omega)
          omega
        have hq : q ≤ p := by omega
        have sq : b ^ e * b ^ e = b ^ (e + e) := (Int.pow_add b e e).symm
        have hd : ((n : Int) / 2) = ((n / 2 : Nat) : Int) := by omega
        refine ⟨_, rfl, _, _, rfl, rfl, (by show (0 : Int) < 2; decide), rfl, _, rfl, ?_⟩
        refine ite2 (fun h1 => ?_) (fun h1 => ?_)
        · have hm : (n : Int) % 2 = 1 := by simpa using h1
          refine ⟨_, rfl, _, rfl, _, _, rfl, rfl, mulOk_pow hb (by omega) (by omega), _, rfl, _, rfl, _, _, rfl, rfl, mulOk_pow hb (by omega) (by omega), _, rfl, _, _, rfl, rfl, ⟨by decide, by decide⟩, ⟨rfl, e + e, q + e, n / 2, ?_, ?_⟩, ?_⟩
          · show [some (V.int (b ^ e * b ^ e)), some (V.int ((n : Int) / 2)), some (V.int (b ^ q * b ^ e))] = _
            rw [sq, hd, ← Int.pow_add]
          · have h2 : n = 2 * (n / 2) + 1 := by omega
            have h3 : e * n = (e + e) * (n / 2) + e := by
              conv => lhs; rw [h2]
              rw [Nat.mul_add, Nat.mul_one, ← Nat.mul_assoc, Nat.mul_comm e 2, Nat.two_mul]
            omega
          · show ((n : Int) / 2).toNat < (n : Int).toNat
            omega
        · have hm : ¬ (n : Int) % 2 = 1 := by simpa using h1
          refine ⟨_, rfl, _, rfl, _, _, rfl, rfl, mulOk_pow hb (by omega) (by omega), _, rfl, _, _, rfl, rfl, ⟨by decide, by decide⟩, ⟨rfl, e + e, q, n / 2, ?_, ?_⟩, ?_⟩
          · show [some (V.int (b ^ e * b ^ e)), some (V.int ((n : Int) / 2)), some (V.int (b ^ q))] = _
            rw [sq, hd]
          · have h2 : n = 2 * (n / 2) := by omega
            have h3 : e * n = (e + e) * (n / 2) := by
              conv => lhs; rw [h2]
              rw [← Nat.mul_assoc, Nat.mul_comm e 2, Nat.two_mul]
            omega
          · show ((n : Int) / 2).toNat < (n : Int).toNat
            omega
      · have hn0 : n = 0 := by
          have : ¬ (0 : Int) < n := by simpa using hn
          omega
        subst hn0
        have e1 : q = p := by omega
        subst e1
        exact ⟨_, rfl, k⟩
    · rintro σ H' Q1 Q2 hq ⟨v1, e1, z1⟩
      exact ⟨v1, e1, let ⟨i, j, a, b, c, d, e⟩ := z1; ⟨i, j, a, b, c, d, hq _ _ e⟩⟩
def prm : List Int := [2, 3, 5, 7]
def pw (x y : List Int) (k : Nat) : Int := y.getD k 0 * x.getD 4 0 - x.getD k 0 * y.getD 4 0
def prodA (x y : List Int) : Nat → Int
  | 0 => 1
  | i + 1 => if 0 < pw x y i then prodA x y i * prm.getD i 0 ^ (pw x y i).toNat else prodA x y i
def prodB (x y : List Int) : Nat → Int
  | 0 => 1
  | i + 1 => if 0 < pw x y i then prodB x y i else prodB x y i * prm.getD i 0 ^ (-pw x y i).toNat
def narrowL (x y : List Int) : Bool := decide (prodB x y 4 < prodA x y 4)
/-- five numbers within an interval's bounds -/
def Sm (l : List Int) : Prop := l.length = 5 ∧ (∀ k, k < 4 → (l.getD k 0).natAbs ≤ 99) ∧ 1 ≤ l.getD 4 0 ∧ l.getD 4 0 ≤ 24
theorem mul_abs_le {a b : Int} {m n : Nat} (h1 : a.natAbs ≤ m) (h2 : b.natAbs ≤ n) : (a * b).natAbs ≤ m * n := by rw [Int.natAbs_mul]; exact Nat.mul_le_mul h1 h2
theorem pw_le {x y : List Int} (hx : Sm x) (hy : Sm y) {k : Nat} (hk : k < 4) : (pw x y k).natAbs ≤ 4752 := by
  have h1 : (y.getD k 0 * x.getD 4 0).natAbs ≤ 99 * 24 := mul_abs_le (hy.2.1 k hk) (by have := hx.2.2; omega)
  have h2 : (x.getD k 0 * y.getD 4 0).natAbs ≤ 99 * 24 := mul_abs_le (hx.2.1 k hk) (by have := hy.2.2; omega)
  unfold pw
  omega
theorem prm_ok {i : Nat} (h : i < 4) : 0 ≤ prm.getD i 0 ∧ prm.getD i 0 ≤ 7 := by
  match i, h with
  | 0, _ => decide
  | 1, _ => decide
  | 2, _ => decide
  | 3, _ => decide
theorem bits_fac {x y : List Int} (hx : Sm x) (hy : Sm y) {i : Nat} (h : i < 4) (e : Nat) (he : e ≤ 4752) : intBits (prm.getD i 0 ^ e) ≤ 20000 :=
  Nat.le_trans (intBits_pow_le (bits7 (prm_ok h)) e) (by omega)
theorem bitsA {x y : List Int} (hx : Sm x) (hy : Sm y) : ∀ i, i ≤ 4 → intBits (prodA x y i) ≤ 1 + 20000 * i
  | 0, _ => (by decide : intBits (1 : Int) ≤ 1)
  | i + 1, h => by
    have ih := bitsA hx hy i (by omega)
    have hp := pw_le hx hy (k := i) (by omega)
    rw [prodA]
    split
    · exact Nat.le_trans (intBits_mul_le ih (bits_fac hx hy (by omega) _ (by omega))) (by omega)
    · exact Nat.le_trans ih (by omega)
theorem bitsB {x y : List Int} (hx : Sm x) (hy : Sm y) : ∀ i, i ≤ 4 → intBits (prodB x y i) ≤ 1 + 20000 * i
  | 0, _ => (by decide : intBits (1 : Int) ≤ 1)
  | i + 1, h => by
    have ih := bitsB hx hy i (by omega)
    have hp := pw_le hx hy (k := i) (by omega)
    rw [prodB]
    split
    · exact Nat.le_trans ih (by omega)
    · exact Nat.le_trans (intBits_mul_le ih (bits_fac hx hy (by omega) _ (by omega))) (by omega)
theorem prm_at {i : Nat} (h : i < 4) : (prm.map V.int)[i]? = some (.int (prm.getD i 0)) := by
  match i, h with
  | 0, _ => rfl
  | 1, _ => rfl
  | 2, _ => rfl
  | 3, _ => rfl
def spNr (K : PySem.W.Frag) : Sp := fun vs H Q _ => ∃ (ax ay : Addr) (x y : List Int), vs = [.ref ax, .ref ay] ∧ SqT K H ax (x.map V.int) ∧ SqT K H ay (y.map V.int) ∧ Sm x ∧ Sm y ∧ ∀ H', Same H H' → Q (.bl (narrowL x y)) H'
theorem sc_nr : FnScope ["x", "y", "above", "below", "k", "prime", "power"] ["x", "y"] (defScope s_narrower) := ⟨rfl, rfl, rfl, by decide +kernel, rfl, by decide +kernel, by decide +kernel⟩
theorem ok_nr {f : Addr} {fd : FuncData} (F : Fun K "narrower" "narrower" s_narrower f fd) (B : Blt mg) (gp : GT K mg "PRIMES" (prm.map V.int)) (D1 : Def P w K mg base 1 "raised" ["base", "power"] spRa) :
    FnOk P w K mg base (CX1 P w) 2 f fd ["x", "y"] (spNr K) := by
  refine F.okx sc_nr (fun vs H Q E h => ?_) (fun cdv A outer s H vs Q E hr h => ?_)
  · obtain ⟨ax, ay, x, y, rfl, _⟩ := h
    rfl
  · obtain ⟨ax, ay, x, y, rfl, hx, hy, sx, sy, k⟩ := h
    refine ⟨_, pss_cons (ps_set (i := 2) sc_nr.nd rfl (Or.inl rfl) pe_int) (pss_cons (ps_set (i := 3) sc_nr.nd rfl (Or.inl rfl) pe_int)
      (pss_cons (ps_for PassesOwn.leaving rfl (pi_enumT (by rfl) B.enum (pa_cons (pe_gt gp) pa_nil)) (pg_tup rfl (pgs_cons (pg_name (i := 4) sc_nr.nd rfl (Or.inl rfl)) (pgs_cons (pg_name (i := 5) sc_nr.nd rfl (Or.inl rfl)) pgs_nil)))
        (pss_cons (ps_set (i := 6) sc_nr.nd rfl (Or.inl rfl) (pe_op op_sub (pe_op op_mul (pe_ix ix_tup (pv 1) (pv 4) (fun _ _ => rfl)) (pe_ix ix_tup (pv 0) pe_int (fun _ _ => rfl))) (pe_op op_mul (pe_ix ix_tup (pv 0) (pv 4) (fun _ _ => rfl)) (pe_ix ix_tup (pv 1) pe_int (fun _ _ => rfl)))))
        (pss_one (ps_if (pt_cmpR op_gt (pv 6) pe_int (nomark _))
          (pss_one (ps_set (i := 2) sc_nr.nd rfl (Or.inl rfl) (pe_op op_mulB (pv 2) (D1.call hr out_cx (pa_cons (pv 5) (pa_cons (pv 6) pa_nil))))))
          (pss_one (ps_set (i := 3) sc_nr.nd rfl (Or.inl rfl) (pe_op op_mulB (pv 3) (D1.call hr out_cx (pa_cons (pv 5) (pa_cons (pe_un un_neg (pv 6)) pa_nil)))))))))) 
      (pss_one (ps_ret (pe_cmpR op_gt (pv 2) (pv 3) (nomark _)))))), ?_⟩
    intro pa hpa
    refine ⟨pa, prm.map V.int, rfl, hpa _, for_any (n := 4) (fun i σ H' => Same H H' ∧ ∃ r4 r5 r6, σ = [some (.ref ax), some (.ref ay), some (.int (prodA x y i)), some (.int (prodB x y i)), r4, r5, r6]) ⟨Same.refl _, none, none, none, rfl⟩ ?_ ?_ ?_ ?_⟩
    · rintro i σ H' hi _
      exact ⟨prm.map V.int, .int (prm.getD i 0), hpa H', prm_at hi⟩
    · rintro σ H' _
      exact ⟨prm.map V.int, hpa H', rfl⟩
    · rintro i v σ H1 H2 hi ⟨s1, r4, r5, r6, rfl⟩ ⟨T, xv, rfl, nT, rfl, hxv⟩
      have hxv' := hxv _ (hpa H1)
      have exv : xv = .int (prm.getD i 0) := Option.some.inj (hxv'.symm.trans (prm_at hi))
      subst exv
      have s2 : Same H (upd H1 T (.tup [.int (i : Nat), .int (prm.getD i 0)])) := s1.trans (Same.upd nT)
      have b1 := sx.2.1 i hi
      have b2 := sy.2.1 i hi
      have b3 := sx.2.2
      have b4 := sy.2.2
      refine ⟨T, _, rfl, SqT.of upd_same, rfl, _, _, rfl, _, _, rfl, rfl, ?_⟩
      refine ⟨_, rfl, _, rfl, ay, _, _, _, rfl, rfl, s2.tup hy, at_map (i := i) rfl (by rw [sy.1]; omega), _, rfl, ax, _, _, _, rfl, rfl, s2.tup hx, at_map (i := 4) rfl (by rw [sx.1]; decide), _, _, rfl, rfl, .inl ⟨by omega, by omega⟩,
        _, rfl, _, rfl, ax, _, _, _, rfl, rfl, s2.tup hx, at_map (i := i) rfl (by rw [sx.1]; omega), _, rfl, ay, _, _, _, rfl, rfl, s2.tup hy, at_map (i := 4) rfl (by rw [sy.1]; decide), _, _, rfl, rfl, .inl ⟨by omega, by omega⟩, _, _, rfl, rfl, ?_⟩
      have hp := pw_le sx sy hi
      have ep : y.getD i 0 * x.getD 4 0 - x.getD i 0 * y.getD 4 0 = pw x y i := rfl
      refine ⟨V.int (pw x y i), rfl, pw x y i, 0, rfl, rfl, _, rfl, ite2 (fun h => ?_) (fun h => ?_)⟩
      · have h0 : 0 < pw x y i := by simpa using h
        refine ⟨_, rfl, _, rfl, V.int (pw x y i), rfl, prm.getD i 0, (pw x y i).toNat, ?_, prm_ok hi, by omega, _, _, rfl, rfl, ?_, s2, some (.int i), some (.int (prm.getD i 0)), some (.int (pw x y i)), ?_⟩
        · rw [Int.toNat_of_nonneg (by omega)]; rfl
        · exact .of_le (bitsA sx sy i (by omega)) (bits_fac sx sy hi _ (by omega)) (by omega)
        · rw [prodA, prodB, if_pos h0, if_pos h0]; rfl
      · have h0 : ¬ 0 < pw x y i := by simpa using h
        refine ⟨_, rfl, _, rfl, V.int (pw x y i), rfl, pw x y i, rfl, prm.getD i 0, (-pw x y i).toNat, ?_, prm_ok hi, by omega, _, _, rfl, rfl, ?_, s2, some (.int i), some (.int (prm.getD i 0)), some (.int (pw x y i)), ?_⟩
        · rw [Int.toNat_of_nonneg (by omega)]; rfl
        · exact .of_le (bitsB sx sy i (by omega)) (bits_fac sx sy hi _ (by omega)) (by omega)
        · rw [prodA, prodB, if_neg h0, if_neg h0]; rfl
    · rintro σ H' ⟨s1, r4, r5, r6, rfl⟩
      exact ⟨_, rfl, _, rfl, _, _, rfl, rfl, k _ s1⟩
end
end Lt
end
section
set_option Elab.async false
set_option linter.all false
set_option maxRecDepth 100000
set_option maxHeartbeats 400000
namespace Lt
open PySem PySem.Spec PyProof.Rows L2
/-- behind an exception's __init__ -/
def Born (H : Hp) (a C : Addr) (fs : List (Str × V)) (H' : Hp) : Prop := (∃ d, d ≠ a ∧ H d = none ∧ H' a = some (XoO a C (some d) .none none) ∧ H' d = some (XdO d fs)) ∧ ∀ b o, H b = some o → b ≠ a → H' b = some o
def spTF (C : Addr) : Sp := fun vs H Q _ => ∃ (a : Addr) (p : Int), vs = [.ref a, .int p] ∧ H a = some (XoO a C none .none none) ∧ ∀ H', Born H a C [("place", .int p)] H' → Q .non H'
def spRf (K : PySem.W.Frag) : Sp := fun vs H Q _ => ∃ (a C : Addr) (n : Int), vs = [.ref a, .int n] ∧ H a = some (XoO a C none .none none) ∧ XCls K C ∧ NoAttr K C "answer" ∧ ∀ H', Born H a C [("answer", .int n)] H' → Q .non H'
def spR0 (C : Addr) (n : Int) : Sp := fun vs H Q _ => ∃ (a : Addr), vs = [.ref a] ∧ H a = some (XoO a C none .none none) ∧ ∀ H', Born H a C [("answer", .int n)] H' → Q .non H'
def spMf (C : Addr) : Sp := fun vs H Q _ => ∃ (a : Addr) (l c : Int), vs = [.ref a, .int l, .int c] ∧ H a = some (XoO a C none .none none) ∧ ∀ H', Born H a C [("answer", .int (-3)), ("line", .int l), ("course", .int c)] H' → Q .non H'
section
variable {P : Program} {w : World} {K : PySem.W.Frag} {mg : Str → Option Value} {base : Heap}
theorem sc_tf : FnScope ["self", "place"] ["self", "place"] (defScope s_TextFault_init) := ⟨rfl, rfl, rfl, by decide +kernel, rfl, by decide +kernel, by decide +kernel⟩
theorem ok_tf {f C : Addr} {fd : FuncData} (F : Fun K "__init__" "TextFault.__init__" s_TextFault_init f fd) (xc : XCls K C) (na : NoAttr K C "place") : FnOkU P w K mg base (CX1 P w) 1 f fd ["self", "place"] (spTF C) := by
  refine F.oku sc_tf (fun vs H Q E h => ?_) (fun cdv A outer s H vs Q E hr h => ?_)
  · obtain ⟨a, p, rfl, _⟩ := h
    rfl
  · obtain ⟨a, p, rfl, ea, k⟩ := h
    refine ⟨_, pss_one (ps_xfld0 (pv 0) (pv 1) rfl), ?_⟩
    refine ⟨_, rfl, _, rfl, a, C, _, _, rfl, ea, xc, na, fun d hd hn => k _ ⟨⟨d, hn, hd, upd_same, by rw [upd_ne hn, upd_same]⟩, fun b o e hb => ?_⟩⟩
    rw [upd_ne hb, upd_ne (ne_of_none e hd)]
    exact e
theorem sc_rf : FnScope ["self", "answer"] ["self", "answer"] (defScope s_Refusal_init) := ⟨rfl, rfl, rfl, by decide +kernel, rfl, by decide +kernel, by decide +kernel⟩
theorem ok_rf {f : Addr} {fd : FuncData} (F : Fun K "__init__" "Refusal.__init__" s_Refusal_init f fd) : FnOkU P w K mg base (CX1 P w) 1 f fd ["self", "answer"] (spRf K) := by
  refine F.oku sc_rf (fun vs H Q E h => ?_) (fun cdv A outer s H vs Q E hr h => ?_)
  · obtain ⟨a, C, n, rfl, _⟩ := h
    rfl
  · obtain ⟨a, C, n, rfl, ea, xc, na, k⟩ := h
    refine ⟨_, pss_one (ps_xfld0 (pv 0) (pv 1) rfl), ?_⟩
    refine ⟨_, rfl, _, rfl, a, C, _, _, rfl, ea, xc, na, fun d hd hn => k _ ⟨⟨d, hn, hd, upd_same, by rw [upd_ne hn, upd_same]⟩, fun b o e hb => ?_⟩⟩
    rw [upd_ne hb, upd_ne (ne_of_none e hd)]
    exact e
/-- Refusal's own __init__, called by its class's name -/
structure RfI (P : Program) (w : World) (K : PySem.W.Frag) (mg : Str → Option Value) (base : Heap) (CR f : Addr) (fd : FuncData) : Prop where
  mgR : mg "Refusal" = some (.ref CR)
  sp : PySem.W.specialIn K (.ref CR) "__getattribute__" = some (some (.builtin "type.__getattribute__"))
  rd : PySem.W.readsIn K CR (.type "type") = true
  fc : PySem.W.findCls K (.ref CR) (.type "type") "__init__" = some (.val (.ref f))
  kp : PySem.W.keepIn K (.ref f) = true
  bd : Binds K fd ["self", "answer"] []
  ok : FnOkU P w K mg base (CX1 P w) 1 f fd ["self", "answer"] (spRf K)
theorem sc_TooLong : FnScope ["self"] ["self"] (defScope s_TooLong_init) := ⟨rfl, rfl, rfl, by decide +kernel, rfl, by decide +kernel, by decide +kernel⟩
theorem ok_TooLong {f C CR fR : Addr} {fd fdR : FuncData} (F : Fun K "__init__" "TooLong.__init__" s_TooLong_init f fd) (R : RfI P w K mg base CR fR fdR) (xc : XCls K C) (na : NoAttr K C "answer") : FnOkU P w K mg base (CX1 P w) 2 f fd ["self"] (spR0 C (-2)) := by
  refine F.oku sc_TooLong (fun vs H Q E h => ?_) (fun cdv A outer s H vs Q E hr h => ?_)
  · obtain ⟨a, rfl, _⟩ := h
    rfl
  · obtain ⟨a, rfl, ea, k⟩ := h
    refine ⟨_, pss_one (ps_expr (pe_clsm (mc := .type "type") (by rfl) R.mgR R.sp R.rd R.fc R.kp R.ok hr R.bd out_cxU.passes (pa_cons (pv 0) (pa_cons (pe_un un_neg pe_int) pa_nil)))), ?_⟩
    exact ⟨_, rfl, _, rfl, a, C, -2, rfl, ea, xc, na, fun H' hb' => k H' hb'⟩
theorem sc_NoInstrument : FnScope ["self"] ["self"] (defScope s_NoInstrument_init) := ⟨rfl, rfl, rfl, by decide +kernel, rfl, by decide +kernel, by decide +kernel⟩
theorem ok_NoInstrument {f C CR fR : Addr} {fd fdR : FuncData} (F : Fun K "__init__" "NoInstrument.__init__" s_NoInstrument_init f fd) (R : RfI P w K mg base CR fR fdR) (xc : XCls K C) (na : NoAttr K C "answer") : FnOkU P w K mg base (CX1 P w) 2 f fd ["self"] (spR0 C (-6)) := by
  refine F.oku sc_NoInstrument (fun vs H Q E h => ?_) (fun cdv A outer s H vs Q E hr h => ?_)
  · obtain ⟨a, rfl, _⟩ := h
    rfl
  · obtain ⟨a, rfl, ea, k⟩ := h
    refine ⟨_, pss_one (ps_expr (pe_clsm (mc := .type "type") (by rfl) R.mgR R.sp R.rd R.fc R.kp R.ok hr R.bd out_cxU.passes (pa_cons (pv 0) (pa_cons (pe_un un_neg pe_int) pa_nil)))), ?_⟩
    exact ⟨_, rfl, _, rfl, a, C, -6, rfl, ea, xc, na, fun H' hb' => k H' hb'⟩
theorem sc_NoPiece : FnScope ["self"] ["self"] (defScope s_NoPiece_init) := ⟨rfl, rfl, rfl, by decide +kernel, rfl, by decide +kernel, by decide +kernel⟩
theorem ok_NoPiece {f C CR fR : Addr} {fd fdR : FuncData} (F : Fun K "__init__" "NoPiece.__init__" s_NoPiece_init f fd) (R : RfI P w K mg base CR fR fdR) (xc : XCls K C) (na : NoAttr K C "answer") : FnOkU P w K mg base (CX1 P w) 2 f fd ["self"] (spR0 C (-8)) := by
  refine F.oku sc_NoPiece (fun vs H Q E h => ?_) (fun cdv A outer s H vs Q E hr h => ?_)
  · obtain ⟨a, rfl, _⟩ := h
    rfl
  · obtain ⟨a, rfl, ea, k⟩ := h
    refine ⟨_, pss_one (ps_expr (pe_clsm (mc := .type "type") (by rfl) R.mgR R.sp R.rd R.fc R.kp R.ok hr R.bd out_cxU.passes (pa_cons (pv 0) (pa_cons (pe_un un_neg pe_int) pa_nil)))), ?_⟩
    exact ⟨_, rfl, _, rfl, a, C, -8, rfl, ea, xc, na, fun H' hb' => k H' hb'⟩
theorem sc_mf : FnScope ["self", "line", "course"] ["self", "line", "course"] (defScope s_Misfit_init) := ⟨rfl, rfl, rfl, by decide +kernel, rfl, by decide +kernel, by decide +kernel⟩
theorem ok_mf {f C CR fR : Addr} {fd fdR : FuncData} (F : Fun K "__init__" "Misfit.__init__" s_Misfit_init f fd) (R : RfI P w K mg base CR fR fdR) (xc : XCls K C) (na : NoAttr K C "answer") (nl : NoAttr K C "line") (nc : NoAttr K C "course") :
    FnOkU P w K mg base (CX1 P w) 2 f fd ["self", "line", "course"] (spMf C) := by
  refine F.oku sc_mf (fun vs H Q E h => ?_) (fun cdv A outer s H vs Q E hr h => ?_)
  · obtain ⟨a, l, c, rfl, _⟩ := h
    rfl
  · obtain ⟨a, l, c, rfl, ea, k⟩ := h
    refine ⟨_, pss_cons (ps_expr (pe_clsm (mc := .type "type") (by rfl) R.mgR R.sp R.rd R.fc R.kp R.ok hr R.bd out_cxU.passes (pa_cons (pv 0) (pa_cons (pe_un un_neg pe_int) pa_nil))))
      (pss_cons (ps_xfld (pv 0) (pv 1) rfl) (pss_one (ps_xfld (pv 0) (pv 2) rfl))), ?_⟩
    refine ⟨_, rfl, _, rfl, a, C, -3, rfl, ea, xc, na, fun H' ⟨⟨d, dn, d0, e1, e2⟩, kp⟩ => ?_⟩
    refine ⟨_, rfl, _, rfl, a, C, d, _, _, _, rfl, e1, e2, dn, xc, nl, by decide, ?_⟩
    refine ⟨_, rfl, _, rfl, a, C, d, _, _, _, rfl, (by rw [upd_ne (Ne.symm dn)]; exact e1), upd_same, dn, xc, nc, (Nat.lt_of_le_of_lt (length_putF _ _ _) (by show 1 + 1 < 1000; decide)), ?_⟩
    refine k _ ⟨⟨d, dn, d0, (by rw [upd_ne (Ne.symm dn), upd_ne (Ne.symm dn)]; exact e1), upd_same⟩, fun b o e hb => ?_⟩
    have nd : b ≠ d := ne_of_none e d0
    rw [upd_ne nd, upd_ne nd]
    exact kp b o e hb
end
/-- a value known by K0 -/
def tWk (te : TE) (K0 : VK) : TE := fun σ H Q => te σ H K0 ∧ ∀ x H1, K0 x H1 → Q x H1
theorem pe_wk {X : Cx} {e : Expr} {te : TE} {K0 : VK} (he : PE X e te) : PE X e (tWk te K0) := fun pins s σ H Q I ⟨h, k⟩ => thn (he pins s σ H K0 I h) fun u s1 ⟨v, H1, I1, r, q⟩ => ⟨v, H1, I1, r, k v H1 q⟩
/-- raise TextFault(e) -/
def tFault (CT : Addr) (E : XK) (te : TE) : TS := fun _ σ H => te σ H fun x H1 => ∃ z : Int, x = .int z ∧ E (.ref CT) none (xH [("place", .int z)])
abbrev TFm (P : Program) (w : World) (K : PySem.W.Frag) (mg : Str → Option Value) (base : Heap) (CT : Addr) : Prop := XMr P w K mg base 1 CT "TextFault" ["self", "place"] (spTF CT)
theorem ps_fault {X : Cx} {CT : Addr} {E : XK} {e : Expr} {te : TE} {p pos pos' : Pos} {k' : Nat} (T : TFm X.prog X.w X.K X.mg X.base CT) (hr : Room k' X.A) (o : Out X E) (hc : X.calm = true) (he : PE X e te) (hk : 2 ≤ k' := by decide) (hg : Gl X "TextFault" := by rfl)
    (hs : starEach [e] X.env = (false, eval e X.env) :: starEach [] X.env := by rfl) : PS X (.Raise (some (.Call (.Name "TextFault" p) [e] [] pos')) none pos) (tFault CT E te) := by
  have q := ps_raise (pos := pos) o hc (T.call (pos := pos') (p := p) hr.u o (pa_cons (pe_wk (K0 := fun x _ => ∃ z : Int, x = .int z ∧ E (.ref CT) none (xH [("place", .int z)])) he) pa_nil hs) hk hg (he := hs))
  intro pins s σ H D I h
  refine q pins s σ H D I ⟨h, fun v H' ⟨z, ev, hE⟩ => ⟨(by show 1 ≤ 100; decide), fun a ha => ⟨a, z, by subst ev; rfl, upd_same, fun H2 ⟨⟨d, dn, d0, e1, e2⟩, _⟩ => ⟨rfl, a, CT, _, rfl, ⟨d, dn, e1, e2⟩, T.2.1, hE⟩⟩⟩⟩
end Lt
end
section
set_option Elab.async false
set_option linter.all false
set_option maxRecDepth 100000
set_option maxHeartbeats 400000
namespace Lt
open PySem PySem.Spec PyProof.Rows L2
def idxI (l : List Nat) (b : Int) : Option Nat := l.findIdx? fun (c : Nat) => decide ((c : Int) = b)
def idxV (l : List Nat) (b : Int) : V := match idxI l b with
  | some n => .int (n : Nat)
  | none => .non
theorem idxI_none_of {l : List Nat} {b : Int} (h : ∀ (i c : Nat), l[i]? = some c → ¬ (c : Int) = b) : idxI l b = none := by
  unfold idxI
  rw [List.findIdx?_eq_none_iff]
  intro c hc
  obtain ⟨i, hi⟩ := List.getElem?_of_mem hc
  exact decide_eq_false (h i c hi)
theorem idxI_some_of {l : List Nat} {b : Int} {i c : Nat} (hi : l[i]? = some c) (hc : (c : Int) = b) (h : ∀ (j d : Nat), j < i → l[j]? = some d → ¬ (d : Int) = b) : idxI l b = some i := by
  unfold idxI
  rw [List.findIdx?_eq_some_iff_getElem]
  obtain ⟨hlt, e⟩ := List.getElem?_eq_some_iff.mp hi
  refine ⟨hlt, by rw [e]; exact decide_eq_true hc, fun j hj => ?_⟩
  have := h j l[j] hj (List.getElem?_eq_getElem (Nat.lt_trans hj hlt))
  simpa using this
def spSN : Sp := fun vs H Q _ => ∃ (z : Str) (b : Int), vs = [.str z, .int b] ∧ ∀ H', Same H H' → Q (idxV z.cps.toList b) H'
section
variable {P : Program} {w : World} {K : PySem.W.Frag} {mg : Str → Option Value} {base : Heap}
theorem sc_sn : FnScope ["signs", "byte", "number", "sign"] ["signs", "byte"] (defScope s_sign_number) := ⟨rfl, rfl, rfl, by decide +kernel, rfl, by decide +kernel, by decide +kernel⟩
theorem ok_sn {f : Addr} {fd : FuncData} (F : Fun K "sign_number" "sign_number" s_sign_number f fd) (B : Blt mg) : FnOk P w K mg base (CX1 P w) 1 f fd ["signs", "byte"] spSN := by
  refine F.okx sc_sn (fun vs H Q E h => ?_) (fun cdv A outer s H vs Q E hr h => ?_)
  · obtain ⟨z, b, rfl, _⟩ := h
    rfl
  · obtain ⟨z, b, rfl, k⟩ := h
    refine ⟨_, pss_cons (ps_for PassesOwn.leaving rfl (pi_enumS (by rfl) B.enum (pa_cons (pv 0) pa_nil)) (pg_tup rfl (pgs_cons (pg_name (i := 2) sc_sn.nd rfl (Or.inl rfl)) (pgs_cons (pg_name (i := 3) sc_sn.nd rfl (Or.inl rfl)) pgs_nil)))
        (pss_one (ps_if (pt_cmpR op_eq (pe_callB call_ord (by rfl) B.ord boot_ord (pa_cons (pv 3) pa_nil)) (pv 1) (nomark _)) (pss_one (ps_ret (pv 2))) pss_nil)))
      (pss_one (ps_ret pe_non)), ?_⟩
    refine ⟨_, rfl, z, rfl, for_any (n := z.cps.size) (fun i σ H' => Same H H' ∧ (∃ r2 r3, σ = [some (.str z), some (.int b), r2, r3]) ∧ ∀ (j d : Nat), j < i → z.cps.toList[j]? = some d → ¬ (d : Int) = b) ⟨Same.refl _, ⟨none, none, rfl⟩, fun j d hj => by omega⟩ ?_ ?_ ?_ ?_⟩
    · rintro i σ H' hi _
      exact hi
    · rintro σ H' _
      exact rfl
    · rintro i v σ H1 H2 hi ⟨s1, ⟨r2, r3, rfl⟩, hb⟩ ⟨T, c, rfl, nT, hc, rfl⟩
      have s2 : Same H (upd H1 T (.tup [.int (i : Nat), .str ⟨#[c]⟩])) := s1.trans (Same.upd nT)
      have hcl : z.cps.toList[i]? = some c := by rw [Array.getElem?_toList]; exact hc
      refine ⟨T, _, rfl, SqT.of upd_same, rfl, _, _, rfl, _, _, rfl, rfl, ?_⟩
      refine ⟨_, rfl, _, rfl, rfl, _, rfl, rfl, _, rfl, ite2 (fun h => ?_) (fun h => ?_)⟩
      · have h0 : (c : Int) = b := by
          have q := of_decide_eq_true h
          injection q
        refine ⟨_, rfl, ?_⟩
        have q := k _ s2
        unfold idxV at q
        rw [idxI_some_of hcl h0 hb] at q
        exact q
      · have h0 : ¬ (c : Int) = b := fun q => h (decide_eq_true (by rw [← q]; rfl))
        refine ⟨s2, ⟨_, _, rfl⟩, fun j d hj hd => ?_⟩
        by_cases hji : j = i
        · subst hji
          rw [hcl] at hd
          cases hd
          exact h0
        · exact hb j d (by omega) hd
    · rintro σ H' ⟨s1, ⟨r2, r3, rfl⟩, hb⟩
      have q := k _ s1
      unfold idxV at q
      rw [idxI_none_of fun i c hi => hb i c (by have := (List.getElem?_eq_some_iff.mp hi).1; rw [Array.length_toList] at this; exact this) hi] at q
      exact q
end
def cV (c : UInt8) : V := .int (c.toNat : Nat)
def rf (ta : Addr) (p e : Int) : List (Str × V) := [("text", .ref ta), ("place", .int p), ("end", .int e)]
/-- the Reader at r stands before rest, in the text cs at ta, up to e -/
structure Rd (K : PySem.W.Frag) (CR : Addr) (H : Hp) (r ta : Addr) (cs : List UInt8) (e : Nat) (rest : List UInt8) : Prop where
  at_ : ∃ (dx : Addr) (p : Nat), H r = some (.ins CR dx (rf ta p e)) ∧ rest = (cs.take e).drop p ∧ p ≤ e
  tx : SqL K H ta (cs.map cV)
  le : e ≤ cs.length
theorem Sb.lst {K : PySem.W.Frag} {H H' : Hp} {r a C dx : Addr} {fs : List (Str × V)} {xs : List V} (s : Sb r H H') (hr : H r = some (.ins C dx fs)) (h : SqL K H a xs) : SqL K H' a xs := by
  rcases h with (h | ⟨o, h⟩) | h
  · exact .inl (.inl (s _ _ h (ne_of h hr (by intro z; cases z))))
  · exact .inl (.inr ⟨o, s _ _ h (ne_of h hr (by intro z; cases z))⟩)
  · exact .inr h
theorem rest_nil {cs : List UInt8} {e p : Nat} (h : [] = (cs.take e).drop p) (hp : p ≤ e) (he : e ≤ cs.length) : p = e := by
  have := congrArg List.length h
  rw [List.length_drop, List.length_take] at this
  simp at this
  omega
theorem rest_cons {cs t : List UInt8} {c : UInt8} {e p : Nat} (h : c :: t = (cs.take e).drop p) (hp : p ≤ e) (he : e ≤ cs.length) : p < e ∧ cs[p]? = some c ∧ t = (cs.take e).drop (p + 1) := by
  have hl := congrArg List.length h
  rw [List.length_drop, List.length_take, List.length_cons] at hl
  have hlt : p < e := by omega
  have h0 : (c :: t)[0]? = ((cs.take e).drop p)[0]? := by rw [h]
  rw [List.getElem?_drop, List.getElem?_take] at h0
  simp [hlt] at h0
  refine ⟨hlt, h0.symm, ?_⟩
  have h1 : (c :: t).drop 1 = ((cs.take e).drop p).drop 1 := by rw [h]
  rw [List.drop_drop] at h1
  exact h1
def bt : List UInt8 → Int
  | [] => 256
  | c :: _ => (c.toNat : Nat)
/-- what a reading def does: the value, what is left; or a fault -/
def Got {α : Type} (K : PySem.W.Frag) (CR CT r ta : Addr) (cs : List UInt8) (e : Nat) (H : Hp) (Q : VK) (E : XK) (enc : α → V) : Option (α × List UInt8) → Prop
  | some (v, rest') => ∀ H', Rd K CR H' r ta cs e rest' → Sb r H H' → Q (enc v) H'
  | none => ∀ z : Int, E (.ref CT) none (xH [("place", .int z)])
/-- of the signs: which one stands in front -/
def pk (z : Str) : List UInt8 → Option (Nat × List UInt8)
  | [] => none
  | c :: t => (idxI z.cps.toList (c.toNat : Nat)).map (·, t)
theorem pk_cons (z : Str) (c : UInt8) (t : List UInt8) : pk z (c :: t) = (idxI z.cps.toList (c.toNat : Nat)).map (·, t) := rfl
def OkS (z : Str) : Prop := ∀ c ∈ z.cps.toList, c < 256
theorem idx256 {z : Str} (h : OkS z) : idxI z.cps.toList 256 = none := idxI_none_of fun i c hi q => by
  have := h c (List.mem_of_getElem? hi)
  omega
def see (z : Str) : List UInt8 → Bool
  | [] => false
  | c :: _ => (idxI z.cps.toList (c.toNat : Nat)).isSome
def int_ (n : Nat) : V := .int (n : Nat)
def spRI (C : Addr) : Sp := fun vs H Q _ => ∃ (r dx ta : Addr) (p e : Int), vs = [.ref r, .ref ta, .int p, .int e] ∧ H r = some (.ins C dx []) ∧ ∀ H', H' r = some (.ins C dx (rf ta p e)) → Sb r H H' → Q .non H'
def spEnd (K : PySem.W.Frag) (C : Addr) : Sp := fun vs H Q _ => ∃ (r ta : Addr) (cs : List UInt8) (e : Nat) (rest : List UInt8), vs = [.ref r] ∧ Rd K C H r ta cs e rest ∧ Q (.bl rest.isEmpty) H
def spByte (K : PySem.W.Frag) (C : Addr) : Sp := fun vs H Q _ => ∃ (r ta : Addr) (cs : List UInt8) (e : Nat) (rest : List UInt8), vs = [.ref r] ∧ Rd K C H r ta cs e rest ∧ Q (.int (bt rest)) H
def spSees (K : PySem.W.Frag) (C : Addr) : Sp := fun vs H Q _ => ∃ (r ta : Addr) (cs : List UInt8) (e : Nat) (rest : List UInt8) (z : Str), vs = [.ref r, .str z] ∧ Rd K C H r ta cs e rest ∧ OkS z ∧ ∀ H', Same H H' → Q (.bl (see z rest)) H'
def spPick (K : PySem.W.Frag) (C CT : Addr) : Sp := fun vs H Q E => ∃ (r ta : Addr) (cs : List UInt8) (e : Nat) (rest : List UInt8) (z : Str), vs = [.ref r, .str z] ∧ Rd K C H r ta cs e rest ∧ OkS z ∧ Got K C CT r ta cs e H Q E int_ (pk z rest)
theorem Rd.same {K : PySem.W.Frag} {C r ta : Addr} {H H' : Hp} {cs rest : List UInt8} {e : Nat} (R : Rd K C H r ta cs e rest) (s : Same H H') : Rd K C H' r ta cs e rest :=
  let ⟨⟨dx, p, h, q⟩, t, l⟩ := R; ⟨⟨dx, p, s _ _ h, q⟩, s.seq t, l⟩
section
variable {P : Program} {w : World} {K : PySem.W.Frag} {mg : Str → Option Value} {base : Heap}
structure RdC (K : PySem.W.Frag) (C : Addr) : Prop where
  cl : Cls K C
  nt : NoAttr K C "text"
  np : NoAttr K C "place"
  ne : NoAttr K C "end"
theorem rf_t (ta : Addr) (p e : Int) : (rf ta p e).lookup ("text" : Str) = some (.ref ta) := rfl
theorem rf_p (ta : Addr) (p e : Int) : (rf ta p e).lookup ("place" : Str) = some (.int p) := rfl
theorem rf_e (ta : Addr) (p e : Int) : (rf ta p e).lookup ("end" : Str) = some (.int e) := rfl
theorem rf_no (ta : Addr) (p e : Int) {m : Str} (h1 : (m == "text") = false) (h2 : (m == "place") = false) (h3 : (m == "end") = false) : (rf ta p e).lookup m = none := by
  unfold rf
  simp only [List.lookup, h1, h2, h3]
theorem sc_ri : FnScope ["self", "text", "place", "end"] ["self", "text", "place", "end"] (defScope s_Reader_init) := ⟨rfl, rfl, rfl, by decide +kernel, rfl, by decide +kernel, by decide +kernel⟩
theorem ok_ri {f C : Addr} {fd : FuncData} (F : Fun K "__init__" "Reader.__init__" s_Reader_init f fd) (T : RdC K C) : FnOk P w K mg base (CX1 P w) 1 f fd ["self", "text", "place", "end"] (spRI C) := by
  refine F.okx sc_ri (fun vs H Q E h => ?_) (fun cdv A outer s H vs Q E hr h => ?_)
  · obtain ⟨r, dx, ta, p, e, rfl, _⟩ := h
    rfl
  · obtain ⟨r, dx, ta, p, e, rfl, hr', k⟩ := h
    refine ⟨_, pss_cons (ps_fld (pv 0) (pv 1) rfl) (pss_cons (ps_fld (pv 0) (pv 2) rfl) (pss_one (ps_fld (pv 0) (pv 3) rfl))), ?_⟩
    refine ⟨_, rfl, _, rfl, r, C, dx, [], rfl, hr', T.cl, T.nt, (by decide), ?_⟩
    refine ⟨_, rfl, _, rfl, r, C, dx, _, rfl, upd_same, T.cl, T.np, (by show 1 < 1000; decide), ?_⟩
    refine ⟨_, rfl, _, rfl, r, C, dx, _, rfl, upd_same, T.cl, T.ne, (by show 2 < 1000; decide), ?_⟩
    exact k _ upd_same fun b o e hb => by rw [upd_ne hb, upd_ne hb, upd_ne hb]; exact e
theorem sc_en : FnScope ["self"] ["self"] (defScope s_Reader_ended) := ⟨rfl, rfl, rfl, by decide +kernel, rfl, by decide +kernel, by decide +kernel⟩
theorem ok_en {f C : Addr} {fd : FuncData} (F : Fun K "ended" "Reader.ended" s_Reader_ended f fd) (T : RdC K C) : FnOk P w K mg base (CX1 P w) 1 f fd ["self"] (spEnd K C) := by
  refine F.okx sc_en (fun vs H Q E h => ?_) (fun cdv A outer s H vs Q E hr h => ?_)
  · obtain ⟨r, ta, cs, e, rest, rfl, _⟩ := h
    rfl
  · obtain ⟨r, ta, cs, e, rest, rfl, ⟨⟨dx, p, h1, h2, h3⟩, tx, le⟩, k⟩ := h
    refine ⟨_, pss_one (ps_ret (pe_cmpR op_ge (pe_fld (pv 0) rfl) (pe_fld (pv 0) rfl) (nomark _))), ?_⟩
    refine ⟨_, rfl, r, C, dx, _, _, rfl, h1, T.cl, T.np, rf_p _ _ _, _, rfl, r, C, dx, _, _, rfl, h1, T.cl, T.ne, rf_e _ _ _, _, _, rfl, rfl, ?_⟩
    have e1 : decide ((e : Int) ≤ (p : Int)) = rest.isEmpty := by
      cases rest with
      | nil => rw [rest_nil h2 h3 le]; simp
      | cons c t => have := (rest_cons h2 h3 le).1; simp; omega
    show Q (V.bl (decide ((e : Int) ≤ (p : Int)))) H
    rw [e1]
    exact k
theorem sc_by : FnScope ["self"] ["self"] (defScope s_Reader_byte) := ⟨rfl, rfl, rfl, by decide +kernel, rfl, by decide +kernel, by decide +kernel⟩
theorem ok_by {f C : Addr} {fd : FuncData} (F : Fun K "byte" "Reader.byte" s_Reader_byte f fd) (T : RdC K C) (gn : GI mg "NO_BYTE" 256) (M1 : Mth P w K mg base 1 C "ended" ["self"] (spEnd K C)) : FnOk P w K mg base (CX1 P w) 2 f fd ["self"] (spByte K C) := by
  refine F.okx sc_by (fun vs H Q E h => ?_) (fun cdv A outer s H vs Q E hr h => ?_)
  · obtain ⟨r, ta, cs, e, rest, rfl, _⟩ := h
    rfl
  · obtain ⟨r, ta, cs, e, rest, rfl, R, k⟩ := h
    obtain ⟨dx, p, h1, h2, h3⟩ := R.at_
    refine ⟨_, pss_one (ps_ret (pe_ifExp (pt_val (M1.call0 (pv 0) hr out_cx)) (pe_gi gn) (pe_ix ix_list (pe_fld (pv 0) rfl) (pe_fld (pv 0) rfl) (fun _ _ => rfl)))), ?_⟩
    refine ⟨_, rfl, r, dx, _, rfl, h1, rf_no _ _ _ (by decide +kernel) (by decide +kernel) (by decide +kernel), r, ta, cs, e, rest, rfl, R, _, rfl, ?_⟩
    cases rest with
    | nil => exact iteT k
    | cons c t =>
      obtain ⟨h4, h5, h6⟩ := rest_cons h2 h3 R.le
      refine iteF ⟨_, rfl, r, C, dx, _, _, rfl, h1, T.cl, T.nt, rf_t _ _ _, _, rfl, r, C, dx, _, _, rfl, h1, T.cl, T.np, rf_p _ _ _, ta, _, _, _, rfl, rfl, R.tx, atI_nat (v := cV c) (by rw [List.getElem?_map, h5]; rfl), k⟩
theorem sc_se : FnScope ["self", "signs"] ["self", "signs"] (defScope s_Reader_sees) := ⟨rfl, rfl, rfl, by decide +kernel, rfl, by decide +kernel, by decide +kernel⟩
theorem ok_se {f C : Addr} {fd : FuncData} (F : Fun K "sees" "Reader.sees" s_Reader_sees f fd) (D1 : Def P w K mg base 1 "sign_number" ["signs", "byte"] spSN) (M1 : Mth P w K mg base 2 C "byte" ["self"] (spByte K C)) :
    FnOk P w K mg base (CX1 P w) 3 f fd ["self", "signs"] (spSees K C) := by
  refine F.okx sc_se (fun vs H Q E h => ?_) (fun cdv A outer s H vs Q E hr h => ?_)
  · obtain ⟨r, ta, cs, e, rest, z, rfl, _⟩ := h
    rfl
  · obtain ⟨r, ta, cs, e, rest, z, rfl, R, oz, k⟩ := h
    obtain ⟨dx, p, h1, h2, h3⟩ := R.at_
    refine ⟨_, pss_one (ps_ret (pe_cmpR op_notN (D1.call hr out_cx (pa_cons (pv 1) (pa_cons (M1.call0 (pv 0) hr out_cx) pa_nil))) pe_non (nomark _))), ?_⟩
    refine ⟨_, rfl, _, rfl, r, dx, _, rfl, h1, rf_no _ _ _ (by decide +kernel) (by decide +kernel) (by decide +kernel), r, ta, cs, e, rest, rfl, R, z, _, rfl, fun H' s1 => ⟨rfl, ?_⟩⟩
    have q := k H' s1
    have e1 : (!decide (idxV z.cps.toList (bt rest) = V.non)) = see z rest := by
      cases rest with
      | nil =>
        show (!decide (idxV z.cps.toList 256 = V.non)) = false
        unfold idxV
        rw [idx256 oz]
        rfl
      | cons c t =>
        show (!decide (idxV z.cps.toList (c.toNat : Nat) = V.non)) = (idxI z.cps.toList (c.toNat : Nat)).isSome
        unfold idxV
        cases idxI z.cps.toList (c.toNat : Nat) <;> rfl
    rw [e1]
    exact q
theorem sc_pi : FnScope ["self", "signs", "number"] ["self", "signs"] (defScope s_Reader_pick) := ⟨rfl, rfl, rfl, by decide +kernel, rfl, by decide +kernel, by decide +kernel⟩
theorem ok_pi {f C CT : Addr} {fd : FuncData} (F : Fun K "pick" "Reader.pick" s_Reader_pick f fd) (T : RdC K C) (X1 : TFm P w K mg base CT) (D1 : Def P w K mg base 1 "sign_number" ["signs", "byte"] spSN) (M1 : Mth P w K mg base 2 C "byte" ["self"] (spByte K C)) :
    FnOk P w K mg base (CX1 P w) 3 f fd ["self", "signs"] (spPick K C CT) := by
  refine F.okx sc_pi (fun vs H Q E h => ?_) (fun cdv A outer s H vs Q E hr h => ?_)
  · obtain ⟨r, ta, cs, e, rest, z, rfl, _⟩ := h
    rfl
  · obtain ⟨r, ta, cs, e, rest, z, rfl, R, oz, k⟩ := h
    obtain ⟨dx, p, h1, h2, h3⟩ := R.at_
    refine ⟨_, pss_cons (ps_set (i := 2) sc_pi.nd rfl (Or.inl rfl) (D1.call hr out_cx (pa_cons (pv 1) (pa_cons (M1.call0 (pv 0) hr out_cx) pa_nil))))
      (pss_cons (ps_if (pt_cmpR op_isN (pv 2) pe_non (nomark _)) (pss_one (ps_fault X1 hr out_cx rfl (pe_fld (pv 0) rfl))) pss_nil)
      (pss_cons (ps_fldaug (pv 0) pe_int in_add) (pss_one (ps_ret (pv 2))))), ?_⟩
    refine ⟨_, rfl, _, rfl, r, dx, _, rfl, h1, rf_no _ _ _ (by decide +kernel) (by decide +kernel) (by decide +kernel), r, ta, cs, e, rest, rfl, R, z, _, rfl, fun H' s1 => ?_⟩
    have h1' := s1 _ _ h1
    refine ⟨_, rfl, rfl, _, rfl, ?_⟩
    cases hrest : rest with
    | nil =>
      subst hrest
      have e1 : idxV z.cps.toList (bt []) = V.non := by
        show idxV z.cps.toList 256 = V.non
        unfold idxV; rw [idx256 oz]
      rw [e1]
      exact iteT ⟨_, rfl, r, C, dx, _, _, rfl, h1', T.cl, T.np, rf_p _ _ _, _, rfl, k _⟩
    | cons c t =>
      subst hrest
      obtain ⟨h4, h5, h6⟩ := rest_cons h2 h3 R.le
      cases hi : idxI z.cps.toList (c.toNat : Nat) with
      | none =>
        have e1 : idxV z.cps.toList (bt (c :: t)) = V.non := by
          show idxV z.cps.toList (c.toNat : Nat) = V.non
          unfold idxV; rw [hi]
        rw [e1]
        have k' : ∀ z : Int, E (.ref CT) none (xH [("place", .int z)]) := by
          have e2 : pk z (c :: t) = none := by rw [pk_cons, hi]; rfl
          rw [e2] at k
          exact k
        exact iteT ⟨_, rfl, r, C, dx, _, _, rfl, h1', T.cl, T.np, rf_p _ _ _, _, rfl, k' _⟩
      | some n =>
        have e1 : idxV z.cps.toList (bt (c :: t)) = V.int (n : Nat) := by
          show idxV z.cps.toList (c.toNat : Nat) = V.int (n : Nat)
          unfold idxV; rw [hi]
        rw [e1]
        have k' : ∀ H', Rd K C H' r ta cs e t → Sb r H H' → Q (int_ n) H' := by
          have e2 : pk z (c :: t) = some (n, t) := by rw [pk_cons, hi]; rfl
          rw [e2] at k
          exact k
        refine iteF ?_
        refine ⟨_, rfl, r, C, dx, _, _, rfl, h1', T.cl, T.np, rf_p _ _ _, ?_⟩
        refine ⟨_, _, rfl, rfl, dx, _, h1', (by show 3 < 1000; decide), _, rfl, ?_⟩
        refine k' _ ⟨⟨dx, p + 1, Eq.trans upd_same ?_, h6, h4⟩, Sb.lst (r := r) (fun b o e hb => by rw [upd_ne hb]; exact e) h1' (s1.seq R.tx), R.le⟩ fun b o e hb => by rw [upd_ne hb]; exact s1 b o e
        rfl
end
end Lt
end
section
set_option Elab.async false
set_option linter.all false
set_option maxRecDepth 100000
set_option maxHeartbeats 400000
namespace Lt
open PySem PySem.Spec PyProof.Rows L2
theorem wh_true {W : Nat →  L2.St → Hp → Prop} {m : Nat} {tb : TS} {D : Ends} {σ : L2.St} {H1 : Hp} {Z : Prop} (h : tb { D with nx := fun σ' H' => ∃ m', m' < m ∧ W m' σ' H', ct := fun σ' H' => ∃ m', m' < m ∧ W m' σ' H', bk := D.nx } σ H1) :
    if true = true then ∃ N :  L2.St → Hp → Prop, (∀ σ' H', N σ' H' → ∃ m', m' < m ∧ W m' σ' H') ∧ tb { D with nx := N, ct := N, bk := D.nx } σ H1 else Z := iteT ⟨_, fun _ _ q => q, h⟩
def sk : List Nat → List UInt8 → Option (Unit × List UInt8)
  | [], t => some ((), t)
  | _ :: _, [] => none
  | x :: w, c :: t => if c.toNat = x then sk w t else none
def wnGo (z : Str) (most : Nat) : Nat → Nat → List UInt8 → Option (Nat × List UInt8)
  | _, value, [] => some (value, [])
  | count, value, c :: t => match idxI z.cps.toList (c.toNat : Nat) with
    | none => some (value, c :: t)
    | some d => if count = most ∨ value = 0 then none else wnGo z most (count + 1) (10 * value + d) t
def wn (z : Str) (most : Nat) (l : List UInt8) : Option (Nat × List UInt8) := match pk z l with
  | none => none
  | some (d, t) => wnGo z most 1 d t
def non_ (_ : Unit) : V := .non
def spSkip (K : PySem.W.Frag) (C CT : Addr) : Sp := fun vs H Q E => ∃ (r ta : Addr) (cs : List UInt8) (e : Nat) (rest : List UInt8) (z : Str), vs = [.ref r, .str z] ∧ Rd K C H r ta cs e rest ∧ OkS z ∧ Got K C CT r ta cs e H Q E non_ (sk z.cps.toList rest)
def spWN (K : PySem.W.Frag) (C CT : Addr) (dz : Str) : Sp := fun vs H Q E => ∃ (r ta : Addr) (cs : List UInt8) (e : Nat) (rest : List UInt8) (most : Nat), vs = [.ref r, .int (most : Nat)] ∧ Rd K C H r ta cs e rest ∧ Got K C CT r ta cs e H Q E int_ (wn dz most rest)
theorem idx_one (c : Nat) (b : Nat) : idxI [c] (b : Nat) = if b = c then some 0 else none := by
  unfold idxI
  by_cases h : b = c
  · subst h; simp
  · have : ¬ (c : Int) = (b : Int) := by omega
    rw [if_neg h]
    simp
    omega
theorem pk_one (c : Nat) (l : List UInt8) (w : List Nat) : sk (c :: w) l = (match pk ⟨#[c]⟩ l with | none => none | some (_, t) => sk w t) := by
  cases l with
  | nil => rfl
  | cons b t =>
    rw [pk_cons]
    show (if b.toNat = c then sk w t else none) = _
    rw [show (⟨#[c]⟩ : Str).cps.toList = [c] from rfl, idx_one]
    by_cases h : b.toNat = c
    · rw [if_pos h, if_pos h]; rfl
    · rw [if_neg h, if_neg h]; rfl
theorem see_some {z : Str} {l : List UInt8} (h : see z l = true) : ∃ n t, pk z l = some (n, t) ∧ t.length + 1 = l.length := by
  cases l with
  | nil => cases h
  | cons c t =>
    rw [pk_cons]
    have h' : (idxI z.cps.toList (c.toNat : Nat)).isSome = true := h
    obtain ⟨n, hn⟩ := Option.isSome_iff_exists.mp h'
    exact ⟨n, t, by rw [hn]; rfl, rfl⟩
theorem wnGo_see {z : Str} {most n v d : Nat} {l t : List UInt8} (h : pk z l = some (d, t)) : wnGo z most n v l = if n = most ∨ v = 0 then none else wnGo z most (n + 1) (10 * v + d) t := by
  cases l with
  | nil => cases h
  | cons c t' =>
    rw [pk_cons] at h
    cases hi : idxI z.cps.toList (c.toNat : Nat) with
    | none => rw [hi] at h; cases h
    | some d' =>
      rw [hi] at h
      cases h
      rw [wnGo, hi]
theorem wnGo_end {z : Str} {most n v : Nat} {l : List UInt8} (h : see z l = false) : wnGo z most n v l = some (v, l) := by
  cases l with
  | nil => rfl
  | cons c t =>
    have h' : (idxI z.cps.toList (c.toNat : Nat)).isSome = false := h
    rw [Option.isSome_eq_false_iff, Option.isNone_iff_eq_none] at h'
    rw [wnGo, h']
section
variable {P : Program} {w : World} {K : PySem.W.Frag} {mg : Str → Option Value} {base : Heap}
theorem Rd.ins {C r ta : Addr} {H : Hp} {cs rest : List UInt8} {e : Nat} (R : Rd K C H r ta cs e rest) : ∃ dx p, H r = some (.ins C dx (rf ta p e)) := let ⟨dx, p, h, _⟩ := R.at_; ⟨dx, p, h⟩
theorem sc_sk : FnScope ["self", "word", "sign"] ["self", "word"] (defScope s_Reader_skip) := ⟨rfl, rfl, rfl, by decide +kernel, rfl, by decide +kernel, by decide +kernel⟩
theorem ok_sk {f C CT : Addr} {fd : FuncData} (F : Fun K "skip" "Reader.skip" s_Reader_skip f fd) (M1 : Mth P w K mg base 3 C "pick" ["self", "signs"] (spPick K C CT)) :
    FnOk P w K mg base (CX1 P w) 4 f fd ["self", "word"] (spSkip K C CT) := by
  refine F.okx sc_sk (fun vs H Q E h => ?_) (fun cdv A outer s H vs Q E hr h => ?_)
  · obtain ⟨r, ta, cs, e, rest, z, rfl, _⟩ := h
    rfl
  · obtain ⟨r, ta, cs, e, rest, z, rfl, R, oz, k⟩ := h
    refine ⟨_, pss_one (ps_for PassesOwn.leaving rfl (pi_str (pv 1)) (pg_name (i := 2) sc_sk.nd rfl (Or.inl rfl)) (pss_one (ps_expr (M1.call (pv 0) hr out_cx (pa_cons (pv 2) pa_nil))))), ?_⟩
    refine ⟨_, rfl, z, rfl, for_any (n := z.cps.size) (fun i σ H' => (∃ r2, σ = [some (.ref r), some (.str z), r2]) ∧ Sb r H H' ∧ ∃ rest', Rd K C H' r ta cs e rest' ∧ sk z.cps.toList rest = sk (z.cps.toList.drop i) rest') ⟨⟨none, rfl⟩, Sb.refl, rest, R, rfl⟩ ?_ ?_ ?_ ?_⟩
    · rintro i σ H' hi _
      exact hi
    · rintro σ H' _
      exact Nat.le_refl _
    · rintro i v σ H1 H2 hi ⟨⟨r2, rfl⟩, sb, rest', R', es⟩ ⟨rfl, c, hc, rfl⟩
      have hcl : z.cps.toList[i]? = some c := by rw [Array.getElem?_toList]; exact hc
      have hd : z.cps.toList.drop i = c :: z.cps.toList.drop (i + 1) := by
        obtain ⟨hlt, e1⟩ := List.getElem?_eq_some_iff.mp hcl
        rw [List.drop_eq_getElem_cons hlt, e1]
      obtain ⟨dx, p, h1⟩ := R'.ins
      rw [hd, pk_one] at es
      refine ⟨_, rfl, r, dx, _, rfl, h1, rf_no _ _ _ (by decide +kernel) (by decide +kernel) (by decide +kernel), _, rfl, r, ta, cs, e, rest', ⟨#[c]⟩, rfl, R', ?_, ?_⟩
      · intro c' hc'
        have e1 : c' = c := by simpa using hc'
        subst e1
        exact oz c' (List.mem_of_getElem? hcl)
      · cases hp : pk ⟨#[c]⟩ rest' with
        | none =>
          rw [hp] at es
          rw [es] at k
          exact k
        | some x =>
          obtain ⟨n, t⟩ := x
          rw [hp] at es
          exact fun H3 R3 s3 => ⟨⟨_, rfl⟩, sb.trans s3, t, R3, es⟩
    · rintro σ H' ⟨⟨r2, rfl⟩, sb, rest', R', es⟩
      have e0 : z.cps.toList.drop z.cps.size = [] := by rw [← Array.length_toList]; exact List.drop_length
      rw [e0] at es
      rw [es] at k
      exact k H' R' sb
theorem sc_wn : FnScope ["self", "most", "value", "count"] ["self", "most"] (defScope s_Reader_whole_number) := ⟨rfl, rfl, rfl, by decide +kernel, rfl, by decide +kernel, by decide +kernel⟩
theorem ok_wn {f C CT : Addr} {fd : FuncData} {dz : Str} (F : Fun K "whole_number" "Reader.whole_number" s_Reader_whole_number f fd) (T : RdC K C) (X1 : TFm P w K mg base CT) (gd : GS mg "DIGITS" dz) (od : OkS dz)
    (M1 : Mth P w K mg base 3 C "pick" ["self", "signs"] (spPick K C CT)) (M2 : Mth P w K mg base 3 C "sees" ["self", "signs"] (spSees K C)) :
    FnOk P w K mg base (CX1 P w) 4 f fd ["self", "most"] (spWN K C CT dz) := by
  refine F.okx sc_wn (fun vs H Q E h => ?_) (fun cdv A outer s H vs Q E hr h => ?_)
  · obtain ⟨r, ta, cs, e, rest, most, rfl, _⟩ := h
    rfl
  · obtain ⟨r, ta, cs, e, rest, most, rfl, R, k⟩ := h
    refine ⟨_, pss_cons (ps_set (i := 2) sc_wn.nd rfl (Or.inl rfl) (M1.call (pv 0) hr out_cx (pa_cons (pe_gs gd) pa_nil)))
      (pss_cons (ps_set (i := 3) sc_wn.nd rfl (Or.inl rfl) pe_int)
      (pss_cons (ps_while PassesOwn.leaving (pt_val (M2.call (pv 0) hr out_cx (pa_cons (pe_gs gd) pa_nil)))
        (pss_cons (ps_if (pw_or (pt_cmpR op_eq (pv 3) (pv 1) (nomark _)) (pw_or1 (pt_cmpR op_eq (pv 2) pe_int (nomark _)))).pt (pss_one (ps_fault X1 hr out_cx rfl (pe_fld (pv 0) rfl))) pss_nil)
        (pss_cons (ps_set (i := 2) sc_wn.nd rfl (Or.inl rfl) (pe_op op_add (pe_op op_mul pe_int (pv 2)) (M1.call (pv 0) hr out_cx (pa_cons (pe_gs gd) pa_nil))))
        (pss_one (ps_aug (i := 3) sc_wn.nd rfl (Or.inl rfl) pe_int ip_add)))))
      (pss_one (ps_ret (pv 2))))), ?_⟩
    obtain ⟨dx, p, h1⟩ := R.ins
    refine ⟨_, rfl, r, dx, _, rfl, h1, rf_no _ _ _ (by decide +kernel) (by decide +kernel) (by decide +kernel), r, ta, cs, e, rest, dz, rfl, R, od, ?_⟩
    have k' := k
    unfold wn at k'
    cases hp : pk dz rest with
    | none => rw [hp] at k'; exact k'
    | some x =>
      obtain ⟨d, t⟩ := x
      rw [hp] at k'
      replace k' : Got K C CT r ta cs e H Q E int_ (wnGo dz most 1 d t) := k'
      intro H1 R1 s1
      refine ⟨fun m σ H' => ∃ (rest' : List UInt8) (v n : Nat), σ = [some (.ref r), some (.int (most : Nat)), some (.int (v : Nat)), some (.int (n : Nat))] ∧ Sb r H H' ∧ Rd K C H' r ta cs e rest' ∧ wnGo dz most 1 d t = wnGo dz most n v rest' ∧ m = rest'.length,
        ⟨t.length, t, d, 1, rfl, s1, R1, rfl, rfl⟩, ?_⟩
      rintro m σ H' ⟨rest', v, n, rfl, sb, R', ew, rfl⟩
      obtain ⟨dx', p', h1'⟩ := R'.ins
      refine ⟨_, rfl, r, dx', _, rfl, h1', rf_no _ _ _ (by decide +kernel) (by decide +kernel) (by decide +kernel), r, ta, cs, e, rest', dz, rfl, R', od, fun H2 s2 => ⟨_, rfl, ?_⟩⟩
      have R2 := R'.same s2
      have sb2 : Sb r H H2 := sb.trans s2.sb
      obtain ⟨dx2, p2, h12⟩ := R2.ins
      cases hs : see dz rest' with
      | false =>
        rw [wnGo_end hs] at ew
        rw [ew] at k'
        exact iteF ⟨_, rfl, k' H2 R2 sb2⟩
      | true =>
        obtain ⟨d2, t2, hp2, hl⟩ := see_some hs
        rw [wnGo_see hp2] at ew
        refine wh_true ?_
        refine ⟨_, rfl, _, rfl, rfl, _, rfl, ite2 (fun hc => ?_) (fun hc => ?_)⟩
        · have h0 : n = most := by
            have q := of_decide_eq_true hc
            injection q with q
            omega
          rw [if_pos (.inl h0)] at ew
          rw [ew] at k'
          exact iteT ⟨_, rfl, r, C, dx2, _, _, rfl, h12, T.cl, T.np, rf_p _ _ _, _, rfl, k' _⟩
        · have h0 : ¬ n = most := fun q => hc (decide_eq_true (by rw [q]))
          refine ⟨_, rfl, rfl, _, rfl, ite2 (fun hc2 => ?_) (fun hc2 => ?_)⟩
          · have h3 : v = 0 := by
              have q := of_decide_eq_true hc2
              injection q with q
              omega
            rw [if_pos (.inr h3)] at ew
            rw [ew] at k'
            exact ⟨_, rfl, r, C, dx2, _, _, rfl, h12, T.cl, T.np, rf_p _ _ _, _, rfl, k' _⟩
          · have h3 : ¬ v = 0 := fun q => hc2 (decide_eq_true (by rw [q]; rfl))
            rw [if_neg (by rintro (q | q); exact h0 q; exact h3 q)] at ew
            refine ⟨_, rfl, _, _, rfl, rfl, .inl ⟨by decide, by decide⟩, _, rfl, r, dx2, _, rfl, h12, rf_no _ _ _ (by decide +kernel) (by decide +kernel) (by decide +kernel), r, ta, cs, e, rest', dz, rfl, R2, od, ?_⟩
            rw [hp2]
            intro H3 R3 s3
            refine ⟨_, _, rfl, rfl, ?_⟩
            refine ⟨_, rfl, _, _, rfl, rfl, t2.length, by omega, t2, 10 * v + d2, n + 1, ?_, sb2.trans s3, R3, ew, rfl⟩
            rfl
end
end Lt
end
section
set_option Elab.async false
set_option linter.all false
set_option maxRecDepth 100000
set_option maxHeartbeats 400000
namespace Lt
open PySem PySem.Spec PyProof.Rows L2
/-- the Reader's class and methods, TextFault -/
structure RdE (P : Program) (w : World) (K : PySem.W.Frag) (mg : Str → Option Value) (base : Heap) (C CT : Addr) (dz : Str) : Prop where
  T : RdC K C
  X1 : TFm P w K mg base CT
  mkr : Mkr P w K mg base 1 C "Reader" ["self", "text", "place", "end"] (spRI C)
  en : Mth P w K mg base 1 C "ended" ["self"] (spEnd K C)
  byt : Mth P w K mg base 2 C "byte" ["self"] (spByte K C)
  se : Mth P w K mg base 3 C "sees" ["self", "signs"] (spSees K C)
  pi : Mth P w K mg base 3 C "pick" ["self", "signs"] (spPick K C CT)
  sk : Mth P w K mg base 4 C "skip" ["self", "word"] (spSkip K C CT)
  wn : Mth P w K mg base 4 C "whole_number" ["self", "most"] (spWN K C CT dz)
theorem oks {z : Str} (h : (z.cps.toList.all fun c => decide (c < 256)) = true) : OkS z := fun c hc => of_decide_eq_true (List.all_eq_true.mp h c hc)
/-- the Reader at x stands before rest -/
def RdX (K : PySem.W.Frag) (C : Addr) (x : V) (H : Hp) (k : ∀ (r ta : Addr) (cs : List UInt8) (e : Nat) (rest : List UInt8), Prop) : Prop := ∃ r ta cs e rest, x = .ref r ∧ Rd K C H r ta cs e rest ∧ k r ta cs e rest
def tSees (K : PySem.W.Frag) (C : Addr) (to : TE) (z : Str) : TT := fun σ H Q => to σ H fun x H1 => RdX K C x H1 fun _ _ _ _ rest => ∀ H', Same H1 H' → Q (see z rest) H'
def tEnded (K : PySem.W.Frag) (C : Addr) (to : TE) : TT := fun σ H Q => to σ H fun x H1 => RdX K C x H1 fun _ _ _ _ rest => Q rest.isEmpty H1
def tByte (K : PySem.W.Frag) (C : Addr) (to : TE) : TE := fun σ H Q => to σ H fun x H1 => RdX K C x H1 fun _ _ _ _ rest => Q (.int (bt rest)) H1
def tPick (K : PySem.W.Frag) (C CT : Addr) (E : XK) (to : TE) (z : Str) : TE := fun σ H Q => to σ H fun x H1 => RdX K C x H1 fun r ta cs e rest => Got K C CT r ta cs e H1 Q E int_ (pk z rest)
def tWN (K : PySem.W.Frag) (C CT : Addr) (E : XK) (to : TE) (dz : Str) (most : Nat) : TE := fun σ H Q => to σ H fun x H1 => RdX K C x H1 fun r ta cs e rest => Got K C CT r ta cs e H1 Q E int_ (wn dz most rest)
def sSkip (K : PySem.W.Frag) (C CT : Addr) (E : XK) (to : TE) (z : Str) : TS := fun D σ H => to σ H fun x H1 => RdX K C x H1 fun r ta cs e rest => Got K C CT r ta cs e H1 (fun _ H' => D.nx σ H') E non_ (sk z.cps.toList rest)
section
variable {X : Cx} {C CT : Addr} {dz z : Str} {E : XK} {k' : Nat} {o e : Expr} {to : TE} {apos pos spos : Pos} {most : Nat}
theorem rf_sees (ta : Addr) (p e : Int) : (rf ta p e).lookup ("sees" : Str) = none := rf_no _ _ _ (by decide +kernel) (by decide +kernel) (by decide +kernel)
theorem rf_pick (ta : Addr) (p e : Int) : (rf ta p e).lookup ("pick" : Str) = none := rf_no _ _ _ (by decide +kernel) (by decide +kernel) (by decide +kernel)
theorem rf_skip (ta : Addr) (p e : Int) : (rf ta p e).lookup ("skip" : Str) = none := rf_no _ _ _ (by decide +kernel) (by decide +kernel) (by decide +kernel)
theorem rf_wn (ta : Addr) (p e : Int) : (rf ta p e).lookup ("whole_number" : Str) = none := rf_no _ _ _ (by decide +kernel) (by decide +kernel) (by decide +kernel)
theorem rf_ended (ta : Addr) (p e : Int) : (rf ta p e).lookup ("ended" : Str) = none := rf_no _ _ _ (by decide +kernel) (by decide +kernel) (by decide +kernel)
theorem rf_byte (ta : Addr) (p e : Int) : (rf ta p e).lookup ("byte" : Str) = none := rf_no _ _ _ (by decide +kernel) (by decide +kernel) (by decide +kernel)
theorem pt_sees {pl : Sem Bool} (R : RdE X.prog X.w X.K X.mg X.base C CT dz) (hr : Room k' X.A) (hx : Out X E) (ho : PE X o to) (hz : PE X e (tC (.str z))) (oz : OkS z) (hk : 3 ≤ k' := by decide)
    (hst : starEach [e] X.env = (false, eval e X.env) :: starEach [] X.env := by rfl)
    (hti : ∀ whole, isTrue (.Call (.Attribute o "sees" apos) [e] [] pos) X.env whole = (do let v ← whole; standAt (Expr.Call (.Attribute o "sees" apos) [e] [] pos).pos; holding [v] (truthy v)) := by intro _; rfl)
    (ht : eval (.Call (.Attribute o "sees" apos) [e] [] pos) X.env = (do
      let ov ← eval o X.env
      standAt apos.atName
      let (f, first) ← holding [ov] (getMethod ov "sees" pl)
      callWith pos f first (backTo pos (starEach [e] X.env)) (backToKw pos (keywordEach [] X.env))) := by rfl) :
    PT X (.Call (.Attribute o "sees" apos) [e] [] pos) (tSees X.K C to z) := by
  intro pins s σ H Q I h
  refine pt_val (R.se.call (E := E) (pe_wk (K0 := fun x H1 => RdX X.K C x H1 fun _ _ _ _ rest => ∀ H', Same H1 H' → Q (see z rest) H') ho) hr hx (pa_cons hz pa_nil hst) hk hst rfl ht) hti pins s σ H Q I ⟨h, fun x H1 ⟨r, ta, cs, e, rest, ex, Rr, q⟩ => ?_⟩
  obtain ⟨dx, p, h1⟩ := Rr.ins
  exact ⟨r, dx, _, ex, h1, rf_sees _ _ _, r, ta, cs, e, rest, z, by rw [ex]; rfl, Rr, oz, fun H' s' => ⟨_, rfl, q H' s'⟩⟩
theorem pt_ended {pl : Sem Bool} (R : RdE X.prog X.w X.K X.mg X.base C CT dz) (hr : Room k' X.A) (hx : Out X E) (ho : PE X o to) (hk : 1 ≤ k' := by decide)
    (hti : ∀ whole, isTrue (.Call (.Attribute o "ended" apos) [] [] pos) X.env whole = (do let v ← whole; standAt (Expr.Call (.Attribute o "ended" apos) [] [] pos).pos; holding [v] (truthy v)) := by intro _; rfl)
    (ht : eval (.Call (.Attribute o "ended" apos) [] [] pos) X.env = (do
      let ov ← eval o X.env
      standAt apos.atName
      let (f, first) ← holding [ov] (getMethod ov "ended" pl)
      callWith pos f first (backTo pos (starEach [] X.env)) (backToKw pos (keywordEach [] X.env))) := by rfl) :
    PT X (.Call (.Attribute o "ended" apos) [] [] pos) (tEnded X.K C to) := by
  intro pins s σ H Q I h
  refine pt_val (R.en.call0 (E := E) (pe_wk (K0 := fun x H1 => RdX X.K C x H1 fun _ _ _ _ rest => Q rest.isEmpty H1) ho) hr hx hk ht) hti pins s σ H Q I ⟨h, fun x H1 ⟨r, ta, cs, e, rest, ex, Rr, q⟩ => ?_⟩
  obtain ⟨dx, p, h1⟩ := Rr.ins
  exact ⟨r, dx, _, ex, h1, rf_ended _ _ _, r, ta, cs, e, rest, by rw [ex]; rfl, Rr, _, rfl, q⟩
theorem pe_byte {pl : Sem Bool} (R : RdE X.prog X.w X.K X.mg X.base C CT dz) (hr : Room k' X.A) (hx : Out X E) (ho : PE X o to) (hk : 2 ≤ k' := by decide)
    (ht : eval (.Call (.Attribute o "byte" apos) [] [] pos) X.env = (do
      let ov ← eval o X.env
      standAt apos.atName
      let (f, first) ← holding [ov] (getMethod ov "byte" pl)
      callWith pos f first (backTo pos (starEach [] X.env)) (backToKw pos (keywordEach [] X.env))) := by rfl) :
    PE X (.Call (.Attribute o "byte" apos) [] [] pos) (tByte X.K C to) := by
  intro pins s σ H Q I h
  refine R.byt.call0 (E := E) (pe_wk (K0 := fun x H1 => RdX X.K C x H1 fun _ _ _ _ rest => Q (.int (bt rest)) H1) ho) hr hx hk ht pins s σ H Q I ⟨h, fun x H1 ⟨r, ta, cs, e, rest, ex, Rr, q⟩ => ?_⟩
  obtain ⟨dx, p, h1⟩ := Rr.ins
  exact ⟨r, dx, _, ex, h1, rf_byte _ _ _, r, ta, cs, e, rest, by rw [ex]; rfl, Rr, q⟩
theorem pe_pick {pl : Sem Bool} (R : RdE X.prog X.w X.K X.mg X.base C CT dz) (hr : Room k' X.A) (hx : Out X E) (ho : PE X o to) (hz : PE X e (tC (.str z))) (oz : OkS z) (hk : 3 ≤ k' := by decide)
    (hst : starEach [e] X.env = (false, eval e X.env) :: starEach [] X.env := by rfl)
    (ht : eval (.Call (.Attribute o "pick" apos) [e] [] pos) X.env = (do
      let ov ← eval o X.env
      standAt apos.atName
      let (f, first) ← holding [ov] (getMethod ov "pick" pl)
      callWith pos f first (backTo pos (starEach [e] X.env)) (backToKw pos (keywordEach [] X.env))) := by rfl) :
    PE X (.Call (.Attribute o "pick" apos) [e] [] pos) (tPick X.K C CT E to z) := by
  intro pins s σ H Q I h
  refine R.pi.call (E := E) (pe_wk (K0 := fun x H1 => RdX X.K C x H1 fun r ta cs e rest => Got X.K C CT r ta cs e H1 Q E int_ (pk z rest)) ho) hr hx (pa_cons hz pa_nil hst) hk hst rfl ht pins s σ H Q I ⟨h, fun x H1 ⟨r, ta, cs, e, rest, ex, Rr, q⟩ => ?_⟩
  obtain ⟨dx, p, h1⟩ := Rr.ins
  exact ⟨r, dx, _, ex, h1, rf_pick _ _ _, r, ta, cs, e, rest, z, by rw [ex]; rfl, Rr, oz, q⟩
theorem pe_wn {pl : Sem Bool} (R : RdE X.prog X.w X.K X.mg X.base C CT dz) (hr : Room k' X.A) (hx : Out X E) (ho : PE X o to) (hz : PE X e (tC (.int (most : Nat)))) (hk : 4 ≤ k' := by decide)
    (hst : starEach [e] X.env = (false, eval e X.env) :: starEach [] X.env := by rfl)
    (ht : eval (.Call (.Attribute o "whole_number" apos) [e] [] pos) X.env = (do
      let ov ← eval o X.env
      standAt apos.atName
      let (f, first) ← holding [ov] (getMethod ov "whole_number" pl)
      callWith pos f first (backTo pos (starEach [e] X.env)) (backToKw pos (keywordEach [] X.env))) := by rfl) :
    PE X (.Call (.Attribute o "whole_number" apos) [e] [] pos) (tWN X.K C CT E to dz most) := by
  intro pins s σ H Q I h
  refine R.wn.call (E := E) (pe_wk (K0 := fun x H1 => RdX X.K C x H1 fun r ta cs e rest => Got X.K C CT r ta cs e H1 Q E int_ (wn dz most rest)) ho) hr hx (pa_cons hz pa_nil hst) hk hst rfl ht pins s σ H Q I ⟨h, fun x H1 ⟨r, ta, cs, e, rest, ex, Rr, q⟩ => ?_⟩
  obtain ⟨dx, p, h1⟩ := Rr.ins
  exact ⟨r, dx, _, ex, h1, rf_wn _ _ _, r, ta, cs, e, rest, most, by rw [ex]; rfl, Rr, q⟩
theorem ps_skip {pl : Sem Bool} (R : RdE X.prog X.w X.K X.mg X.base C CT dz) (hr : Room k' X.A) (hx : Out X E) (ho : PE X o to) (hz : PE X e (tC (.str z))) (oz : OkS z) (hk : 4 ≤ k' := by decide)
    (hst : starEach [e] X.env = (false, eval e X.env) :: starEach [] X.env := by rfl) (hsw : swapsWith (.Call (.Attribute o "skip" apos) [e] [] pos) none spos.line X.env = pure false := by rfl)
    (ht : eval (.Call (.Attribute o "skip" apos) [e] [] pos) X.env = (do
      let ov ← eval o X.env
      standAt apos.atName
      let (f, first) ← holding [ov] (getMethod ov "skip" pl)
      callWith pos f first (backTo pos (starEach [e] X.env)) (backToKw pos (keywordEach [] X.env))) := by rfl) :
    PS X (.Expr (.Call (.Attribute o "skip" apos) [e] [] pos) spos) (sSkip X.K C CT E to z) := by
  intro pins s σ H D I h
  refine ps_expr (R.sk.call (E := E) (pe_wk (K0 := fun x H1 => RdX X.K C x H1 fun r ta cs e rest => Got X.K C CT r ta cs e H1 (fun _ H' => D.nx σ H') E non_ (sk z.cps.toList rest)) ho) hr hx (pa_cons hz pa_nil hst) hk hst rfl ht) hsw pins s σ H D I ⟨h, fun x H1 ⟨r, ta, cs, e, rest, ex, Rr, q⟩ => ?_⟩
  obtain ⟨dx, p, h1⟩ := Rr.ins
  exact ⟨r, dx, _, ex, h1, rf_skip _ _ _, r, ta, cs, e, rest, z, by rw [ex]; rfl, Rr, oz, q⟩
/-- reader.place, a number -/
def tPlace (K : PySem.W.Frag) (C : Addr) (to : TE) : TE := fun σ H Q => to σ H fun x H1 => RdX K C x H1 fun _ _ _ _ _ => ∀ z : Int, Q (.int z) H1
theorem pe_place (R : RdE X.prog X.w X.K X.mg X.base C CT dz) (ho : PE X o to) (hb : attributeBase o "place" X.env (eval o X.env) = eval o X.env := by rfl) : PE X (.Attribute o "place" pos) (tPlace X.K C to) := by
  intro pins s σ H Q I h
  refine pe_fld (pe_wk (K0 := fun x H1 => RdX X.K C x H1 fun _ _ _ _ _ => ∀ z : Int, Q (.int z) H1) ho) hb pins s σ H Q I ⟨h, fun x H1 ⟨r, ta, cs, e, rest, ex, Rr, q⟩ => ?_⟩
  obtain ⟨dx, p, h1⟩ := Rr.ins
  exact ⟨r, C, dx, _, _, ex, h1, R.T.cl, R.T.np, rf_p _ _ _, q _⟩
end
end Lt
end
section
set_option Elab.async false
set_option linter.all false
set_option maxRecDepth 100000
set_option maxHeartbeats 400000
namespace Lt
open PySem PySem.Spec PyProof.Rows L2
theorem got_none {α : Type} {K : PySem.W.Frag} {CR CT r ta : Addr} {cs : List UInt8} {e : Nat} {H : Hp} {Q : VK} {E : XK} {enc : α → V} {res : Option (α × List UInt8)} (h : res = none) (k : ∀ z : Int, E (.ref CT) none (xH [("place", .int z)])) : Got K CR CT r ta cs e H Q E enc res := by
  rw [h]; exact k
theorem got_some {α : Type} {K : PySem.W.Frag} {CR CT r ta : Addr} {cs : List UInt8} {e : Nat} {H : Hp} {Q : VK} {E : XK} {enc : α → V} {res : Option (α × List UInt8)} {v : α} {t : List UInt8} (h : res = some (v, t)) (k : ∀ H', Rd K CR H' r ta cs e t → Sb r H H' → Q (enc v) H') : Got K CR CT r ta cs e H Q E enc res := by
  rw [h]; exact k
/-- the same, the value a tuple of numbers -/
def GotT (K : PySem.W.Frag) (CR CT r ta : Addr) (cs : List UInt8) (e : Nat) (H : Hp) (Q : VK) (E : XK) : Option (List Int × List UInt8) → Prop
  | some (l, rest') => ∀ H' a, Rd K CR H' r ta cs e rest' → Sb r H H' → SqT K H' a (l.map V.int) → Q (.ref a) H'
  | none => ∀ z : Int, E (.ref CT) none (xH [("place", .int z)])
def spOne {α : Type} (K : PySem.W.Frag) (C CT : Addr) (m : List UInt8 → Option (α × List UInt8)) (enc : α → V) : Sp := fun vs H Q E => ∃ (r ta : Addr) (cs : List UInt8) (e : Nat) (rest : List UInt8), vs = [.ref r] ∧ Rd K C H r ta cs e rest ∧ Got K C CT r ta cs e H Q E enc (m rest)
def spOneT (K : PySem.W.Frag) (C CT : Addr) (m : List UInt8 → Option (List Int × List UInt8)) : Sp := fun vs H Q E => ∃ (r ta : Addr) (cs : List UInt8) (e : Nat) (rest : List UInt8), vs = [.ref r] ∧ Rd K C H r ta cs e rest ∧ GotT K C CT r ta cs e H Q E (m rest)
def spTwoT (K : PySem.W.Frag) (C CT : Addr) (m : List UInt8 → Option (List Int × List UInt8)) : Sp := fun vs H Q E => ∃ (r ta : Addr) (cs : List UInt8) (e : Nat) (rest : List UInt8) (st : Int), vs = [.ref r, .int st] ∧ Rd K C H r ta cs e rest ∧ GotT K C CT r ta cs e H Q E (m rest)
def tPar {α : Type} (K : PySem.W.Frag) (C CT : Addr) (E : XK) (to : TE) (m : List UInt8 → Option (α × List UInt8)) (enc : α → V) : TE := fun σ H Q => to σ H fun x H1 => RdX K C x H1 fun r ta cs e rest => Got K C CT r ta cs e H1 Q E enc (m rest)
def tParT (K : PySem.W.Frag) (C CT : Addr) (E : XK) (to : TE) (m : List UInt8 → Option (List Int × List UInt8)) : TE := fun σ H Q => to σ H fun x H1 => RdX K C x H1 fun r ta cs e rest => GotT K C CT r ta cs e H1 Q E (m rest)
section
variable {X : Cx} {C CT : Addr} {E : XK} {k k' : Nat} {f pn : Str} {o : Expr} {to : TE} {p pos : Pos}
theorem pe_par {α : Type} {m : List UInt8 → Option (α × List UInt8)} {enc : α → V} (D : Def X.prog X.w X.K X.mg X.base k f [pn] (spOne X.K C CT m enc)) (hr : Room k' X.A) (hx : Out X E) (ho : PE X o to) (hk : k ≤ k' := by decide) (hg : Gl X f := by rfl)
    (hdb : (f == ("__debug__" : Str)) = false := by decide) (hst : starEach [o] X.env = (false, eval o X.env) :: starEach [] X.env := by rfl) : PE X (.Call (.Name f p) [o] [] pos) (tPar X.K C CT E to m enc) := by
  intro pins s σ H Q I h
  refine D.call (E := E) hr hx (pa_cons (pe_wk (K0 := fun x H1 => RdX X.K C x H1 fun r ta cs e rest => Got X.K C CT r ta cs e H1 Q E enc (m rest)) ho) pa_nil hst) hk hg hdb hst rfl pins s σ H Q I ⟨h, fun x H1 ⟨r, ta, cs, e, rest, ex, Rr, q⟩ => ?_⟩
  exact ⟨r, ta, cs, e, rest, by rw [ex]; rfl, Rr, q⟩
theorem pe_parT {m : List UInt8 → Option (List Int × List UInt8)} (D : Def X.prog X.w X.K X.mg X.base k f [pn] (spOneT X.K C CT m)) (hr : Room k' X.A) (hx : Out X E) (ho : PE X o to) (hk : k ≤ k' := by decide) (hg : Gl X f := by rfl)
    (hdb : (f == ("__debug__" : Str)) = false := by decide) (hst : starEach [o] X.env = (false, eval o X.env) :: starEach [] X.env := by rfl) : PE X (.Call (.Name f p) [o] [] pos) (tParT X.K C CT E to m) := by
  intro pins s σ H Q I h
  refine D.call (E := E) hr hx (pa_cons (pe_wk (K0 := fun x H1 => RdX X.K C x H1 fun r ta cs e rest => GotT X.K C CT r ta cs e H1 Q E (m rest)) ho) pa_nil hst) hk hg hdb hst rfl pins s σ H Q I ⟨h, fun x H1 ⟨r, ta, cs, e, rest, ex, Rr, q⟩ => ?_⟩
  exact ⟨r, ta, cs, e, rest, by rw [ex]; rfl, Rr, q⟩
end
def mUn (l : List UInt8) : Option (List Int × List UInt8) := match sk ("1" : Str).cps.toList l with
  | none => none
  | some (_, t) => if t.isEmpty = true then some ([0, 0, 0, 0, 1], t) else none
def mSg (dz : Str) (l : List UInt8) : Option (Int × List UInt8) := if see "-" l = true then (match sk ("-" : Str).cps.toList l with
    | none => none
    | some (_, t) => if see "0" t = true then none else match wn dz 4 t with
      | none => none
      | some (n, u) => some (-(n : Int), u))
  else match wn dz 4 l with
    | none => none
    | some (n, u) => some ((n : Int), u)
def mPw (dz : Str) (l : List UInt8) : Option (List Int × List UInt8) := if see "^" l = true then (match sk ("^" : Str).cps.toList l with
    | none => none
    | some (_, t) => match mSg dz t with
      | none => none
      | some (n, u) => if see "/" u = true then (match sk ("/" : Str).cps.toList u with
          | none => none
          | some (_, v) => match wn dz 4 v with
            | none => none
            | some (d, y) => if d < 2 ∨ 1 < Int.gcd n d then none else some ([n, (d : Int)], y))
        else if n = 0 ∨ n = 1 then none else some ([n, 1], u))
  else some ([1, 1], l)
def vint (n : Int) : V := .int n
section
variable {P : Program} {w : World} {K : PySem.W.Frag} {mg : Str → Option Value} {base : Heap} {C CT : Addr} {dz : Str}
theorem sc_un : FnScope ["reader"] ["reader"] (defScope s_read_unison) := ⟨rfl, rfl, rfl, by decide +kernel, rfl, by decide +kernel, by decide +kernel⟩
theorem ok_un {f : Addr} {fd : FuncData} (F : Fun K "read_unison" "read_unison" s_read_unison f fd) (R : RdE P w K mg base C CT dz) (gu : GT K mg "UNISON" (([0, 0, 0, 0, 1] : List Int).map V.int)) : FnOk P w K mg base (CX1 P w) 5 f fd ["reader"] (spOneT K C CT mUn) := by
  refine F.okx sc_un (fun vs H Q E h => ?_) (fun cdv A outer s H vs Q E hr h => ?_)
  · obtain ⟨r, ta, cs, e, rest, rfl, _⟩ := h
    rfl
  · obtain ⟨r, ta, cs, e, rest, rfl, Rr, k⟩ := h
    refine ⟨_, pss_cons (ps_skip R hr out_cx (pv 0) pe_str (oks (by decide +kernel))) (pss_cons (ps_if (pt_not (pt_ended R hr out_cx (pv 0))) (pss_one (ps_fault R.X1 hr out_cx rfl (pe_place R (pv 0)))) pss_nil) (pss_one (ps_ret (pe_gt gu)))), ?_⟩
    unfold mUn at k
    refine ⟨_, rfl, r, ta, cs, e, rest, rfl, Rr, ?_⟩
    cases hs : sk ("1" : Str).cps.toList rest with
    | none => rw [hs] at k; exact got_none hs k
    | some x =>
      obtain ⟨_, t⟩ := x
      rw [hs] at k
      refine got_some hs fun H1 R1 s1 => ?_
      refine ⟨_, rfl, r, ta, cs, e, t, rfl, R1, ?_⟩
      cases t with
      | nil => exact iteF fun a ha => k H1 a R1 s1 (ha H1)
      | cons c t => exact iteT ⟨_, rfl, r, ta, cs, e, _, rfl, R1, fun z => ⟨z, rfl, k z⟩⟩
theorem sc_sg : FnScope ["reader"] ["reader"] (defScope s_read_signed) := ⟨rfl, rfl, rfl, by decide +kernel, rfl, by decide +kernel, by decide +kernel⟩
theorem ok_sg {f : Addr} {fd : FuncData} (F : Fun K "read_signed" "read_signed" s_read_signed f fd) (R : RdE P w K mg base C CT dz) (gm : GI mg "MOST_DIGITS" ((4 : Nat) : Int)) : FnOk P w K mg base (CX1 P w) 5 f fd ["reader"] (spOne K C CT (mSg dz) vint) := by
  refine F.okx sc_sg (fun vs H Q E h => ?_) (fun cdv A outer s H vs Q E hr h => ?_)
  · obtain ⟨r, ta, cs, e, rest, rfl, _⟩ := h
    rfl
  · obtain ⟨r, ta, cs, e, rest, rfl, Rr, k⟩ := h
    refine ⟨_, pss_cons (ps_if (pt_not (pt_sees R hr out_cx (pv 0) pe_str (oks (by decide +kernel)))) (pss_one (ps_ret (pe_wn (most := 4) R hr out_cx (pv 0) (pe_gi gm)))) pss_nil)
      (pss_cons (ps_skip R hr out_cx (pv 0) pe_str (oks (by decide +kernel)))
      (pss_cons (ps_if (pt_sees R hr out_cx (pv 0) pe_str (oks (by decide +kernel))) (pss_one (ps_fault R.X1 hr out_cx rfl (pe_place R (pv 0)))) pss_nil)
      (pss_one (ps_ret (pe_un un_neg (pe_wn (most := 4) R hr out_cx (pv 0) (pe_gi gm))))))), ?_⟩
    unfold mSg at k
    refine ⟨_, rfl, r, ta, cs, e, rest, rfl, Rr, fun H1 s1 => ?_⟩
    have R1 := Rr.same s1
    cases hm : see "-" rest with
    | false =>
      rw [if_neg (by rw [hm]; decide)] at k
      refine iteT ⟨_, rfl, r, ta, cs, e, rest, rfl, R1, ?_⟩
      cases hw : wn dz 4 rest with
      | none => rw [hw] at k; exact got_none hw k
      | some x =>
        obtain ⟨n, u⟩ := x
        rw [hw] at k
        exact got_some hw fun H2 R2 s2 => k H2 R2 (s1.sb.trans s2)
    | true =>
      rw [if_pos hm] at k
      refine iteF ⟨_, rfl, r, ta, cs, e, rest, rfl, R1, ?_⟩
      cases hs : sk ("-" : Str).cps.toList rest with
      | none => rw [hs] at k; exact got_none hs k
      | some x =>
        obtain ⟨_, t⟩ := x
        rw [hs] at k
        refine got_some hs fun H2 R2 s2 => ?_
        refine ⟨_, rfl, r, ta, cs, e, t, rfl, R2, fun H3 s3 => ?_⟩
        have R3 := R2.same s3
        cases h0 : see "0" t with
        | true =>
          replace k : ∀ z : Int, E (.ref CT) none (xH [("place", .int z)]) := by
            have k' := k
            simp only [h0, if_true] at k'
            exact k'
          exact iteT ⟨_, rfl, r, ta, cs, e, _, rfl, R3, fun z => ⟨z, rfl, k z⟩⟩
        | false =>
          simp only [h0, Bool.false_eq_true, if_false] at k
          refine iteF ⟨_, rfl, r, ta, cs, e, t, rfl, R3, ?_⟩
          cases hw : wn dz 4 t with
          | none => rw [hw] at k; exact got_none hw k
          | some x =>
            obtain ⟨n, u⟩ := x
            rw [hw] at k
            exact got_some hw fun H4 R4 s4 => ⟨_, rfl, k H4 R4 (((s1.sb.trans s2).trans s3.sb).trans s4)⟩
theorem sc_pw : FnScope ["reader", "start", "top", "below"] ["reader", "start"] (defScope s_read_power) := ⟨rfl, rfl, rfl, by decide +kernel, rfl, by decide +kernel, by decide +kernel⟩
theorem ok_pw {f : Addr} {fd : FuncData} (F : Fun K "read_power" "read_power" s_read_power f fd) (R : RdE P w K mg base C CT dz) (gm : GI mg "MOST_DIGITS" ((4 : Nat) : Int)) (D1 : Def P w K mg base 5 "read_signed" ["reader"] (spOne K C CT (mSg dz) vint))
    (D2 : Def P w K mg base 1 "common_factor" ["x", "y"] spCF) : FnOk P w K mg base (CX1 P w) 6 f fd ["reader", "start"] (spTwoT K C CT (mPw dz)) := by
  refine F.okx sc_pw (fun vs H Q E h => ?_) (fun cdv A outer s H vs Q E hr h => ?_)
  · obtain ⟨r, ta, cs, e, rest, st, rfl, _⟩ := h
    rfl
  · obtain ⟨r, ta, cs, e, rest, st, rfl, Rr, k⟩ := h
    refine ⟨_, pss_cons (ps_if (pt_not (pt_sees R hr out_cx (pv 0) pe_str (oks (by decide +kernel)))) (pss_one (ps_ret (pe_tup (pa_cons pe_int (pa_cons pe_int pa_nil))))) pss_nil)
      (pss_cons (ps_skip R hr out_cx (pv 0) pe_str (oks (by decide +kernel)))
      (pss_cons (ps_set (i := 2) sc_pw.nd rfl (Or.inl rfl) (pe_par D1 hr out_cx (pv 0)))
      (pss_cons (ps_if (pt_not (pt_sees R hr out_cx (pv 0) pe_str (oks (by decide +kernel))))
        (pss_cons (ps_if (pw_or (pt_cmpR op_eq (pv 2) pe_int (nomark _)) (pw_or1 (pt_cmpR op_eq (pv 2) pe_int (nomark _)))).pt (pss_one (ps_fault R.X1 hr out_cx rfl (pv 1))) pss_nil) (pss_one (ps_ret (pe_tup (pa_cons (pv 2) (pa_cons pe_int pa_nil)))))) pss_nil)
      (pss_cons (ps_skip R hr out_cx (pv 0) pe_str (oks (by decide +kernel)))
      (pss_cons (ps_set (i := 3) sc_pw.nd rfl (Or.inl rfl) (pe_wn (most := 4) R hr out_cx (pv 0) (pe_gi gm)))
      (pss_cons (ps_if (pw_or (pt_cmpR op_lt (pv 3) pe_int (nomark _)) (pw_or1 (pt_cmpR op_gt (D2.call hr out_cx (pa_cons (pv 2) (pa_cons (pv 3) pa_nil))) pe_int (nomark _)))).pt (pss_one (ps_fault R.X1 hr out_cx rfl (pv 1))) pss_nil)
      (pss_one (ps_ret (pe_tup (pa_cons (pv 2) (pa_cons (pv 3) pa_nil))))))))))), ?_⟩
    unfold mPw at k
    refine ⟨_, rfl, r, ta, cs, e, rest, rfl, Rr, fun H1 s1 => ?_⟩
    have R1 := Rr.same s1
    cases hm : see "^" rest with
    | false =>
      rw [if_neg (by rw [hm]; decide)] at k
      refine iteT ⟨(by show 2 ≤ sizeLine; decide), fun t ht => ?_⟩
      exact k _ t (R1.same (Same.upd ht)) (s1.trans (Same.upd ht)).sb (SqT.of upd_same)
    | true =>
      rw [if_pos hm] at k
      refine iteF ⟨_, rfl, r, ta, cs, e, rest, rfl, R1, ?_⟩
      cases hs : sk ("^" : Str).cps.toList rest with
      | none => rw [hs] at k; exact got_none hs k
      | some x =>
        obtain ⟨_, t⟩ := x
        rw [hs] at k
        refine got_some hs fun H2 R2 s2 => ?_
        refine ⟨_, rfl, r, ta, cs, e, t, rfl, R2, ?_⟩
        cases hg : mSg dz t with
        | none => simp only [hg] at k; exact got_none hg k
        | some x =>
          obtain ⟨n, u⟩ := x
          simp only [hg] at k
          refine got_some hg fun H3 R3 s3 => ?_
          refine ⟨_, rfl, r, ta, cs, e, u, rfl, R3, fun H4 s4 => ?_⟩
          have R4 := R3.same s4
          have sb4 : Sb r H H4 := ((s1.sb.trans s2).trans s3).trans s4.sb
          cases hl : see "/" u with
          | false =>
            simp only [hl, Bool.false_eq_true, if_false] at k
            refine iteT ⟨V.int n, rfl, rfl, _, rfl, ite2 (fun h0 => ?_) (fun h0 => ?_)⟩
            · have e0 : n = 0 := by
                have q := of_decide_eq_true h0
                injection q
              rw [if_pos (.inl e0)] at k
              exact iteT ⟨_, rfl, _, rfl, k _⟩
            · have e0 : ¬ n = 0 := fun q => h0 (decide_eq_true (by rw [q]))
              refine ⟨V.int n, rfl, rfl, _, rfl, ite2 (fun h1 => ?_) (fun h1 => ?_)⟩
              · have e1 : n = 1 := by
                  have q := of_decide_eq_true h1
                  injection q
                rw [if_pos (.inr e1)] at k
                exact ⟨_, rfl, _, rfl, k _⟩
              · have e1 : ¬ n = 1 := fun q => h1 (decide_eq_true (by rw [q]))
                rw [if_neg (by rintro (q | q); exact e0 q; exact e1 q)] at k
                refine ⟨V.int n, rfl, (by show 2 ≤ sizeLine; decide), fun t ht => ?_⟩
                exact k _ t (R4.same (Same.upd ht)) (sb4.trans (Same.upd ht).sb) (SqT.of upd_same)
          | true =>
            simp only [hl, if_true] at k
            refine iteF ⟨_, rfl, r, ta, cs, e, u, rfl, R4, ?_⟩
            cases hs2 : sk ("/" : Str).cps.toList u with
            | none => rw [hs2] at k; exact got_none hs2 k
            | some x =>
              obtain ⟨_, v⟩ := x
              rw [hs2] at k
              refine got_some hs2 fun H5 R5 s5 => ?_
              refine ⟨_, rfl, r, ta, cs, e, v, rfl, R5, ?_⟩
              cases hw : wn dz 4 v with
              | none => simp only [hw] at k; exact got_none hw k
              | some x =>
                obtain ⟨d, y⟩ := x
                simp only [hw] at k
                refine got_some hw fun H6 R6 s6 => ?_
                have sb6 : Sb r H H6 := (sb4.trans s5).trans s6
                refine ⟨V.int (d : Nat), rfl, _, _, rfl, rfl, _, rfl, ite2 (fun h0 => ?_) (fun h0 => ?_)⟩
                · have e0 : d < 2 := by have : (d : Int) < 2 := by simpa using h0
                                        omega
                  rw [if_pos (.inl e0)] at k
                  exact iteT ⟨_, rfl, _, rfl, k _⟩
                · have e0 : ¬ d < 2 := by have : ¬ (d : Int) < 2 := by simpa using h0
                                          omega
                  refine ⟨V.int n, rfl, V.int (d : Nat), rfl, n, (d : Nat), rfl, _, _, rfl, rfl, _, rfl, ite2 (fun h1 => ?_) (fun h1 => ?_)⟩
                  · have e1 : 1 < Int.gcd n d := by have : (1 : Int) < (Int.gcd n d : Nat) := by simpa using h1
                                                    omega
                    rw [if_pos (.inr e1)] at k
                    exact ⟨_, rfl, _, rfl, k _⟩
                  · have e1 : ¬ 1 < Int.gcd n d := by have : ¬ (1 : Int) < (Int.gcd n d : Nat) := by simpa using h1
                                                      omega
                    rw [if_neg (by rintro (q | q); exact e0 q; exact e1 q)] at k
                    refine ⟨V.int n, rfl, V.int (d : Nat), rfl, (by show 2 ≤ sizeLine; decide), fun t ht => ?_⟩
                    exact k _ t (R6.same (Same.upd ht)) (sb6.trans (Same.upd ht).sb) (SqT.of upd_same)
end
end Lt
end
section
set_option Elab.async false
set_option linter.all false
set_option maxRecDepth 100000
set_option maxHeartbeats 400000
namespace Lt
open PySem PySem.Spec PyProof.Rows L2
theorem pk_len {z : Str} {l t : List UInt8} {n : Nat} (h : pk z l = some (n, t)) : t.length + 1 = l.length ∧ n < z.cps.toList.length := by
  cases l with
  | nil => cases h
  | cons c u =>
    rw [pk_cons] at h
    cases hi : idxI z.cps.toList (c.toNat : Nat) with
    | none => rw [hi] at h; cases h
    | some m =>
      rw [hi] at h
      cases h
      refine ⟨rfl, ?_⟩
      unfold idxI at hi
      rw [List.findIdx?_eq_some_iff_getElem] at hi
      exact hi.1
theorem sk_len : ∀ {x : List Nat} {l t : List UInt8} {u : Unit}, sk x l = some (u, t) → t.length + x.length = l.length
  | [], l, t, u, h => by cases h; simp
  | x :: w, [], t, u, h => by cases h
  | x :: w, c :: l, t, u, h => by
    rw [sk] at h
    split at h
    · have := sk_len h; simp; omega
    · cases h
theorem wnGo_ok {z : Str} {most : Nat} (hz : z.cps.toList.length ≤ 10) : ∀ {l t : List UInt8} {n v r : Nat}, wnGo z most n v l = some (r, t) → t.length ≤ l.length ∧ (n ≤ most → v < 10 ^ n → r < 10 ^ most)
  | [], t, n, v, r, h => by
    rw [wnGo] at h
    cases h
    exact ⟨Nat.le_refl _, fun h1 h2 => Nat.lt_of_lt_of_le h2 (Nat.pow_le_pow_right (by decide) h1)⟩
  | c :: l, t, n, v, r, h => by
    rw [wnGo] at h
    cases hi : idxI z.cps.toList (c.toNat : Nat) with
    | none =>
      simp only [hi] at h
      cases h
      exact ⟨Nat.le_refl _, fun h1 h2 => Nat.lt_of_lt_of_le h2 (Nat.pow_le_pow_right (by decide) h1)⟩
    | some d =>
      simp only [hi] at h
      split at h
      · cases h
      · rename_i hc
        have hd : d < 10 := by
          unfold idxI at hi
          rw [List.findIdx?_eq_some_iff_getElem] at hi
          have := hi.1
          omega
        obtain ⟨h3, h4⟩ := wnGo_ok hz h
        refine ⟨by simp; omega, fun h1 h2 => h4 ?_ ?_⟩
        · have : ¬ n = most := fun q => hc (.inl q)
          omega
        · rw [Nat.pow_succ]; omega
theorem wn_ok {z : Str} {most n : Nat} {l t : List UInt8} (hz : z.cps.toList.length ≤ 10) (hm : 1 ≤ most) (h : wn z most l = some (n, t)) : t.length < l.length ∧ n < 10 ^ most := by
  unfold wn at h
  cases hp : pk z l with
  | none => rw [hp] at h; cases h
  | some x =>
    obtain ⟨d, u⟩ := x
    rw [hp] at h
    have h1 := pk_len hp
    obtain ⟨h2, h3⟩ := wnGo_ok hz h
    exact ⟨by omega, h3 hm (by omega)⟩
theorem mSg_ok {z : Str} {n : Int} {l t : List UInt8} (hz : z.cps.toList.length ≤ 10) (h : mSg z l = some (n, t)) : t.length ≤ l.length ∧ n.natAbs < 10000 := by
  unfold mSg at h
  split at h
  · cases hs : sk ("-" : Str).cps.toList l with
    | none => rw [hs] at h; cases h
    | some x =>
      obtain ⟨_, u⟩ := x
      simp only [hs] at h
      split at h
      · cases h
      · cases hw : wn z 4 u with
        | none => simp only [hw] at h; cases h
        | some x =>
          obtain ⟨m, v⟩ := x
          simp only [hw] at h
          cases h
          have h1 := sk_len hs
          have h2 := wn_ok hz (by decide) hw
          refine ⟨by omega, ?_⟩
          have : m < 10000 := h2.2
          omega
  · cases hw : wn z 4 l with
    | none => simp only [hw] at h; cases h
    | some x =>
      obtain ⟨m, v⟩ := x
      simp only [hw] at h
      cases h
      have h2 := wn_ok hz (by decide) hw
      refine ⟨by omega, ?_⟩
      have : m < 10000 := h2.2
      omega
theorem mPw_ok {z : Str} {x : List Int} {l t : List UInt8} (hz : z.cps.toList.length ≤ 10) (h : mPw z l = some (x, t)) : t.length ≤ l.length ∧ ∃ (n : Int) (d : Nat), x = [n, (d : Int)] ∧ n.natAbs < 10000 ∧ 1 ≤ d ∧ d < 10000 := by
  unfold mPw at h
  split at h
  · cases hs : sk ("^" : Str).cps.toList l with
    | none => rw [hs] at h; cases h
    | some y =>
      obtain ⟨_, u⟩ := y
      simp only [hs] at h
      have h1 := sk_len hs
      cases hg : mSg z u with
      | none => simp only [hg] at h; cases h
      | some y =>
        obtain ⟨n, v⟩ := y
        simp only [hg] at h
        have h2 := mSg_ok hz hg
        split at h
        · cases hs2 : sk ("/" : Str).cps.toList v with
          | none => rw [hs2] at h; cases h
          | some y =>
            obtain ⟨_, q⟩ := y
            simp only [hs2] at h
            have h3 := sk_len hs2
            cases hw : wn z 4 q with
            | none => simp only [hw] at h; cases h
            | some y =>
              obtain ⟨d, q2⟩ := y
              simp only [hw] at h
              have h4 := wn_ok hz (by decide) hw
              split at h
              · cases h
              · rename_i hc
                cases h
                have : ¬ d < 2 := fun q => hc (.inl q)
                have : d < 10000 := h4.2
                exact ⟨by omega, n, d, rfl, h2.2, by omega, by omega⟩
        · split at h
          · cases h
          · cases h
            exact ⟨by omega, n, 1, rfl, h2.2, by decide, by decide⟩
  · cases h
    exact ⟨Nat.le_refl _, 1, 1, rfl, by decide, by decide, by decide⟩
def facL (k : Nat) (n d : Int) : List Int := [0, 0, 0, 0, d].set k n
def un5 : List Int := [0, 0, 0, 0, 1]
/-- the factors from here on, above that one -/
def mFc (dz fz : Str) : Nat → Nat → List Int → List UInt8 → Option (List Int × List UInt8)
  | 0, _, _, _ => none
  | f + 1, least, pr, l => match pk fz l with
    | none => none
    | some (k, t) => match mPw dz t with
      | none => none
      | some (x, u) => if k < least then none else
        let pr' := uponL (facL k (x.getD 0 0) (x.getD 1 0)) pr
        if u.isEmpty = true then some (pr', u) else match sk (" " : Str).cps.toList u with
          | none => none
          | some (_, v) => mFc dz fz f (k + 1) pr' v
theorem upon_len (x y : List Int) : (uponL x y).length = 5 := by simp [uponL, nums]
theorem upon_4 (x y : List Int) : (uponL x y).getD 4 0 = (x.getD 4 0 * y.getD 4 0) / (gcdAll (nums x y) : Int) := by
  unfold uponL
  have : (nums x y)[4]? = some (x.getD 4 0 * y.getD 4 0) := by unfold nums; rfl
  simp [List.getD, List.getElem?_map, this]
theorem upon_pos {x y : List Int} (hx : 0 < x.getD 4 0) (hy : 0 < y.getD 4 0) : 0 < (uponL x y).getD 4 0 ∧ (uponL x y).getD 4 0 ≤ x.getD 4 0 * y.getD 4 0 := by
  rw [upon_4]
  have hg := gcd_pos hx hy
  have hp : 0 < x.getD 4 0 * y.getD 4 0 := Int.mul_pos hx hy
  obtain ⟨q, hq⟩ := gcdAll_dvd (nums_last x y)
  have e : x.getD 4 0 * y.getD 4 0 / (gcdAll (nums x y) : Int) = q := by rw [hq]; exact Int.mul_ediv_cancel_left q (by omega)
  rw [e]
  have hq0 : 0 < q := by
    rw [hq] at hp
    exact Int.pos_of_mul_pos_right hp (by omega) |> fun h => h
  refine ⟨hq0, ?_⟩
  rw [hq]
  have : 1 * q ≤ (gcdAll (nums x y) : Int) * q := Int.mul_le_mul_of_nonneg_right (by omega) (by omega)
  omega
theorem fac_4 {k : Nat} (hk : k < 4) (n d : Int) : (facL k n d).getD 4 0 = d ∧ (facL k n d).length = 5 := by
  match k, hk with
  | 0, _ => exact ⟨rfl, rfl⟩
  | 1, _ => exact ⟨rfl, rfl⟩
  | 2, _ => exact ⟨rfl, rfl⟩
  | 3, _ => exact ⟨rfl, rfl⟩
theorem fac_mem {k : Nat} (hk : k < 4) {n d z : Int} (h : z ∈ facL k n d) : z = 0 ∨ z = n ∨ z = d := by
  rcases List.mem_or_eq_of_mem_set h with h | h
  · have h' : z = 0 ∨ z = d := by simpa using h
    rcases h' with h | h
    · exact .inl h
    · exact .inr (.inr h)
  · exact .inr (.inl h)
theorem Sb.tup {K : PySem.W.Frag} {H H' : Hp} {r a C dx : Addr} {fs : List (Str × V)} {xs : List V} (s : Sb r H H') (hr : H r = some (.ins C dx fs)) (h : SqT K H a xs) : SqT K H' a xs := by
  rcases h with (h | ⟨o, h⟩) | h
  · exact .inl (.inl (s _ _ h (ne_of h hr (by intro z; cases z))))
  · exact .inl (.inr ⟨o, s _ _ h (ne_of h hr (by intro z; cases z))⟩)
  · exact .inr h
def spPF (K : PySem.W.Frag) : Sp := fun vs H Q _ => ∃ (k : Nat) (pa : Addr) (n d : Int), vs = [.int (k : Nat), .ref pa] ∧ k < 4 ∧ SqT K H pa (([n, d] : List Int).map V.int) ∧ ∀ H' a, Same H H' → H' a = some (.tup ((facL k n d).map V.int)) → Q (.ref a) H'
section
variable {P : Program} {w : World} {K : PySem.W.Frag} {mg : Str → Option Value} {base : Heap} {C CT : Addr} {dz fz : Str}
theorem sc_pf : FnScope ["factor", "power", "numbers"] ["factor", "power"] (defScope s_power_of_factor) := ⟨rfl, rfl, rfl, by decide +kernel, rfl, by decide +kernel, by decide +kernel⟩
theorem ok_pf {f : Addr} {fd : FuncData} (F : Fun K "power_of_factor" "power_of_factor" s_power_of_factor f fd) (B : Blt mg) : FnOk P w K mg base (CX1 P w) 1 f fd ["factor", "power"] (spPF K) := by
  refine F.okx sc_pf (fun vs H Q E h => ?_) (fun cdv A outer s H vs Q E hr h => ?_)
  · obtain ⟨k, pa, n, d, rfl, _⟩ := h
    rfl
  · obtain ⟨k, pa, n, d, rfl, hk, hp, q⟩ := h
    refine ⟨_, pss_cons (ps_set (i := 2) sc_pf.nd rfl (Or.inl rfl) (pe_lst (pa_cons pe_int (pa_cons pe_int (pa_cons pe_int (pa_cons pe_int (pa_cons (pe_ix ix_tup (pv 1) pe_int (fun _ _ => rfl)) pa_nil)))))))
      (pss_cons (ps_asg (pe_ix ix_tup (pv 1) pe_int (fun _ _ => rfl)) (pg_sub (pv 2) (pv 0) set_list))
      (pss_one (ps_ret (pe_callTy call_tuple_of (by rfl) B.tuple boot_tup (pa_cons (pv 2) pa_nil))))), ?_⟩
    refine ⟨_, rfl, pa, _, _, _, rfl, rfl, hp, at_map (l := [n, d]) (i := 1) rfl (by show 1 < 2; decide), (by show 5 ≤ sizeLine; decide), fun l hl => ?_⟩
    have s1 : Same H (upd H l (.lst [.int 0, .int 0, .int 0, .int 0, .int d])) := Same.upd hl
    refine ⟨_, rfl, pa, _, _, _, rfl, rfl, s1.tup hp, at_map (l := [n, d]) (i := 0) rfl (by show 0 < 2; decide), _, rfl, _, rfl, l, _, (k : Int), k, rfl, rfl, upd_same, ?_, ?_⟩
    · show ixN 5 (k : Int) = some k
      unfold ixN
      rw [if_pos (by omega), if_pos (by omega)]
      simp
    · refine ⟨_, rfl, l, _, rfl, .inl ⟨SqL.of upd_same, fun a ha => ?_⟩⟩
      have e : (([V.int 0, .int 0, .int 0, .int 0, .int d] : List V).set k (.int n)) = (facL k n d).map V.int := by
        unfold facL
        rw [List.map_set]
        rfl
      refine q _ a (fun b o e => ?_) (by rw [upd_same]; exact congrArg (fun z => some (HO.tup z)) e)
      have n1 : b ≠ l := ne_of_none e hl
      have n2 : b ≠ a := by
        refine ne_of_none (o := o) ?_ ha
        rw [upd_ne n1, upd_ne n1]; exact e
      rw [upd_ne n2, upd_ne n1, upd_ne n1]
      exact e
theorem sc_fc : FnScope ["reader", "before", "product", "start", "factor", "power"] ["reader"] (defScope s_read_factors) := ⟨rfl, rfl, rfl, by decide +kernel, rfl, by decide +kernel, by decide +kernel⟩
def mFcs (dz fz : Str) (l : List UInt8) : Option (List Int × List UInt8) := mFc dz fz (l.length + 1) 0 un5 l
theorem ok_fc {f : Addr} {fd : FuncData} (F : Fun K "read_factors" "read_factors" s_read_factors f fd) (R : RdE P w K mg base C CT dz) (gu : GT K mg "UNISON" (un5.map V.int)) (gf : GS mg "FACTORS" fz) (of : OkS fz) (hz : dz.cps.toList.length ≤ 10) (hf : fz.cps.toList.length = 4)
    (D1 : Def P w K mg base 6 "read_power" ["reader", "start"] (spTwoT K C CT (mPw dz))) (D2 : Def P w K mg base 1 "power_of_factor" ["factor", "power"] (spPF K)) (D3 : Def P w K mg base 3 "upon" ["x", "y"] (spUp K)) :
    FnOk P w K mg base (CX1 P w) 7 f fd ["reader"] (spOneT K C CT (mFcs dz fz)) := by
  refine F.okx sc_fc (fun vs H Q E h => ?_) (fun cdv A outer s H vs Q E hr h => ?_)
  · obtain ⟨r, ta, cs, e, rest, rfl, _⟩ := h
    rfl
  · obtain ⟨r, ta, cs, e, rest, rfl, Rr, k⟩ := h
    refine ⟨_, (pss_cons (ps_set (i := 1) sc_fc.nd rfl (Or.inl rfl) (pe_un un_neg pe_int))
      (pss_cons (ps_set (i := 2) sc_fc.nd rfl (Or.inl rfl) (pe_gt gu))
      (pss_one (ps_while PassesOwn.leaving (pt_val pe_bl)
        (pss_cons (ps_set (i := 3) sc_fc.nd rfl (Or.inl rfl) (pe_place R (pv 0)))
      (pss_cons (ps_set (i := 4) sc_fc.nd rfl (Or.inl rfl) (pe_pick R hr out_cx (pv 0) (pe_gs gf) of))
      (pss_cons (ps_set (i := 5) sc_fc.nd rfl (Or.inl rfl) (D1.call hr out_cx (pa_cons (pv 0) (pa_cons (pv 3) pa_nil))))
      (pss_cons (ps_if (pt_cmpR op_le (pv 4) (pv 1) (nomark _)) (pss_one (ps_fault R.X1 hr out_cx rfl (pv 3))) pss_nil)
      (pss_cons (ps_set (i := 1) sc_fc.nd rfl (Or.inl rfl) (pv 4))
      (pss_cons (ps_set (i := 2) sc_fc.nd rfl (Or.inl rfl) (D3.call hr out_cx (pa_cons (D2.call hr out_cx (pa_cons (pv 4) (pa_cons (pv 5) pa_nil))) (pa_cons (pv 2) pa_nil))))
      (pss_cons (ps_if (pt_ended R hr out_cx (pv 0)) (pss_one (ps_ret (pv 2))) pss_nil)
      (pss_one (ps_skip R hr out_cx (pv 0) pe_str (oks (by decide +kernel))))))))))))))), ?_⟩
    refine ⟨1, rfl, fun pa hpa => ?_⟩
    refine ⟨fun m σ H' => ∃ (rest' : List UInt8) (least fuel : Nat) (pa : Addr) (pr : List Int) (r3 r4 r5 : Option V), σ = [some (.ref r), some (.int ((least : Int) - 1)), some (.ref pa), r3, r4, r5] ∧ Sb r H H' ∧ Rd K C H' r ta cs e rest' ∧
        SqT K H' pa (pr.map V.int) ∧ pr.length = 5 ∧ 0 < pr.getD 4 0 ∧ pr.getD 4 0 ≤ 9999 ^ least ∧ least ≤ 4 ∧ mFcs dz fz rest = mFc dz fz fuel least pr rest' ∧ rest'.length < fuel ∧ m = rest'.length,
      ⟨rest.length, rest, 0, rest.length + 1, pa, un5, none, none, none, rfl, Sb.refl, Rr, hpa _, rfl, by decide, by decide, by decide, rfl, by omega, rfl⟩, ?_⟩
    rintro m σ H' ⟨rest', least, fuel, pa, pr, r3, r4, r5, rfl, sb, R', hpr, l5, p4, b4, hl4, em, hfu, rfl⟩
    obtain ⟨fuel, rfl⟩ : ∃ f', fuel = f' + 1 := ⟨fuel - 1, by omega⟩
    rw [mFc] at em
    refine ⟨_, rfl, wh_true ?_⟩
    refine ⟨_, rfl, r, ta, cs, e, rest', rfl, R', fun z => ?_⟩
    refine ⟨_, rfl, r, ta, cs, e, rest', rfl, R', ?_⟩
    cases hp : pk fz rest' with
    | none =>
      simp only [hp] at em
      rw [em] at k
      exact got_none hp k
    | some x =>
      obtain ⟨kk, t⟩ := x
      simp only [hp] at em
      have hk := pk_len hp
      have hk4 : kk < 4 := by rw [← hf]; exact hk.2
      refine got_some hp fun H1 R1 s1 => ?_
      obtain ⟨dx', p', i'⟩ := R'.ins
      refine ⟨V.ref r, rfl, V.int z, rfl, r, ta, cs, e, t, z, rfl, R1, ?_⟩
      cases hw : mPw dz t with
      | none =>
        simp only [hw] at em
        rw [em] at k
        exact k
      | some x =>
        obtain ⟨x, u⟩ := x
        simp only [hw] at em
        obtain ⟨hu, n, d, rfl, hn, hd1, hd2⟩ := mPw_ok hz hw
        intro H2 pa2 R2 s2 hp2
        have sb2 : Sb r H H2 := (sb.trans s1).trans s2
        have hpr2 : SqT K H2 pa (pr.map V.int) := Sb.tup (s1.trans s2) i' hpr
        refine ⟨V.int (kk : Nat), rfl, _, rfl, _, _, rfl, rfl, _, rfl, ite2 (fun h0 => ?_) (fun h0 => ?_)⟩
        · have e0 : kk < least := by
            have : (kk : Int) ≤ (least : Int) - 1 := by simpa using h0
            omega
          rw [if_pos e0] at em
          rw [em] at k
          exact ⟨_, rfl, _, rfl, k _⟩
        · have e0 : ¬ kk < least := by
            have : ¬ (kk : Int) ≤ (least : Int) - 1 := by simpa using h0
            omega
          rw [if_neg e0] at em
          refine ⟨V.int (kk : Nat), rfl, V.int (kk : Nat), rfl, V.ref pa2, rfl, kk, pa2, n, (d : Int), rfl, hk4, hp2, fun H3 af s3 haf => ?_⟩
          have f4 := fac_4 hk4 n (d : Int)
          have hpow : pr.getD 4 0 ≤ 9999 ^ 3 := by
            have : (9999 : Int) ^ least ≤ 9999 ^ 3 := Int.ofNat_le.mpr (Nat.pow_le_pow_right (by decide : 0 < 9999) (by omega : least ≤ 3)) |> fun h => by simpa using h
            omega
          have bnd : ((9999 : Int)) ^ 3 = 999700029999 := by decide
          refine ⟨V.ref pa, rfl, af, pa, facL kk n d, pr, rfl, SqT.of haf, s3.tup hpr2, f4.2, l5, fun z hz' => ?_, by rw [f4.1]; omega, p4, by omega, fun H4 ap s4 hap => ?_⟩
          · rcases fac_mem hk4 hz' with q | q | q
            · rw [q]; decide
            · rw [q]; omega
            · rw [q]; omega
          have R4 := (R2.same s3).same s4
          have sb4 : Sb r H H4 := (sb2.trans s3.sb).trans s4.sb
          refine ⟨_, rfl, r, ta, cs, e, u, rfl, R4, ?_⟩
          have up := upon_pos (x := facL kk n d) (y := pr) (by rw [f4.1]; omega) p4
          have e1 : ([n, (d : Int)] : List Int).getD 0 0 = n := rfl
          have e2 : ([n, (d : Int)] : List Int).getD 1 0 = d := rfl
          simp only [e1, e2] at em
          cases u with
          | nil =>
            simp only [List.isEmpty_nil, if_true] at em
            rw [em] at k
            exact iteT ⟨V.ref ap, rfl, k H4 ap R4 sb4 (SqT.of hap)⟩
          | cons c u =>
            simp only [List.isEmpty_cons, Bool.false_eq_true, if_false] at em
            refine iteF ⟨_, rfl, r, ta, cs, e, c :: u, rfl, R4, ?_⟩
            cases hs : sk (" " : Str).cps.toList (c :: u) with
            | none =>
              rw [hs] at em
              rw [em] at k
              exact got_none hs k
            | some x =>
              obtain ⟨_, v⟩ := x
              rw [hs] at em
              have hv := sk_len hs
              have hv' : v.length + 1 = (c :: u).length := hv
              obtain ⟨dx4, p4', i4⟩ := R4.ins
              refine got_some hs fun H5 R5 s5 => ?_
              refine ⟨v.length, by simp at hv' hu; omega, v, kk + 1, fuel, ap, _, some (V.int z), some (int_ kk), some (V.ref pa2), ?_, sb4.trans s5, R5, Sb.tup s5 i4 (SqT.of hap), upon_len _ _, up.1, ?_, by omega, em, by simp at hv' hu; omega, rfl⟩
              · have : ((kk + 1 : Nat) : Int) - 1 = kk := by omega
                rw [this]
                rfl
              · refine Int.le_trans up.2 ?_
                rw [f4.1]
                have h9 : (d : Int) * pr.getD 4 0 ≤ 9999 * 9999 ^ least := Int.mul_le_mul (by omega) b4 (by omega) (by decide)
                have h8 : (9999 : Int) * 9999 ^ least ≤ 9999 ^ (kk + 1) := by
                  have : (9999 : Nat) * 9999 ^ least ≤ 9999 ^ (kk + 1) := by
                    rw [← Nat.pow_succ']
                    exact Nat.pow_le_pow_right (by decide) (by omega)
                  have := Int.ofNat_le.mpr this
                  simpa using this
                omega
end
end Lt
end
section
set_option Elab.async false
set_option linter.all false
set_option maxRecDepth 100000
set_option maxHeartbeats 400000
namespace Lt
open PySem PySem.Spec PyProof.Rows L2
theorem gott_none {K : PySem.W.Frag} {CR CT r ta : Addr} {cs : List UInt8} {e : Nat} {H : Hp} {Q : VK} {E : XK} {res : Option (List Int × List UInt8)} (h : res = none) (k : ∀ z : Int, E (.ref CT) none (xH [("place", .int z)])) : GotT K CR CT r ta cs e H Q E res := by
  rw [h]; exact k
theorem gott_some {K : PySem.W.Frag} {CR CT r ta : Addr} {cs : List UInt8} {e : Nat} {H : Hp} {Q : VK} {E : XK} {res : Option (List Int × List UInt8)} {l : List Int} {t : List UInt8} (h : res = some (l, t)) (k : ∀ H' a, Rd K CR H' r ta cs e t → Sb r H H' → SqT K H' a (l.map V.int) → Q (.ref a) H') : GotT K CR CT r ta cs e H Q E res := by
  rw [h]; exact k
def mIv (dz fz : Str) (l : List UInt8) : Option (List Int) := if see "1" l = true then (match mUn l with
    | none => none
    | some (x, _) => some x)
  else match mFcs dz fz l with
    | none => none
    | some (x, _) => if isIv x = true then some x else none
theorem mFc_len {dz fz : Str} : ∀ {f least : Nat} {pr x : List Int} {l t : List UInt8}, mFc dz fz f least pr l = some (x, t) → x.length = 5
  | 0, _, _, _, _, _, h => by rw [mFc] at h; cases h
  | f + 1, least, pr, x, l, t, h => by
    rw [mFc] at h
    cases hp : pk fz l with
    | none => simp only [hp] at h; cases h
    | some y =>
      obtain ⟨k, u⟩ := y
      simp only [hp] at h
      cases hw : mPw dz u with
      | none => simp only [hw] at h; cases h
      | some y =>
        obtain ⟨q, v⟩ := y
        simp only [hw] at h
        split at h
        · cases h
        · split at h
          · cases h; exact upon_len _ _
          · cases hs : sk (" " : Str).cps.toList v with
            | none => rw [hs] at h; cases h
            | some y =>
              obtain ⟨_, v'⟩ := y
              rw [hs] at h
              exact mFc_len h
theorem isIv_sm {x : List Int} (h5 : x.length = 5) (h : isIv x = true) : Sm x := by
  unfold isIv at h
  simp only [Bool.and_eq_true, decide_eq_true_eq] at h
  obtain ⟨h1, ⟨h2, h3⟩, _⟩ := h
  refine ⟨h5, fun k hk => ?_, h2, h3⟩
  have hm : x.getD k 0 ∈ x.take 4 := by
    have hlt : k < x.length := by omega
    have : (x.take 4)[k]? = some (x.getD k 0) := by rw [List.getElem?_take]; simp [hk, List.getD, List.getElem?_eq_getElem hlt]
    exact List.mem_of_getElem? this
  have := List.all_eq_true.mp h1 _ hm
  simpa using this
theorem sm_un5 : Sm un5 := ⟨rfl, fun k hk => by match k, hk with | 0, _ => decide | 1, _ => decide | 2, _ => decide | 3, _ => decide, by decide, by decide⟩
theorem mIv_sm {dz fz : Str} {l : List UInt8} {x : List Int} (h : mIv dz fz l = some x) : Sm x := by
  unfold mIv at h
  split at h
  · cases hu : mUn l with
    | none => rw [hu] at h; cases h
    | some y =>
      obtain ⟨y, t⟩ := y
      rw [hu] at h
      cases h
      unfold mUn at hu
      cases hs : sk ("1" : Str).cps.toList l with
      | none => rw [hs] at hu; cases hu
      | some z =>
        obtain ⟨_, v⟩ := z
        simp only [hs] at hu
        split at hu
        · cases hu; exact sm_un5
        · cases hu
  · cases hf : mFcs dz fz l with
    | none => rw [hf] at h; cases h
    | some y =>
      obtain ⟨y, t⟩ := y
      simp only [hf] at h
      split at h
      · rename_i hi
        cases h
        exact isIv_sm (mFc_len hf) hi
      · cases h
/-- a tuple, or a fault; nothing that was there has changed -/
def GotI (K : PySem.W.Frag) (CT : Addr) (H : Hp) (Q : VK) (E : XK) : Option (List Int) → Prop
  | some l => ∀ H' a, Same H H' → SqT K H' a (l.map V.int) → Q (.ref a) H'
  | none => ∀ z : Int, E (.ref CT) none (xH [("place", .int z)])
def spRIv (K : PySem.W.Frag) (CT : Addr) (dz fz : Str) : Sp := fun vs H Q E => ∃ (ta : Addr) (cs : List UInt8) (p e : Nat), vs = [.ref ta, .int (p : Nat), .int (e : Nat)] ∧ SqL K H ta (cs.map cV) ∧ p ≤ e ∧ e ≤ cs.length ∧ GotI K CT H Q E (mIv dz fz ((cs.take e).drop p))
theorem fresh_same {H H1 H2 : Hp} {x dx C : Addr} {fs : List (Str × V)} (nx : H x = none) (nd : H dx = none) (s1 : Sb x (upd (upd H dx (.own x)) x (.ins C dx fs)) H1) (s2 : Sb x H1 H2) : Same H H2 := fun b o e => by
  have n1 := ne_of_none e nx
  have n2 := ne_of_none e nd
  exact s2 b o (s1 b o (by rw [upd_ne n1, upd_ne n2]; exact e) n1) n1
section
variable {P : Program} {w : World} {K : PySem.W.Frag} {mg : Str → Option Value} {base : Heap} {C CT : Addr} {dz fz : Str}
theorem sc_riv : FnScope ["text", "place", "end", "reader", "interval"] ["text", "place", "end"] (defScope s_read_interval) := ⟨rfl, rfl, rfl, by decide +kernel, rfl, by decide +kernel, by decide +kernel⟩
theorem ok_riv {f : Addr} {fd : FuncData} (F : Fun K "read_interval" "read_interval" s_read_interval f fd) (R : RdE P w K mg base C CT dz) (D1 : Def P w K mg base 5 "read_unison" ["reader"] (spOneT K C CT mUn))
    (D2 : Def P w K mg base 7 "read_factors" ["reader"] (spOneT K C CT (mFcs dz fz))) (D3 : Def P w K mg base 3 "is_interval" ["numbers"] (spII K)) : FnOk P w K mg base (CX1 P w) 8 f fd ["text", "place", "end"] (spRIv K CT dz fz) := by
  refine F.okx sc_riv (fun vs H Q E h => ?_) (fun cdv A outer s H vs Q E hr h => ?_)
  · obtain ⟨ta, cs, p, e, rfl, _⟩ := h
    rfl
  · obtain ⟨ta, cs, p, e, rfl, htx, hpe, hel, k⟩ := h
    refine ⟨_, (pss_cons (ps_set (i := 3) sc_riv.nd rfl (Or.inl rfl) (R.mkr.call hr out_cx (pa_cons (pv 0) (pa_cons (pv 1) (pa_cons (pv 2) pa_nil)))))
      (pss_cons (ps_if (pt_sees R hr out_cx (pv 3) pe_str (oks (by decide +kernel))) (pss_one (ps_ret (pe_parT D1 hr out_cx (pv 3)))) pss_nil)
      (pss_cons (ps_set (i := 4) sc_riv.nd rfl (Or.inl rfl) (pe_parT D2 hr out_cx (pv 3)))
      (pss_cons (ps_if (pt_not (pt_val (D3.call hr out_cx (pa_cons (pv 4) pa_nil)))) (pss_one (ps_fault R.X1 hr out_cx rfl (pv 2))) pss_nil)
      (pss_one (ps_ret (pv 4))))))), ?_⟩
    refine ⟨_, rfl, _, rfl, _, rfl, fun x dx nx nd hne => ⟨x, dx, ta, (p : Int), (e : Int), rfl, upd_same, fun H1 h1 s1 => ⟨rfl, ?_⟩⟩⟩
    have R1 : Rd K C H1 x ta cs e ((cs.take e).drop p) := by
      refine ⟨⟨dx, p, h1, rfl, hpe⟩, ?_, hel⟩
      have sm : Same H H1 := fresh_same nx nd s1 Sb.refl
      exact sm.seq htx
    have fin : ∀ {H2 : Hp}, Sb x H1 H2 → Same H H2 := fun s2 => fresh_same nx nd s1 s2
    unfold mIv at k
    refine ⟨V.ref x, rfl, x, ta, cs, e, _, rfl, R1, fun H2 s2 => ?_⟩
    have R2 := R1.same s2
    cases hs : see "1" ((cs.take e).drop p) with
    | true =>
      rw [if_pos hs] at k
      refine iteT ⟨V.ref x, rfl, x, ta, cs, e, _, rfl, R2, ?_⟩
      cases hu : mUn ((cs.take e).drop p) with
      | none => rw [hu] at k; exact gott_none hu k
      | some y =>
        obtain ⟨y, t⟩ := y
        rw [hu] at k
        exact gott_some hu fun H3 a R3 s3 q => k H3 a (fin (s2.sb.trans s3)) q
    | false =>
      rw [if_neg (by rw [hs]; decide)] at k
      refine iteF ⟨V.ref x, rfl, x, ta, cs, e, _, rfl, R2, ?_⟩
      cases hf : mFcs dz fz ((cs.take e).drop p) with
      | none => rw [hf] at k; exact gott_none hf k
      | some y =>
        obtain ⟨y, t⟩ := y
        simp only [hf] at k
        refine gott_some hf fun H3 a R3 s3 q => ?_
        refine ⟨V.ref a, rfl, a, y, rfl, q, mFc_len hf, fun H4 s4 => ⟨_, rfl, ?_⟩⟩
        cases hi : isIv y with
        | true =>
          rw [if_pos hi] at k
          exact iteF ⟨V.ref a, rfl, k H4 a (fin ((s2.sb.trans s3).trans s4.sb)) (s4.tup q)⟩
        | false =>
          rw [if_neg (by rw [hi]; decide)] at k
          exact iteT ⟨V.int (e : Nat), rfl, _, rfl, k _⟩
def lf (c : UInt8) : Bool := c != 10
def mRest (dz fz : Str) (l : List UInt8) : Option (List Int × List UInt8) := match mIv dz fz (l.takeWhile lf) with
  | none => none
  | some x => some (x, l.drop (l.takeWhile lf).length)
theorem sc_rr : FnScope ["reader", "end", "interval"] ["reader"] (defScope s_read_rest) := ⟨rfl, rfl, rfl, by decide +kernel, rfl, by decide +kernel, by decide +kernel⟩
theorem take_while_at {l : List UInt8} {i : Nat} (h : i ≤ (l.takeWhile lf).length) : (∀ c, l[i]? = some c → (lf c = true ↔ i < (l.takeWhile lf).length)) ∧ (l[i]? = none → i = (l.takeWhile lf).length) := by
  induction l generalizing i with
  | nil => simp at h; subst h; simp
  | cons c t ih =>
    by_cases hc : lf c = true
    · rw [List.takeWhile_cons_of_pos hc] at h ⊢
      cases i with
      | zero => simp [hc]
      | succ i =>
        simp at h
        have := ih h
        refine ⟨fun c' e => ?_, fun e => ?_⟩
        · rw [List.getElem?_cons_succ] at e
          rw [this.1 c' e]; simp
        · rw [List.getElem?_cons_succ] at e
          simp [this.2 e]
    · rw [List.takeWhile_cons_of_neg hc] at h ⊢
      simp at h
      subst h
      simp [hc]
theorem rest_tw {cs rest : List UInt8} {e p : Nat} (h2 : rest = (cs.take e).drop p) (hl : p + (rest.takeWhile lf).length ≤ e) (he : e ≤ cs.length) : (cs.take (p + (rest.takeWhile lf).length)).drop p = rest.takeWhile lf := by
  have h1 : rest.takeWhile lf = rest.take (rest.takeWhile lf).length := (List.prefix_iff_eq_take.mp (List.takeWhile_prefix lf))
  generalize hn : (rest.takeWhile lf).length = n at *
  rw [h1, h2, List.drop_take, List.drop_take, List.take_take]
  congr 1
  omega
theorem goti_none {K : PySem.W.Frag} {CT : Addr} {H : Hp} {Q : VK} {E : XK} {res : Option (List Int)} (h : res = none) (k : ∀ z : Int, E (.ref CT) none (xH [("place", .int z)])) : GotI K CT H Q E res := by
  rw [h]; exact k
theorem goti_some {K : PySem.W.Frag} {CT : Addr} {H : Hp} {Q : VK} {E : XK} {res : Option (List Int)} {l : List Int} (h : res = some l) (k : ∀ H' a, Same H H' → SqT K H' a (l.map V.int) → Q (.ref a) H') : GotI K CT H Q E res := by
  rw [h]; exact k
theorem ok_rr {f : Addr} {fd : FuncData} (F : Fun K "read_rest" "read_rest" s_read_rest f fd) (R : RdE P w K mg base C CT dz) (gl : GI mg "LINE_FEED" 10) (D1 : Def P w K mg base 8 "read_interval" ["text", "place", "end"] (spRIv K CT dz fz)) :
    FnOk P w K mg base (CX1 P w) 9 f fd ["reader"] (spOneT K C CT (mRest dz fz)) := by
  refine F.okx sc_rr (fun vs H Q E h => ?_) (fun cdv A outer s H vs Q E hr h => ?_)
  · obtain ⟨r, ta, cs, e, rest, rfl, _⟩ := h
    rfl
  · obtain ⟨r, ta, cs, e, rest, rfl, Rr, k⟩ := h
    refine ⟨_, (pss_cons (ps_set (i := 1) sc_rr.nd rfl (Or.inl rfl) (pe_fld (pv 0) rfl))
      (pss_cons (ps_while PassesOwn.leaving (pw_and (pt_cmpR op_lt (pv 1) (pe_fld (pv 0) rfl) (nomark _)) (pw_and1 (pt_cmpR op_ne (pe_ix ix_list (pe_fld (pv 0) rfl) (pv 1) (fun _ _ => rfl)) (pe_gi gl) (nomark _)))).pt (pss_one (ps_aug (i := 1) sc_rr.nd rfl (Or.inl rfl) pe_int ip_add)))
      (pss_cons (ps_set (i := 2) sc_rr.nd rfl (Or.inl rfl) (D1.call hr out_cx (pa_cons (pe_fld (pv 0) rfl) (pa_cons (pe_fld (pv 0) rfl) (pa_cons (pv 1) pa_nil)))))
      (pss_cons (ps_fld (pv 0) (pv 1) rfl)
      (pss_one (ps_ret (pv 2))))))), ?_⟩
    obtain ⟨dx, p, h1, h2, h3⟩ := Rr.at_
    refine ⟨V.ref r, rfl, r, C, dx, _, _, rfl, h1, R.T.cl, R.T.np, rf_p _ _ _, ?_⟩
    have hlen : rest.length = e - p := by rw [h2, List.length_drop, List.length_take]; have := Rr.le; omega
    have htw : (rest.takeWhile lf).length ≤ rest.length := (List.takeWhile_sublist lf).length_le
    have hget : ∀ i : Nat, i < rest.length → ∃ c, rest[i]? = some c ∧ cs[p + i]? = some c := fun i hi => by
      refine ⟨rest[i], List.getElem?_eq_getElem hi, ?_⟩
      have q : rest[i]? = some rest[i] := List.getElem?_eq_getElem hi
      have q2 : rest[i]? = ((cs.take e).drop p)[i]? := congrArg (fun l => l[i]?) h2
      rw [List.getElem?_drop, List.getElem?_take, if_pos (by omega)] at q2
      rw [← q2, q]
    refine ⟨fun m σ H' => H' = H ∧ ∃ i : Nat, i ≤ (rest.takeWhile lf).length ∧ σ = [some (.ref r), some (.int ((p + i : Nat) : Int)), none] ∧ m = rest.length - i, ⟨rest.length, rfl, 0, Nat.zero_le _, rfl, rfl⟩, ?_⟩
    rintro m σ H' ⟨rfl, i, hi, rfl, rfl⟩
    have tw := take_while_at hi
    refine ⟨_, rfl, V.ref r, rfl, r, C, dx, _, _, rfl, h1, R.T.cl, R.T.ne, rf_e _ _ _, _, _, rfl, rfl, _, rfl, ite2 (fun hlt => ?_) (fun hlt => ?_)⟩
    · have hlt' : p + i < e := by
        have : ((p + i : Nat) : Int) < (e : Int) := by simpa using hlt
        omega
      obtain ⟨c, hc1, hc2⟩ := hget i (by omega)
      refine ⟨V.ref r, rfl, r, C, dx, _, _, rfl, h1, R.T.cl, R.T.nt, rf_t _ _ _, _, rfl, ta, _, _, _, rfl, rfl, Rr.tx, atI_nat (v := cV c) (by rw [List.getElem?_map, hc2]; rfl), rfl, _, rfl, ?_⟩
      have e10 : decide (cV c = V.int 10) = !(lf c) := by
        unfold lf cV
        rw [bne, Bool.not_not]
        have : (V.int ((c.toNat : Nat) : Int) = V.int 10) ↔ c = 10 := by
          constructor
          · intro q; injection q with q
            apply UInt8.toNat_inj.mp
            show c.toNat = 10
            omega
          · intro q; rw [q]; rfl
        rw [decide_eq_decide.mpr this]
        rfl
      rw [e10, Bool.not_not]
      cases hl : lf c with
      | true =>
        refine wh_true ⟨_, rfl, _, _, rfl, rfl, rest.length - (i + 1), by omega, rfl, i + 1, (tw.1 c hc1).mp hl, ?_, rfl⟩
        show [some (V.ref r), some (V.int (((p + i : Nat) : Int) + 1)), none] = _
        have : ((p + i : Nat) : Int) + 1 = ((p + (i + 1) : Nat) : Int) := by omega
        rw [this]
      | false =>
        have hi' : i = (rest.takeWhile lf).length := by
          have : ¬ i < (rest.takeWhile lf).length := fun q => by have := (tw.1 c hc1).mpr q; rw [hl] at this; cases this
          omega
        subst hi'
        refine iteF ⟨V.ref r, rfl, r, C, dx, _, _, rfl, h1, R.T.cl, R.T.nt, rf_t _ _ _, V.ref r, rfl, r, C, dx, _, _, rfl, h1, R.T.cl, R.T.np, rf_p _ _ _, _, rfl, ta, cs, p, p + (rest.takeWhile lf).length, rfl, Rr.tx, by omega, by have := Rr.le; omega, ?_⟩
        have er : (cs.take (p + (rest.takeWhile lf).length)).drop p = rest.takeWhile lf := rest_tw h2 (by omega) Rr.le
        unfold mRest at k
        cases hm : mIv dz fz (rest.takeWhile lf) with
        | none => rw [hm] at k; exact goti_none (by rw [er]; exact hm) k
        | some x =>
          simp only [hm] at k
          refine goti_some (by rw [er]; exact hm) fun H2 a s2 q => ?_
          have h12 := s2 _ _ h1
          refine ⟨_, rfl, V.ref r, rfl, r, C, dx, _, rfl, h12, R.T.cl, R.T.np, (by show 3 < 1000; decide), V.ref a, rfl, ?_⟩
          have sb : Sb r H2 (upd H2 r (.ins C dx (putF "place" (.int ((p + (rest.takeWhile lf).length : Nat) : Int)) (rf ta p e)))) := fun b o eb hb => by rw [upd_ne hb]; exact eb
          refine k _ a ⟨⟨dx, p + (rest.takeWhile lf).length, Eq.trans upd_same rfl, ?_, by omega⟩, Sb.lst sb h12 (s2.seq Rr.tx), Rr.le⟩ (s2.sb.trans sb) (Sb.tup sb h12 q)
          rw [h2, List.drop_drop, ← h2]
    · have hge : ¬ p + i < e := by
        have : ¬ ((p + i : Nat) : Int) < (e : Int) := by simpa using hlt
        omega
      have hi' : i = (rest.takeWhile lf).length := by omega
      subst hi'
      refine iteF ⟨V.ref r, rfl, r, C, dx, _, _, rfl, h1, R.T.cl, R.T.nt, rf_t _ _ _, V.ref r, rfl, r, C, dx, _, _, rfl, h1, R.T.cl, R.T.np, rf_p _ _ _, _, rfl, ta, cs, p, p + (rest.takeWhile lf).length, rfl, Rr.tx, by omega, by have := Rr.le; omega, ?_⟩
      have er : (cs.take (p + (rest.takeWhile lf).length)).drop p = rest.takeWhile lf := rest_tw h2 (by omega) Rr.le
      unfold mRest at k
      cases hm : mIv dz fz (rest.takeWhile lf) with
      | none => rw [hm] at k; exact goti_none (by rw [er]; exact hm) k
      | some x =>
        simp only [hm] at k
        refine goti_some (by rw [er]; exact hm) fun H2 a s2 q => ?_
        have h12 := s2 _ _ h1
        refine ⟨_, rfl, V.ref r, rfl, r, C, dx, _, rfl, h12, R.T.cl, R.T.np, (by show 3 < 1000; decide), V.ref a, rfl, ?_⟩
        have sb : Sb r H2 (upd H2 r (.ins C dx (putF "place" (.int ((p + (rest.takeWhile lf).length : Nat) : Int)) (rf ta p e)))) := fun b o eb hb => by rw [upd_ne hb]; exact eb
        refine k _ a ⟨⟨dx, p + (rest.takeWhile lf).length, Eq.trans upd_same rfl, ?_, by omega⟩, Sb.lst sb h12 (s2.seq Rr.tx), Rr.le⟩ (s2.sb.trans sb) (Sb.tup sb h12 q)
        rw [h2, List.drop_drop, ← h2]
end
end Lt
end
section
set_option Elab.async false
set_option linter.all false
set_option maxRecDepth 100000
set_option maxHeartbeats 400000
namespace Lt
open PySem PySem.Spec PyProof.Rows L2
def SbL (S : List Addr) (H H' : Hp) : Prop := ∀ b o, H b = some o → b ∉ S → H' b = some o
theorem SbL.trans {S : List Addr} {H H1 H2 : Hp} (a : SbL S H H1) (b : SbL S H1 H2) : SbL S H H2 := fun c o e n => b c o (a c o e n) n
theorem Sb.l {r : Addr} {S : List Addr} {H H' : Hp} (s : Sb r H H') (h : r ∈ S) : SbL S H H' := fun b o e n => s b o e fun z => n (z ▸ h)
theorem Same.l {S : List Addr} {H H' : Hp} (s : Same H H') : SbL S H H' := fun b o e _ => s b o e
theorem SbL.refl {S : List Addr} {H : Hp} : SbL S H H := fun _ _ e _ => e
/-- a list of tuples of numbers -/
def LT (K : PySem.W.Frag) (H : Hp) (a : Addr) (ls : List (List Int)) : Prop := ∃ as : List Addr, H a = some (.lst (as.map V.ref)) ∧ Paired (fun b l => SqT K H b (l.map V.int)) as ls
theorem paired_mono {α β : Type} {F G : α → β → Prop} : ∀ {l : List α} {m : List β}, Paired F l m → (∀ a b, F a b → G a b) → Paired G l m
  | _, _, .nil, _ => .nil
  | _, _, .cons r t, f => .cons (f _ _ r) (paired_mono t f)
theorem paired_snoc {α β : Type} {F : α → β → Prop} {x : α} {y : β} (h : F x y) : ∀ {l : List α} {m : List β}, Paired F l m → Paired F (l ++ [x]) (m ++ [y])
  | _, _, .nil => .cons h .nil
  | _, _, .cons r t => .cons r (paired_snoc h t)
theorem paired_at {α β : Type} {F : α → β → Prop} : ∀ {l : List α} {m : List β} {i : Nat} {a : α}, Paired F l m → l[i]? = some a → ∃ b, m[i]? = some b ∧ F a b
  | _, _, _, _, .nil, e => by simp at e
  | _, _, 0, _, .cons r _, e => by simp at e; subst e; exact ⟨_, rfl, r⟩
  | _, _, i + 1, _, .cons _ t, e => by
    obtain ⟨b, h1, h2⟩ := paired_at (i := i) t (by simpa using e)
    exact ⟨b, by simpa using h1, h2⟩
def ifs (af ac ab : Addr) : List (Str × V) := [("frets", .ref af), ("courses", .ref ac), ("basses", .ref ab)]
/-- the Instrument at ia: its frets, courses, basses -/
structure InA (K : PySem.W.Frag) (CI : Addr) (H : Hp) (ia af ac ab : Addr) (fr co ba : List (List Int)) : Prop where
  at_ : ∃ dx, H ia = some (.ins CI dx (ifs af ac ab))
  fr_ : LT K H af fr
  co_ : LT K H ac co
  ba_ : LT K H ab ba
  n1 : af ≠ ac
  n2 : af ≠ ab
  n3 : ac ≠ ab
  sf : ∀ l ∈ fr, Sm l
  sc : ∀ l ∈ co, Sm l
  sb : ∀ l ∈ ba, Sm l
  lf : fr.length ≤ 15
  lc : co.length + ba.length ≤ 14
/-- what keeps lists, tuples and other instances keeps it -/
def Kp (H H' : Hp) : Prop := (∀ b xs, H b = some (.lst xs) → H' b = some (.lst xs)) ∧ (∀ b xs, H b = some (.tup xs) → H' b = some (.tup xs)) ∧ (∀ b o u, H b = some (.frz o u) → H' b = some (.frz o u)) ∧
  ∀ b C dx af ac ab, H b = some (.ins C dx (ifs af ac ab)) → H' b = some (.ins C dx (ifs af ac ab))
theorem ifs_rf {af ac ab ta : Addr} {p e : Int} : ifs af ac ab ≠ rf ta p e := by
  intro q
  unfold ifs rf at q
  have := (Prod.mk.inj (List.cons.inj q).1).1
  exact absurd this (by decide +kernel)
theorem Sb.kp {r C dx ta : Addr} {p e : Int} {H H' : Hp} (s : Sb r H H') (h : H r = some (.ins C dx (rf ta p e))) : Kp H H' :=
  ⟨fun b xs q => s _ _ q (ne_of q h (by intro z; cases z)), fun b xs q => s _ _ q (ne_of q h (by intro z; cases z)), fun b o u q => s _ _ q (ne_of q h (by intro z; cases z)),
    fun b C' dx' af ac ab q => s _ _ q (ne_of q h (by intro z; injection z with _ _ z; exact ifs_rf z))⟩
theorem Same.kp {H H' : Hp} (s : Same H H') : Kp H H' := ⟨fun b xs q => s _ _ q, fun b xs q => s _ _ q, fun b o u q => s _ _ q, fun b C dx af ac ab q => s _ _ q⟩
theorem Kp.trans {H H1 H2 : Hp} (a : Kp H H1) (b : Kp H1 H2) : Kp H H2 := ⟨fun c xs q => b.1 _ _ (a.1 _ _ q), fun c xs q => b.2.1 _ _ (a.2.1 _ _ q), fun c o u q => b.2.2.1 _ _ _ (a.2.2.1 _ _ _ q), fun c C dx af ac ab q => b.2.2.2 _ _ _ _ _ _ (a.2.2.2 _ _ _ _ _ _ q)⟩
theorem Kp.tup {K : PySem.W.Frag} {H H' : Hp} {a : Addr} {xs : List V} (k : Kp H H') (h : SqT K H a xs) : SqT K H' a xs := by
  rcases h with (h | ⟨o, h⟩) | h
  · exact .inl (.inl (k.2.1 _ _ h))
  · exact .inl (.inr ⟨o, k.2.2.1 _ _ _ h⟩)
  · exact .inr h
theorem Kp.lt {K : PySem.W.Frag} {H H' : Hp} {a : Addr} {ls : List (List Int)} (k : Kp H H') (h : LT K H a ls) : LT K H' a ls := let ⟨as, h1, h2⟩ := h; ⟨as, k.1 _ _ h1, paired_mono h2 fun _ _ q => k.tup q⟩
theorem InA.kp {K : PySem.W.Frag} {CI ia af ac ab : Addr} {H H' : Hp} {fr co ba : List (List Int)} (I : InA K CI H ia af ac ab fr co ba) (k : Kp H H') : InA K CI H' ia af ac ab fr co ba :=
  ⟨let ⟨dx, q⟩ := I.at_; ⟨dx, k.2.2.2 _ _ _ _ _ _ q⟩, k.lt I.fr_, k.lt I.co_, k.lt I.ba_, I.n1, I.n2, I.n3, I.sf, I.sc, I.sb, I.lf, I.lc⟩
/-- a list of the module's own part -/
def KTx (K : PySem.W.Frag) (a : Addr) (xs : List V) : Prop := ∃ (o : Obj) (its : Array Value) (n : Nat), K.lookup a = some o ∧ o.cls = .type "list" ∧ o.dict = none ∧ o.data = .seq its n ∧ its.size ≤ sizeLine ∧ Vals xs its.toList
theorem Rd.kp {K : PySem.W.Frag} {C r ta : Addr} {H H' : Hp} {cs rest : List UInt8} {e a : Nat} {xs ys : List V} (R : Rd K C H r ta cs e rest) (h : H a = some (.lst xs)) (ht : ¬ a = ta ∨ KTx K ta (cs.map cV)) (s : ∀ b o, H b = some o → b ≠ a → H' b = some o) : Rd K C H' r ta cs e rest := by
  obtain ⟨⟨dx, p, q, w⟩, t, l⟩ := R
  refine ⟨⟨dx, p, s _ _ q (ne_of q h (by intro z; cases z)), w⟩, ?_, l⟩
  rcases ht with ht | ht
  · rcases t with (t | ⟨o, t⟩) | t
    · exact .inl (.inl (s _ _ t (Ne.symm ht)))
    · exact .inl (.inr ⟨o, s _ _ t (Ne.symm ht)⟩)
    · exact .inr t
  · exact .inr ht
abbrev St3 := List (List Int) × List (List Int) × List (List Int)
def GotL (K : PySem.W.Frag) (CR CI CT r ta : Addr) (cs : List UInt8) (e : Nat) (ia af ac ab : Addr) (H : Hp) (Q : VK) (E : XK) : Option (St3 × List UInt8) → Prop
  | some ((fr, co, ba), rest') => ∀ H', Rd K CR H' r ta cs e rest' → InA K CI H' ia af ac ab fr co ba → SbL [r, af, ac, ab] H H' → Q .non H'
  | none => ∀ z : Int, E (.ref CT) none (xH [("place", .int z)])
theorem gotl_none {K : PySem.W.Frag} {CR CI CT r ta : Addr} {cs : List UInt8} {e : Nat} {ia af ac ab : Addr} {H : Hp} {Q : VK} {E : XK} {res : Option (St3 × List UInt8)} (h : res = none) (k : ∀ z : Int, E (.ref CT) none (xH [("place", .int z)])) : GotL K CR CI CT r ta cs e ia af ac ab H Q E res := by
  rw [h]; exact k
theorem gotl_some {K : PySem.W.Frag} {CR CI CT r ta : Addr} {cs : List UInt8} {e : Nat} {ia af ac ab : Addr} {H : Hp} {Q : VK} {E : XK} {res : Option (St3 × List UInt8)} {fr co ba : List (List Int)} {t : List UInt8} (h : res = some ((fr, co, ba), t))
    (k : ∀ H', Rd K CR H' r ta cs e t → InA K CI H' ia af ac ab fr co ba → SbL [r, af, ac, ab] H H' → Q .non H') : GotL K CR CI CT r ta cs e ia af ac ab H Q E res := by
  rw [h]; exact k
def spLn (K : PySem.W.Frag) (C CI CT : Addr) (m : St3 → List UInt8 → Option (St3 × List UInt8)) : Sp := fun vs H Q E => ∃ (r ta : Addr) (cs : List UInt8) (e : Nat) (rest : List UInt8) (ia af ac ab : Addr) (fr co ba : List (List Int)),
  vs = [.ref r, .ref ia] ∧ Rd K C H r ta cs e rest ∧ InA K CI H ia af ac ab fr co ba ∧ ((ta ≠ af ∧ ta ≠ ac ∧ ta ≠ ab) ∨ KTx K ta (cs.map cV)) ∧ GotL K C CI CT r ta cs e ia af ac ab H Q E (m (fr, co, ba) rest)
def mSW (z : Str) (m : Bool) (l : List UInt8) : Option (Unit × List UInt8) := match sk z.cps.toList l with
  | none => none
  | some (_, t) => if m = true then sk (" " : Str).cps.toList t else none
def spSW (K : PySem.W.Frag) (C CT : Addr) : Sp := fun vs H Q E => ∃ (r ta : Addr) (cs : List UInt8) (e : Nat) (rest : List UInt8) (z : Str) (m : Bool), vs = [.ref r, .str z, .bl m] ∧ Rd K C H r ta cs e rest ∧ OkS z ∧ Got K C CT r ta cs e H Q E non_ (mSW z m rest)
def mFret (dz fz : Str) : St3 → List UInt8 → Option (St3 × List UInt8)
  | (fr, co, ba), l => match mSW "fret" (decide (fr.length < 15)) l with
    | none => none
    | some (_, t) => match mRest dz fz t with
      | none => none
      | some (x, u) => if narrowL (fr.getLastD un5) x = true then some ((fr ++ [x], co, ba), u) else none
def mCourse (dz fz : Str) : St3 → List UInt8 → Option (St3 × List UInt8)
  | (fr, co, ba), l => match mSW "course" (decide (co.length + ba.length < 14)) l with
    | none => none
    | some (_, t) => match mRest dz fz t with
      | none => none
      | some (x, u) => if (fr.all fun f => isIv (uponL f x)) = true then some ((fr, co ++ [x], ba), u) else none
def mBass (dz fz : Str) : St3 → List UInt8 → Option (St3 × List UInt8)
  | (fr, co, ba), l => match mSW "bass" (decide (co.length + ba.length < 14)) l with
    | none => none
    | some (_, t) => match mRest dz fz t with
      | none => none
      | some (x, u) => some ((fr, co, ba ++ [x]), u)
theorem mRest_sm {dz fz : Str} {l t : List UInt8} {x : List Int} (h : mRest dz fz l = some (x, t)) : Sm x := by
  unfold mRest at h
  cases hm : mIv dz fz (l.takeWhile lf) with
  | none => rw [hm] at h; cases h
  | some y => rw [hm] at h; cases h; exact mIv_sm hm
structure InC (K : PySem.W.Frag) (CI : Addr) : Prop where
  cl : Cls K CI
  nf : NoAttr K CI "frets"
  nc : NoAttr K CI "courses"
  nb : NoAttr K CI "basses"
def spII0 (CI : Addr) : Sp := fun vs H Q _ => ∃ (ia dx : Addr), vs = [.ref ia] ∧ H ia = some (.ins CI dx []) ∧ ∀ H' af ac ab, H' ia = some (.ins CI dx (ifs af ac ab)) → H' af = some (.lst []) → H' ac = some (.lst []) → H' ab = some (.lst []) → H af = none → H ac = none → H ab = none → af ≠ ac → af ≠ ab → ac ≠ ab → Sb ia H H' → Q .non H'
def spSC (K : PySem.W.Frag) (CI : Addr) : Sp := fun vs H Q _ => ∃ (ia af ac ab : Addr) (fr co ba : List (List Int)), vs = [.ref ia] ∧ InA K CI H ia af ac ab fr co ba ∧ Q (.int ((co.length + ba.length : Nat) : Int)) H
theorem ifs_f (af ac ab : Addr) : (ifs af ac ab).lookup ("frets" : Str) = some (.ref af) := rfl
theorem ifs_c (af ac ab : Addr) : (ifs af ac ab).lookup ("courses" : Str) = some (.ref ac) := rfl
theorem ifs_b (af ac ab : Addr) : (ifs af ac ab).lookup ("basses" : Str) = some (.ref ab) := rfl
theorem ifs_no (af ac ab : Addr) {m : Str} (h1 : (m == "frets") = false) (h2 : (m == "courses") = false) (h3 : (m == "basses") = false) : (ifs af ac ab).lookup m = none := by
  unfold ifs
  simp only [List.lookup, h1, h2, h3]
theorem LT.len {K : PySem.W.Frag} {H : Hp} {a : Addr} {ls : List (List Int)} (h : LT K H a ls) : ∃ ys, SqL K H a ys ∧ ys.length = ls.length := let ⟨as, h1, h2⟩ := h; ⟨_, SqL.of h1, by rw [List.length_map]; exact Paired.length h2⟩
section
variable {P : Program} {w : World} {K : PySem.W.Frag} {mg : Str → Option Value} {base : Heap} {C CI CT : Addr} {dz fz : Str}
theorem sc_sw : FnScope ["reader", "word", "more_may_come", "start"] ["reader", "word", "more_may_come"] (defScope s_skip_word) := ⟨rfl, rfl, rfl, by decide +kernel, rfl, by decide +kernel, by decide +kernel⟩
/-- reader.skip(word), word a name -/
theorem ok_sw {f : Addr} {fd : FuncData} (F : Fun K "skip_word" "skip_word" s_skip_word f fd) (R : RdE P w K mg base C CT dz) : FnOk P w K mg base (CX1 P w) 5 f fd ["reader", "word", "more_may_come"] (spSW K C CT) := by
  refine F.okx sc_sw (fun vs H Q E h => ?_) (fun cdv A outer s H vs Q E hr h => ?_)
  · obtain ⟨r, ta, cs, e, rest, z, m, rfl, _⟩ := h
    rfl
  · obtain ⟨r, ta, cs, e, rest, z, m, rfl, Rr, oz, k⟩ := h
    refine ⟨_, (pss_cons (ps_set (i := 3) sc_sw.nd rfl (Or.inl rfl) (pe_place R (pv 0)))
      (pss_cons (ps_expr (R.sk.call (pv 0) hr out_cx (pa_cons (pv 1) pa_nil)))
      (pss_cons (ps_if (pt_not (pt_val (pv 2))) (pss_one (ps_fault R.X1 hr out_cx rfl (pv 3))) pss_nil)
      (pss_one (ps_skip R hr out_cx (pv 0) pe_str (oks (by decide +kernel))))))), ?_⟩
    refine ⟨_, rfl, r, ta, cs, e, rest, rfl, Rr, fun st => ?_⟩
    obtain ⟨dx, p, i1⟩ := Rr.ins
    refine ⟨V.ref r, rfl, r, dx, _, rfl, i1, rf_skip _ _ _, V.str z, rfl, r, ta, cs, e, rest, z, rfl, Rr, oz, ?_⟩
    unfold mSW at k
    cases hs : sk z.cps.toList rest with
    | none => rw [hs] at k; exact got_none rfl k
    | some x =>
      obtain ⟨_, t⟩ := x
      simp only [hs] at k
      refine got_some rfl fun H1 R1 s1 => ?_
      refine ⟨V.bl m, rfl, m, rfl, ?_⟩
      cases m with
      | false => exact iteT ⟨V.int st, rfl, st, rfl, k st⟩
      | true =>
        simp only [if_true] at k
        refine iteF ⟨V.ref r, rfl, r, ta, cs, e, t, rfl, R1, ?_⟩
        cases hs2 : sk (" " : Str).cps.toList t with
        | none => rw [hs2] at k; exact got_none hs2 k
        | some x =>
          obtain ⟨⟨⟩, u⟩ := x
          rw [hs2] at k
          exact got_some hs2 fun H2 R2 s2 => k H2 R2 (s1.trans s2)
theorem sc_in0 : FnScope ["self"] ["self"] (defScope s_Instrument_init) := ⟨rfl, rfl, rfl, by decide +kernel, rfl, by decide +kernel, by decide +kernel⟩
theorem ok_in0 {f : Addr} {fd : FuncData} (F : Fun K "__init__" "Instrument.__init__" s_Instrument_init f fd) (T : InC K CI) : FnOk P w K mg base (CX1 P w) 1 f fd ["self"] (spII0 CI) := by
  refine F.okx sc_in0 (fun vs H Q E h => ?_) (fun cdv A outer s H vs Q E hr h => ?_)
  · obtain ⟨ia, dx, rfl, _⟩ := h
    rfl
  · obtain ⟨ia, dx, rfl, h1, k⟩ := h
    refine ⟨_, (pss_cons (ps_fld (pv 0) (pe_lst pa_nil) rfl)
      (pss_cons (ps_fld (pv 0) (pe_lst pa_nil) rfl)
      (pss_one (ps_fld (pv 0) (pe_lst pa_nil) rfl)))), ?_⟩
    refine ⟨Nat.zero_le _, fun af naf => ?_⟩
    have m1 : ia ≠ af := ne_of_none h1 naf
    refine ⟨V.ref ia, rfl, ia, CI, dx, _, rfl, (by rw [upd_ne m1]; exact h1), T.cl, T.nf, (by decide), Nat.zero_le _, fun ac nac => ?_⟩
    have m2 : ia ≠ ac := ne_of_none upd_same nac
    have m3 : af ≠ ac := by
      refine ne_of_none (o := .lst []) ?_ nac
      rw [upd_ne (Ne.symm m1), upd_same]
    refine ⟨V.ref ia, rfl, ia, CI, dx, _, rfl, (by rw [upd_ne m2, upd_same]), T.cl, T.nc, (by show 1 < 1000; decide), Nat.zero_le _, fun ab nab => ?_⟩
    have m4 : ia ≠ ab := ne_of_none upd_same nab
    have m5 : ac ≠ ab := by
      refine ne_of_none (o := .lst []) ?_ nab
      rw [upd_ne (Ne.symm m2), upd_same]
    have m6 : af ≠ ab := by
      refine ne_of_none (o := .lst []) ?_ nab
      rw [upd_ne (Ne.symm m1), upd_ne m3, upd_ne (Ne.symm m1), upd_same]
    refine ⟨V.ref ia, rfl, ia, CI, dx, _, rfl, (by rw [upd_ne m4, upd_same]), T.cl, T.nb, (by show 2 < 1000; decide), ?_⟩
    have fac : H ac = none := by rw [← nac, upd_ne (Ne.symm m2), upd_ne (Ne.symm m3)]
    have fab : H ab = none := by rw [← nab, upd_ne (Ne.symm m4), upd_ne (Ne.symm m5), upd_ne (Ne.symm m4), upd_ne (Ne.symm m6)]
    refine k _ af ac ab (Eq.trans upd_same rfl) ?_ ?_ ?_ naf fac fab m3 m6 m5 fun b o e hb => ?_
    · rw [upd_ne (Ne.symm m1), upd_ne m6, upd_ne (Ne.symm m1), upd_ne m3, upd_ne (Ne.symm m1), upd_same]
    · rw [upd_ne (Ne.symm m2), upd_ne m5, upd_ne (Ne.symm m2), upd_same]
    · rw [upd_ne (Ne.symm m4), upd_same]
    · rw [upd_ne hb, upd_ne (ne_of_none e fab), upd_ne hb, upd_ne (ne_of_none e fac), upd_ne hb, upd_ne (ne_of_none e naf)]
      exact e
theorem sc_scn : FnScope ["self"] ["self"] (defScope s_Instrument_string_count) := ⟨rfl, rfl, rfl, by decide +kernel, rfl, by decide +kernel, by decide +kernel⟩
theorem ok_scn {f : Addr} {fd : FuncData} (F : Fun K "string_count" "Instrument.string_count" s_Instrument_string_count f fd) (B : Blt mg) (T : InC K CI) : FnOk P w K mg base (CX1 P w) 1 f fd ["self"] (spSC K CI) := by
  refine F.okx sc_scn (fun vs H Q E h => ?_) (fun cdv A outer s H vs Q E hr h => ?_)
  · obtain ⟨ia, af, ac, ab, fr, co, ba, rfl, _⟩ := h
    rfl
  · obtain ⟨ia, af, ac, ab, fr, co, ba, rfl, I, k⟩ := h
    obtain ⟨dx, h1⟩ := I.at_
    obtain ⟨y1, q1, l1⟩ := I.co_.len
    obtain ⟨y2, q2, l2⟩ := I.ba_.len
    refine ⟨_, (pss_one (ps_ret (pe_op op_add (pe_callB call_len_seq (by rfl) B.len PySem.boot_len (pa_cons (pe_fld (pv 0) rfl) pa_nil)) (pe_callB call_len_seq (by rfl) B.len PySem.boot_len (pa_cons (pe_fld (pv 0) rfl) pa_nil))))), ?_⟩
    refine ⟨V.ref ia, rfl, ia, CI, dx, _, _, rfl, h1, T.cl, T.nc, ifs_c _ _ _, ac, y1, rfl, .inl q1, V.ref ia, rfl, ia, CI, dx, _, _, rfl, h1, T.cl, T.nb, ifs_b _ _ _, ab, y2, rfl, .inl q2, _, _, rfl, rfl, ?_⟩
    rw [l1, l2]
    have e : ((co.length : Int) + (ba.length : Int)) = ((co.length + ba.length : Nat) : Int) := by omega
    show Q (V.int ((co.length : Int) + (ba.length : Int))) H
    rw [e]
    exact k
end
end Lt
end
section
set_option Elab.async false
set_option linter.all false
set_option maxRecDepth 100000
set_option maxHeartbeats 400000
namespace Lt
open PySem PySem.Spec PyProof.Rows L2
/-- the instrument's classes and methods -/
structure InE (P : Program) (w : World) (K : PySem.W.Frag) (mg : Str → Option Value) (base : Heap) (C CI CT : Addr) (dz fz : Str) : Prop where
  R : RdE P w K mg base C CT dz
  B : Blt mg
  T : InC K CI
  gu : GT K mg "UNISON" (un5.map V.int)
  sc : Mth P w K mg base 1 CI "string_count" ["self"] (spSC K CI)
  sw : Def P w K mg base 5 "skip_word" ["reader", "word", "more_may_come"] (spSW K C CT)
  rr : Def P w K mg base 9 "read_rest" ["reader"] (spOneT K C CT (mRest dz fz))
  nr : Def P w K mg base 2 "narrower" ["x", "y"] (spNr K)
  ii : Def P w K mg base 3 "is_interval" ["numbers"] (spII K)
  up : Def P w K mg base 3 "upon" ["x", "y"] (spUp K)
theorem mem4 (r af ac ab : Addr) : r ∈ [r, af, ac, ab] ∧ af ∈ [r, af, ac, ab] ∧ ac ∈ [r, af, ac, ab] ∧ ab ∈ [r, af, ac, ab] := by simp
/-- one more item in a list -/
theorem LT.add {K : PySem.W.Frag} {H : Hp} {a x : Addr} {ls : List (List Int)} {l : List Int} {as : List Addr} (h : H a = some (.lst (as.map V.ref))) (p : Paired (fun b l => SqT K H b (l.map V.int)) as ls) (hx : SqT K H x (l.map V.int)) :
    LT K (upd H a (.lst (as.map V.ref ++ [.ref x]))) a (ls ++ [l]) := by
  have kt : ∀ {b : Addr} {ys : List V}, SqT K H b ys → SqT K (upd H a (.lst (as.map V.ref ++ [.ref x]))) b ys := fun {b ys} q => by
    rcases q with (q | ⟨o, q⟩) | q
    · exact .inl (.inl (by rw [upd_ne (ne_of q h (by intro z; cases z))]; exact q))
    · exact .inl (.inr ⟨o, by rw [upd_ne (ne_of q h (by intro z; cases z))]; exact q⟩)
    · exact .inr q
  refine ⟨as ++ [x], by rw [upd_same, List.map_append]; rfl, paired_snoc (F := fun b l => SqT K (L2.upd H a (.lst (as.map V.ref ++ [.ref x]))) b (l.map V.int)) (kt hx) (paired_mono p fun _ _ q => kt q)⟩
theorem LT.upd {K : PySem.W.Frag} {H : Hp} {a b : Addr} {xs ys : List V} {ls : List (List Int)} (h : LT K H b ls) (ha : H a = some (.lst xs)) (hn : b ≠ a) : LT K (upd H a (.lst ys)) b ls := by
  obtain ⟨as, h1, h2⟩ := h
  refine ⟨as, by rw [upd_ne hn]; exact h1, paired_mono h2 fun c l q => ?_⟩
  rcases q with (q | ⟨o, q⟩) | q
  · exact .inl (.inl (by rw [upd_ne (ne_of q ha (by intro z; cases z))]; exact q))
  · exact .inl (.inr ⟨o, by rw [upd_ne (ne_of q ha (by intro z; cases z))]; exact q⟩)
  · exact .inr q
theorem atI_last {as : List Addr} {a : Addr} (h : as.getLast? = some a) : atI (as.map V.ref) (-1) = some (.ref a) := by
  have hne : as ≠ [] := by rintro rfl; simp at h
  have hl : 0 < as.length := List.length_pos_iff.mpr hne
  unfold atI ixN
  rw [List.length_map, if_neg (by decide), if_pos (by omega)]
  show (as.map V.ref)[((-1 : Int) + (as.length : Int)).toNat]? = _
  have e : ((-1 : Int) + (as.length : Int)).toNat = as.length - 1 := by omega
  rw [e, List.getElem?_map, ← List.getLast?_eq_getElem?, h]
  rfl
theorem paired_last {α β : Type} {F : α → β → Prop} {l : List α} {m : List β} (p : Paired F l m) {y : β} (h : 0 < m.length) : ∃ a b, l.getLast? = some a ∧ m.getLastD y = b ∧ F a b ∧ b ∈ m := by
  have hl : l.length = m.length := Paired.length p
  have hlt : l.length - 1 < l.length := by omega
  obtain ⟨b, h1, h2⟩ := paired_at (i := l.length - 1) (a := l[l.length - 1]) p (List.getElem?_eq_getElem hlt)
  refine ⟨l[l.length - 1], b, by rw [List.getLast?_eq_getElem?]; exact List.getElem?_eq_getElem hlt, ?_, h2, List.mem_of_getElem? h1⟩
  rw [List.getLastD_eq_getLast?, List.getLast?_eq_getElem?, ← hl, h1]
  rfl
section
variable {P : Program} {w : World} {K : PySem.W.Frag} {mg : Str → Option Value} {base : Heap} {C CI CT : Addr} {dz fz : Str}
theorem sc_fr : FnScope ["reader", "instrument", "start", "fret", "before"] ["reader", "instrument"] (defScope s_read_fret) := ⟨rfl, rfl, rfl, by decide +kernel, rfl, by decide +kernel, by decide +kernel⟩
theorem ok_fr {f : Addr} {fd : FuncData} (F : Fun K "read_fret" "read_fret" s_read_fret f fd) (N : InE P w K mg base C CI CT dz fz) (gm : GI mg "MOST_FRETS" 15) : FnOk P w K mg base (CX1 P w) 10 f fd ["reader", "instrument"] (spLn K C CI CT (mFret dz fz)) := by
  refine F.okx sc_fr (fun vs H Q E h => ?_) (fun cdv A outer s H vs Q E hr h => ?_)
  · obtain ⟨r, ta, cs, e, rest, ia, af, ac, ab, fr, co, ba, rfl, _⟩ := h
    rfl
  · obtain ⟨r, ta, cs, e, rest, ia, af, ac, ab, fr, co, ba, rfl, Rr, I, tt, k⟩ := h
    have R := N.R
    refine ⟨_, (pss_cons (ps_expr (N.sw.call hr out_cx (pa_cons (pv 0) (pa_cons pe_str (pa_cons (pe_cmpR op_lt (pe_callB call_len_seq (by rfl) N.B.len PySem.boot_len (pa_cons (pe_fld (pv 1) rfl) pa_nil)) (pe_gi gm) (nomark _)) pa_nil)))))
      (pss_cons (ps_set (i := 2) sc_fr.nd rfl (Or.inl rfl) (pe_place R (pv 0)))
      (pss_cons (ps_set (i := 3) sc_fr.nd rfl (Or.inl rfl) (pe_parT N.rr hr out_cx (pv 0)))
      (pss_cons (ps_set (i := 4) sc_fr.nd rfl (Or.inl rfl) (pe_ifExp (pt_cmpR op_gt (pe_callB call_len_seq (by rfl) N.B.len PySem.boot_len (pa_cons (pe_fld (pv 1) rfl) pa_nil)) pe_int (nomark _)) (pe_ix ix_list (pe_fld (pv 1) rfl) (pe_un un_neg pe_int) (fun _ _ => rfl)) (pe_gt N.gu)))
      (pss_cons (ps_if (pt_not (pt_val (N.nr.call hr out_cx (pa_cons (pv 4) (pa_cons (pv 3) pa_nil))))) (pss_one (ps_fault R.X1 hr out_cx rfl (pv 2))) pss_nil)
      (pss_one (ps_expr (pe_bm PySem.F.plainAttrs_list PySem.F.slot_list_append PySem.F.type_list_append mt_append (pe_fld (pv 1) rfl) (pa_cons (pv 3) pa_nil))))))))), ?_⟩
    obtain ⟨dx, i1⟩ := I.at_
    obtain ⟨y1, q1, l1⟩ := I.fr_.len
    obtain ⟨dr, p, ir⟩ := Rr.ins
    refine ⟨V.ref r, rfl, V.ref ia, rfl, ia, CI, dx, _, _, rfl, i1, N.T.cl, N.T.nf, ifs_f _ _ _, af, y1, rfl, .inl q1, _, _, rfl, rfl, r, ta, cs, e, rest, "fret", decide ((y1.length : Int) < 15), rfl, Rr, oks (by decide +kernel), ?_⟩
    have eb : decide ((y1.length : Int) < 15) = decide (fr.length < 15) := by rw [l1, decide_eq_decide]; omega
    rw [mFret] at k
    cases hs : mSW "fret" (decide (fr.length < 15)) rest with
    | none => simp only [hs] at k; exact got_none (by rw [eb]; exact hs) k
    | some x =>
      obtain ⟨_, t⟩ := x
      simp only [hs] at k
      refine got_some (by rw [eb]; exact hs) fun H1 R1 s1 => ?_
      have I1 := I.kp (Sb.kp s1 ir)
      obtain ⟨dr1, p1, ir1⟩ := R1.ins
      refine ⟨_, rfl, r, ta, cs, e, t, rfl, R1, fun st => ?_⟩
      refine ⟨_, rfl, r, ta, cs, e, t, rfl, R1, ?_⟩
      cases hm : mRest dz fz t with
      | none => simp only [hm] at k; exact gott_none hm k
      | some x =>
        obtain ⟨x, u⟩ := x
        simp only [hm] at k
        have sx := mRest_sm hm
        refine gott_some hm fun H2 xa R2 s2 hx => ?_
        have I2 := I1.kp (Sb.kp s2 ir1)
        obtain ⟨dr2, p2, ir2⟩ := R2.ins
        obtain ⟨dx2, i2⟩ := I2.at_
        obtain ⟨as, a1, a2⟩ := id I2.fr_
        obtain ⟨y2, q2, l2⟩ := I2.fr_.len
        have tail : ∀ (ba' : Addr) (bl : List Int) (H3 : Hp), Same H2 H3 → SqT K H3 ba' (bl.map V.int) → bl = fr.getLastD un5 → Sm bl →
            (tSeq (tIfS (tNot (tB (tCall (spNr K) [] E (tCons (tVar 4) (tCons (tVar 3) tNil))))) (tFault CT E (tVar 2)) tNext)
              (tDrop (tBM K "list" rAppend (tFld K (tVar 1) "frets") (tCons (tVar 3) tNil)))) { nx := fun _ H' => Q .non H', rt := Q } [some (.ref r), some (.ref ia), some (.int st), some (.ref xa), some (.ref ba')] H3 := by
          intro ba' bl H3 s3 hb hbl sbl
          refine ⟨V.ref ba', rfl, V.ref xa, rfl, ba', xa, bl, x, rfl, hb, s3.tup hx, sbl, sx, fun H4 s4 => ⟨_, rfl, ?_⟩⟩
          have s24 : Same H2 H4 := s3.trans s4
          have R4 := R2.same s24
          have I4 := I2.kp (Same.kp s24)
          rw [hbl]
          cases hn : narrowL (fr.getLastD un5) x with
          | false =>
            rw [if_neg (by rw [hn]; decide)] at k
            exact iteT ⟨V.int st, rfl, st, rfl, k st⟩
          | true =>
            rw [if_pos hn] at k
            have a14 := s24 _ _ a1
            have a24 : Paired (fun b l => SqT K H4 b (l.map V.int)) as fr := paired_mono a2 fun _ _ q => s24.tup q
            have la : as.length = fr.length := Paired.length a24
            have hlt : fr.length < 15 := by
              by_cases hq : fr.length < 15
              · exact hq
              · unfold mSW at hs
                rw [decide_eq_false hq] at hs
                cases hz : sk ("fret" : Str).cps.toList rest with
                | none => rw [hz] at hs; cases hs
                | some y => obtain ⟨_, y⟩ := y; rw [hz] at hs; cases hs
            refine iteF ⟨V.ref ia, rfl, ia, CI, dx2, _, _, rfl, s24 _ _ i2, N.T.cl, N.T.nf, ifs_f _ _ _, .inl ⟨rfl, _, SqL.of a14⟩, V.ref xa, rfl, af, _, _, rfl, rfl, a14, ?_, ?_⟩
            · rw [List.length_map, la, sizeLine_eq]; omega
            · have sa : ∀ b o, H4 b = some o → b ≠ af → (upd H4 af (.lst (as.map V.ref ++ [.ref xa]))) b = some o := fun b o eb hb => by rw [upd_ne hb]; exact eb
              refine k _ (R4.kp (xs := as.map V.ref) (ys := []) a14 (tt.imp (fun t => Ne.symm t.1) id) sa) ⟨⟨dx2, sa _ _ (s24 _ _ i2) (ne_of (s24 _ _ i2) a14 (by intro z; cases z))⟩, LT.add a14 a24 (s24.tup hx), I4.co_.upd a14 (Ne.symm I.n1), I4.ba_.upd a14 (Ne.symm I.n2), I.n1, I.n2, I.n3, ?_, I.sc, I.sb, ?_, I.lc⟩
                (((Sb.l s1 (mem4 r af ac ab).1).trans (Sb.l s2 (mem4 r af ac ab).1)).trans ((Same.l s24).trans fun b o eb hb => sa b o eb fun z => hb (z ▸ (mem4 r af ac ab).2.1)))
              · intro l hl
                rcases List.mem_append.mp hl with hl | hl
                · exact I.sf l hl
                · rw [List.mem_singleton.mp hl]; exact sx
              · rw [List.length_append]; simp; omega
        refine ⟨V.ref ia, rfl, ia, CI, dx2, _, _, rfl, i2, N.T.cl, N.T.nf, ifs_f _ _ _, af, y2, rfl, .inl q2, _, _, rfl, rfl, _, rfl, ?_⟩
        refine ite2 (fun h0 => ?_) (fun h0 => ?_)
        · have hp : 0 < fr.length := by
            have : (0 : Int) < (y2.length : Int) := by simpa using h0
            omega
          obtain ⟨a, b, e1, e2, e3, e4⟩ := paired_last a2 (y := un5) hp
          refine ⟨V.ref ia, rfl, ia, CI, dx2, _, _, rfl, i2, N.T.cl, N.T.nf, ifs_f _ _ _, 1, rfl, af, _, _, _, rfl, rfl, SqL.of a1, atI_last e1, ?_⟩
          exact tail a b H2 (Same.refl _) e3 e2.symm (I.sf b e4)
        · have hp : fr = [] := by
            have : ¬ (0 : Int) < (y2.length : Int) := by simpa using h0
            exact List.length_eq_zero_iff.mp (by omega)
          intro a ha
          exact tail a un5 H2 (Same.refl _) (ha H2) (by rw [hp]; rfl) sm_un5
end
end Lt
end
section
set_option Elab.async false
set_option linter.all false
set_option maxRecDepth 100000
set_option maxHeartbeats 400000
namespace Lt
open PySem PySem.Spec PyProof.Rows L2
theorem mSW_true {z : Str} {m : Bool} {l : List UInt8} {x : Unit × List UInt8} (h : mSW z m l = some x) : m = true := by
  cases m with
  | true => rfl
  | false =>
    unfold mSW at h
    cases hz : sk z.cps.toList l with
    | none => rw [hz] at h; cases h
    | some y => obtain ⟨_, y⟩ := y; rw [hz] at h; cases h
theorem ifs_sc (af ac ab : Addr) : (ifs af ac ab).lookup ("string_count" : Str) = none := ifs_no _ _ _ (by decide +kernel) (by decide +kernel) (by decide +kernel)
theorem Sm.b60 {l : List Int} (h : Sm l) : (∀ z ∈ l, z.natAbs < 2 ^ 60) ∧ 0 < l.getD 4 0 ∧ l.getD 4 0 < 2 ^ 60 := by
  obtain ⟨h5, h1, h2, h3⟩ := h
  refine ⟨fun z hz => ?_, by omega, by omega⟩
  obtain ⟨i, hi⟩ := List.getElem?_of_mem hz
  have hlt := (List.getElem?_eq_some_iff.mp hi).1
  have e : l.getD i 0 = z := by simp [List.getD, hi]
  by_cases h4 : i < 4
  · have := h1 i h4; rw [e] at this; omega
  · have e4 : i = 4 := by omega
    subst e4
    rw [e] at h2 h3
    omega
section
variable {P : Program} {w : World} {K : PySem.W.Frag} {mg : Str → Option Value} {base : Heap} {C CI CT : Addr} {dz fz : Str}
theorem sc_co : FnScope ["reader", "instrument", "start", "course", "fret"] ["reader", "instrument"] (defScope s_read_course) := ⟨rfl, rfl, rfl, by decide +kernel, rfl, by decide +kernel, by decide +kernel⟩
theorem ok_co {f : Addr} {fd : FuncData} (F : Fun K "read_course" "read_course" s_read_course f fd) (N : InE P w K mg base C CI CT dz fz) (gm : GI mg "MOST_STRINGS" 14) : FnOk P w K mg base (CX1 P w) 10 f fd ["reader", "instrument"] (spLn K C CI CT (mCourse dz fz)) := by
  refine F.okx sc_co (fun vs H Q E h => ?_) (fun cdv A outer s H vs Q E hr h => ?_)
  · obtain ⟨r, ta, cs, e, rest, ia, af, ac, ab, fr, co, ba, rfl, _⟩ := h
    rfl
  · obtain ⟨r, ta, cs, e, rest, ia, af, ac, ab, fr, co, ba, rfl, Rr, I, tt, k⟩ := h
    have R := N.R
    refine ⟨_, (pss_cons (ps_expr (N.sw.call hr out_cx (pa_cons (pv 0) (pa_cons pe_str (pa_cons (pe_cmpR op_lt (N.sc.call0 (pv 1) hr out_cx) (pe_gi gm) (nomark _)) pa_nil)))))
      (pss_cons (ps_set (i := 2) sc_co.nd rfl (Or.inl rfl) (pe_place R (pv 0)))
      (pss_cons (ps_set (i := 3) sc_co.nd rfl (Or.inl rfl) (pe_parT N.rr hr out_cx (pv 0)))
      (pss_cons (ps_for PassesOwn.leaving rfl (pi_list (pe_fld (pv 1) rfl)) (pg_name (i := 4) sc_co.nd rfl (Or.inl rfl))
        (pss_one (ps_if (pt_not (pt_val (N.ii.call hr out_cx (pa_cons (N.up.call hr out_cx (pa_cons (pv 4) (pa_cons (pv 3) pa_nil))) pa_nil)))) (pss_one (ps_fault R.X1 hr out_cx rfl (pv 2))) pss_nil)))
      (pss_one (ps_expr (pe_bm PySem.F.plainAttrs_list PySem.F.slot_list_append PySem.F.type_list_append mt_append (pe_fld (pv 1) rfl) (pa_cons (pv 3) pa_nil)))))))), ?_⟩
    obtain ⟨dx, i1⟩ := I.at_
    obtain ⟨dr, p, ir⟩ := Rr.ins
    refine ⟨V.ref r, rfl, V.ref ia, rfl, ia, dx, _, rfl, i1, ifs_sc _ _ _, ia, af, ac, ab, fr, co, ba, rfl, I, _, _, rfl, rfl, r, ta, cs, e, rest, "course", decide (((co.length + ba.length : Nat) : Int) < 14), rfl, Rr, oks (by decide +kernel), ?_⟩
    have eb : decide (((co.length + ba.length : Nat) : Int) < 14) = decide (co.length + ba.length < 14) := by rw [decide_eq_decide]; omega
    rw [mCourse] at k
    cases hs : mSW "course" (decide (co.length + ba.length < 14)) rest with
    | none => simp only [hs] at k; exact got_none (by rw [eb]; exact hs) k
    | some x =>
      have hlt : co.length + ba.length < 14 := of_decide_eq_true (mSW_true hs)
      obtain ⟨_, t⟩ := x
      simp only [hs] at k
      refine got_some (by rw [eb]; exact hs) fun H1 R1 s1 => ?_
      have I1 := I.kp (Sb.kp s1 ir)
      obtain ⟨dr1, p1, ir1⟩ := R1.ins
      refine ⟨_, rfl, r, ta, cs, e, t, rfl, R1, fun st => ?_⟩
      refine ⟨_, rfl, r, ta, cs, e, t, rfl, R1, ?_⟩
      cases hm : mRest dz fz t with
      | none => simp only [hm] at k; exact gott_none hm k
      | some x =>
        obtain ⟨x, u⟩ := x
        simp only [hm] at k
        have sx := mRest_sm hm
        refine gott_some hm fun H2 xa R2 s2 hx => ?_
        have I2 := I1.kp (Sb.kp s2 ir1)
        obtain ⟨dx2, i2⟩ := I2.at_
        obtain ⟨as, a1, a2⟩ := id I2.fr_
        have la : as.length = fr.length := Paired.length a2
        refine ⟨V.ref ia, rfl, ia, CI, dx2, _, _, rfl, i2, N.T.cl, N.T.nf, ifs_f _ _ _, af, rfl, ⟨_, SqL.of a1⟩, for_list (K := K) (a := af) (xs := as.map V.ref) (fun i σ H' => (∃ r4, σ = [some (.ref r), some (.ref ia), some (.int st), some (.ref xa), r4]) ∧ Same H2 H' ∧ ((fr.take i).all fun f => isIv (uponL f x)) = true) ⟨⟨none, rfl⟩, Same.refl _, rfl⟩
          (fun i σ H' _ ⟨_, s3, _⟩ => SqL.of (s3 _ _ a1)) ?_ ?_⟩
        · rintro i y σ H3 hi ⟨⟨r4, rfl⟩, s3, ha⟩
          rw [List.getElem?_map] at hi
          cases ea : as[i]? with
          | none => rw [ea] at hi; cases hi
          | some fa =>
            rw [ea] at hi
            cases hi
            obtain ⟨fl, f1, f2⟩ := paired_at a2 ea
            have sfl : Sm fl := I.sf fl (List.mem_of_getElem? f1)
            have b1 := sfl.b60
            have b2 := sx.b60
            refine ⟨V.ref fa, rfl, V.ref xa, rfl, fa, xa, fl, x, rfl, s3.tup f2, s3.tup hx, sfl.1, sx.1, b1.1, b1.2.1, b2.2.1, b2.2.2, fun H4 ua s4 hu => ⟨ua, uponL fl x, rfl, SqT.of hu, upon_len _ _, fun H5 s5 => ⟨_, rfl, ?_⟩⟩⟩
            cases hi : isIv (uponL fl x) with
            | true =>
              refine iteF ⟨⟨_, rfl⟩, (s3.trans s4).trans s5, ?_⟩
              rw [List.take_add_one, f1, List.all_append, ha]
              simp [hi]
            | false =>
              have hall : (fr.all fun f => isIv (uponL f x)) = false := by
                rw [List.all_eq_false]
                exact ⟨fl, List.mem_of_getElem? f1, by rw [hi]; decide⟩
              rw [if_neg (by rw [hall]; decide)] at k
              exact iteT ⟨V.int st, rfl, st, rfl, k st⟩
        · rintro σ H3 ⟨⟨r4, rfl⟩, s3, ha⟩
          rw [List.length_map, la, List.take_length] at ha
          rw [if_pos ha] at k
          have I3 := I2.kp (Same.kp s3)
          have R3 := R2.same s3
          obtain ⟨bs, c1, c2⟩ := id I3.co_
          have lb : bs.length = co.length := Paired.length c2
          have i3 := s3 _ _ i2
          refine ⟨V.ref ia, rfl, ia, CI, dx2, _, _, rfl, i3, N.T.cl, N.T.nc, ifs_c _ _ _, .inl ⟨rfl, _, SqL.of c1⟩, V.ref xa, rfl, ac, _, _, rfl, rfl, c1, ?_, ?_⟩
          · rw [List.length_map, lb, sizeLine_eq]; omega
          · have sa : ∀ b o, H3 b = some o → b ≠ ac → (upd H3 ac (.lst (bs.map V.ref ++ [.ref xa]))) b = some o := fun b o eb hb => by rw [upd_ne hb]; exact eb
            refine k _ (R3.kp (xs := bs.map V.ref) (ys := []) c1 (tt.imp (fun t => Ne.symm t.2.1) id) sa) ⟨⟨dx2, sa _ _ i3 (ne_of i3 c1 (by intro z; cases z))⟩, I3.fr_.upd c1 I.n1, LT.add c1 c2 (s3.tup hx), I3.ba_.upd c1 (Ne.symm I.n3), I.n1, I.n2, I.n3, I.sf, ?_, I.sb, I.lf, ?_⟩
              (((Sb.l s1 (mem4 r af ac ab).1).trans (Sb.l s2 (mem4 r af ac ab).1)).trans ((Same.l s3).trans fun b o eb hb => sa b o eb fun z => hb (z ▸ (mem4 r af ac ab).2.2.1)))
            · intro l hl
              rcases List.mem_append.mp hl with hl | hl
              · exact I.sc l hl
              · rw [List.mem_singleton.mp hl]; exact sx
            · rw [List.length_append]; simp; omega
theorem sc_ba : FnScope ["reader", "instrument"] ["reader", "instrument"] (defScope s_read_bass) := ⟨rfl, rfl, rfl, by decide +kernel, rfl, by decide +kernel, by decide +kernel⟩
theorem ok_ba {f : Addr} {fd : FuncData} (F : Fun K "read_bass" "read_bass" s_read_bass f fd) (N : InE P w K mg base C CI CT dz fz) (gm : GI mg "MOST_STRINGS" 14) : FnOk P w K mg base (CX1 P w) 10 f fd ["reader", "instrument"] (spLn K C CI CT (mBass dz fz)) := by
  refine F.okx sc_ba (fun vs H Q E h => ?_) (fun cdv A outer s H vs Q E hr h => ?_)
  · obtain ⟨r, ta, cs, e, rest, ia, af, ac, ab, fr, co, ba, rfl, _⟩ := h
    rfl
  · obtain ⟨r, ta, cs, e, rest, ia, af, ac, ab, fr, co, ba, rfl, Rr, I, tt, k⟩ := h
    have R := N.R
    refine ⟨_, (pss_cons (ps_expr (N.sw.call hr out_cx (pa_cons (pv 0) (pa_cons pe_str (pa_cons (pe_cmpR op_lt (N.sc.call0 (pv 1) hr out_cx) (pe_gi gm) (nomark _)) pa_nil)))))
      (pss_one (ps_expr (pe_bm PySem.F.plainAttrs_list PySem.F.slot_list_append PySem.F.type_list_append mt_append (pe_fld (pv 1) rfl) (pa_cons (pe_parT N.rr hr out_cx (pv 0)) pa_nil))))), ?_⟩
    obtain ⟨dx, i1⟩ := I.at_
    obtain ⟨dr, p, ir⟩ := Rr.ins
    refine ⟨V.ref r, rfl, V.ref ia, rfl, ia, dx, _, rfl, i1, ifs_sc _ _ _, ia, af, ac, ab, fr, co, ba, rfl, I, _, _, rfl, rfl, r, ta, cs, e, rest, "bass", decide (((co.length + ba.length : Nat) : Int) < 14), rfl, Rr, oks (by decide +kernel), ?_⟩
    have eb : decide (((co.length + ba.length : Nat) : Int) < 14) = decide (co.length + ba.length < 14) := by rw [decide_eq_decide]; omega
    rw [mBass] at k
    cases hs : mSW "bass" (decide (co.length + ba.length < 14)) rest with
    | none => simp only [hs] at k; exact got_none (by rw [eb]; exact hs) k
    | some x =>
      have hlt : co.length + ba.length < 14 := of_decide_eq_true (mSW_true hs)
      obtain ⟨_, t⟩ := x
      simp only [hs] at k
      refine got_some (by rw [eb]; exact hs) fun H1 R1 s1 => ?_
      have I1 := I.kp (Sb.kp s1 ir)
      obtain ⟨dx1, i1'⟩ := I1.at_
      obtain ⟨bs1, c1', _⟩ := id I1.ba_
      obtain ⟨dr1, p1, ir1⟩ := R1.ins
      refine ⟨V.ref ia, rfl, ia, CI, dx1, _, _, rfl, i1', N.T.cl, N.T.nb, ifs_b _ _ _, .inl ⟨rfl, _, SqL.of c1'⟩, V.ref r, rfl, r, ta, cs, e, t, rfl, R1, ?_⟩
      cases hm : mRest dz fz t with
      | none => simp only [hm] at k; exact gott_none hm k
      | some x =>
        obtain ⟨x, u⟩ := x
        simp only [hm] at k
        have sx := mRest_sm hm
        refine gott_some hm fun H2 xa R2 s2 hx => ?_
        have I2 := I1.kp (Sb.kp s2 ir1)
        obtain ⟨dx2, i2⟩ := I2.at_
        obtain ⟨bs, c1, c2⟩ := id I2.ba_
        have lb : bs.length = ba.length := Paired.length c2
        refine ⟨ab, _, _, rfl, rfl, c1, ?_, ?_⟩
        · rw [List.length_map, lb, sizeLine_eq]; omega
        · have sa : ∀ b o, H2 b = some o → b ≠ ab → (upd H2 ab (.lst (bs.map V.ref ++ [.ref xa]))) b = some o := fun b o eb hb => by rw [upd_ne hb]; exact eb
          refine k _ (R2.kp (xs := bs.map V.ref) (ys := []) c1 (tt.imp (fun t => Ne.symm t.2.2) id) sa) ⟨⟨dx2, sa _ _ i2 (ne_of i2 c1 (by intro z; cases z))⟩, I2.fr_.upd c1 I.n2, I2.co_.upd c1 I.n3, LT.add c1 c2 hx, I.n1, I.n2, I.n3, I.sf, I.sc, ?_, I.lf, ?_⟩
            (((Sb.l s1 (mem4 r af ac ab).1).trans (Sb.l s2 (mem4 r af ac ab).1)).trans fun b o eb hb => sa b o eb fun z => hb (z ▸ (mem4 r af ac ab).2.2.2))
          · intro l hl
            rcases List.mem_append.mp hl with hl | hl
            · exact I.sb l hl
            · rw [List.mem_singleton.mp hl]; exact sx
          · rw [List.length_append]; simp; omega
end
end Lt
end
section
set_option Elab.async false
set_option linter.all false
set_option maxRecDepth 100000
set_option maxHeartbeats 400000
namespace Lt
open PySem PySem.Spec PyProof.Rows L2
def mPart (dz fz : Str) : St3 → List UInt8 → Option (St3 × List UInt8)
  | (fr, co, ba), l => if see "f" l = true ∧ co.length = 0 then mFret dz fz (fr, co, ba) l else if see "c" l = true ∧ ba.length = 0 then mCourse dz fz (fr, co, ba) l else if see "b" l = true ∧ 0 < co.length then mBass dz fz (fr, co, ba) l else none
def mLineI (dz fz : Str) (s : St3) (l : List UInt8) : Option (St3 × List UInt8) := match mPart dz fz s l with
  | none => none
  | some (s', t) => match sk ("\n" : Str).cps.toList t with
    | none => none
    | some (_, u) => some (s', u)
def mLen (dz : Str) (l : List UInt8) : Option (Unit × List UInt8) := match sk ("length " : Str).cps.toList l with
  | none => none
  | some (_, t) => if see "0" t = true then none else match wn dz 7 t with
    | none => none
    | some (n, u) => if n < 10000 ∨ 200000 < n then none else sk ("\n" : Str).cps.toList u
def mLines (dz fz : Str) : Nat → St3 → List UInt8 → Option St3
  | 0, _, _ => none
  | f + 1, (fr, co, ba), l => if l.isEmpty = true ∧ ¬ co.length = 0 then some (fr, co, ba) else match mLineI dz fz (fr, co, ba) l with
    | none => none
    | some (s, t) => mLines dz fz f s t
def mInst (dz fz : Str) (cs : List UInt8) : Option St3 := match mLen dz cs with
  | none => none
  | some (_, t) => mLines dz fz (t.length + 1) ([], [], []) t
theorem mSW_len {z : Str} {m : Bool} {l t : List UInt8} {u : Unit} (h : mSW z m l = some (u, t)) : t.length ≤ l.length := by
  unfold mSW at h
  cases hz : sk z.cps.toList l with
  | none => rw [hz] at h; cases h
  | some y =>
    obtain ⟨_, y⟩ := y
    simp only [hz] at h
    split at h
    · have := sk_len hz; have := sk_len h; omega
    · cases h
theorem mRest_len {dz fz : Str} {l t : List UInt8} {x : List Int} (h : mRest dz fz l = some (x, t)) : t.length ≤ l.length := by
  unfold mRest at h
  cases hm : mIv dz fz (l.takeWhile lf) with
  | none => rw [hm] at h; cases h
  | some y => rw [hm] at h; cases h; rw [List.length_drop]; omega
theorem mPart_len {dz fz : Str} {s s' : St3} {l t : List UInt8} (h : mPart dz fz s l = some (s', t)) : t.length ≤ l.length := by
  obtain ⟨fr, co, ba⟩ := s
  rw [mPart] at h
  split at h
  · rw [mFret] at h
    cases hs : mSW "fret" (decide (fr.length < 15)) l with
    | none => simp only [hs] at h; cases h
    | some y =>
      obtain ⟨_, y⟩ := y
      simp only [hs] at h
      cases hm : mRest dz fz y with
      | none => simp only [hm] at h; cases h
      | some q =>
        obtain ⟨q, v⟩ := q
        simp only [hm] at h
        split at h
        · cases h; have := mSW_len hs; have := mRest_len hm; omega
        · cases h
  · split at h
    · rw [mCourse] at h
      cases hs : mSW "course" (decide (co.length + ba.length < 14)) l with
      | none => simp only [hs] at h; cases h
      | some y =>
        obtain ⟨_, y⟩ := y
        simp only [hs] at h
        cases hm : mRest dz fz y with
        | none => simp only [hm] at h; cases h
        | some q =>
          obtain ⟨q, v⟩ := q
          simp only [hm] at h
          split at h
          · cases h; have := mSW_len hs; have := mRest_len hm; omega
          · cases h
    · split at h
      · rw [mBass] at h
        cases hs : mSW "bass" (decide (co.length + ba.length < 14)) l with
        | none => simp only [hs] at h; cases h
        | some y =>
          obtain ⟨_, y⟩ := y
          simp only [hs] at h
          cases hm : mRest dz fz y with
          | none => simp only [hm] at h; cases h
          | some q =>
            obtain ⟨q, v⟩ := q
            simp only [hm] at h
            cases h; have := mSW_len hs; have := mRest_len hm; omega
      · cases h
theorem mLineI_len {dz fz : Str} {s s' : St3} {l t : List UInt8} (h : mLineI dz fz s l = some (s', t)) : t.length < l.length := by
  unfold mLineI at h
  cases hp : mPart dz fz s l with
  | none => rw [hp] at h; cases h
  | some y =>
    obtain ⟨s1, y⟩ := y
    simp only [hp] at h
    cases hs : sk ("\n" : Str).cps.toList y with
    | none => rw [hs] at h; cases h
    | some q =>
      obtain ⟨_, q⟩ := q
      rw [hs] at h
      cases h
      have h1 := mPart_len hp
      have h2 : t.length + 1 = y.length := sk_len hs
      omega
def GotN (K : PySem.W.Frag) (CI CT : Addr) (H : Hp) (Q : VK) (E : XK) : Option St3 → Prop
  | some (fr, co, ba) => ∀ H' ia af ac ab, Same H H' → InA K CI H' ia af ac ab fr co ba → Q (.ref ia) H'
  | none => ∀ z : Int, E (.ref CT) none (xH [("place", .int z)])
def spRIn (K : PySem.W.Frag) (CI CT : Addr) (dz fz : Str) : Sp := fun vs H Q E => ∃ (ta : Addr) (cs : List UInt8), vs = [.ref ta] ∧ SqL K H ta (cs.map cV) ∧ GotN K CI CT H Q E (mInst dz fz cs)
section
variable {P : Program} {w : World} {K : PySem.W.Frag} {mg : Str → Option Value} {base : Heap} {C CI CT : Addr} {dz fz : Str}
theorem sc_ln : FnScope ["reader", "instrument"] ["reader", "instrument"] (defScope s_read_line_instruments) := ⟨rfl, rfl, rfl, by decide +kernel, rfl, by decide +kernel, by decide +kernel⟩
theorem ok_ln {f : Addr} {fd : FuncData} (F : Fun K "read_line" "read_line" s_read_line_instruments f fd) (N : InE P w K mg base C CI CT dz fz) (D1 : Def P w K mg base 10 "read_fret" ["reader", "instrument"] (spLn K C CI CT (mFret dz fz)))
    (D2 : Def P w K mg base 10 "read_course" ["reader", "instrument"] (spLn K C CI CT (mCourse dz fz))) (D3 : Def P w K mg base 10 "read_bass" ["reader", "instrument"] (spLn K C CI CT (mBass dz fz))) :
    FnOk P w K mg base (CX1 P w) 11 f fd ["reader", "instrument"] (spLn K C CI CT (mLineI dz fz)) := by
  refine F.okx sc_ln (fun vs H Q E h => ?_) (fun cdv A outer s H vs Q E hr h => ?_)
  · obtain ⟨r, ta, cs, e, rest, ia, af, ac, ab, fr, co, ba, rfl, _⟩ := h
    rfl
  · obtain ⟨r, ta, cs, e, rest, ia, af, ac, ab, fr, co, ba, rfl, Rr, I, tt, k⟩ := h
    have R := N.R
    refine ⟨_, (pss_cons (ps_if (pw_and (pt_sees R hr out_cx (pv 0) pe_str (oks (by decide +kernel))) (pw_and1 (pt_cmpR op_eq (pe_callB call_len_seq (by rfl) N.B.len PySem.boot_len (pa_cons (pe_fld (pv 1) rfl) pa_nil)) pe_int (nomark _)))).pt
        (pss_one (ps_expr (D1.call hr out_cx (pa_cons (pv 0) (pa_cons (pv 1) pa_nil)))))
        (pss_one (ps_if (pw_and (pt_sees R hr out_cx (pv 0) pe_str (oks (by decide +kernel))) (pw_and1 (pt_cmpR op_eq (pe_callB call_len_seq (by rfl) N.B.len PySem.boot_len (pa_cons (pe_fld (pv 1) rfl) pa_nil)) pe_int (nomark _)))).pt
          (pss_one (ps_expr (D2.call hr out_cx (pa_cons (pv 0) (pa_cons (pv 1) pa_nil)))))
          (pss_one (ps_if (pw_and (pt_sees R hr out_cx (pv 0) pe_str (oks (by decide +kernel))) (pw_and1 (pt_cmpR op_gt (pe_callB call_len_seq (by rfl) N.B.len PySem.boot_len (pa_cons (pe_fld (pv 1) rfl) pa_nil)) pe_int (nomark _)))).pt
            (pss_one (ps_expr (D3.call hr out_cx (pa_cons (pv 0) (pa_cons (pv 1) pa_nil)))))
            (pss_one (ps_fault R.X1 hr out_cx rfl (pe_place R (pv 0)))))))))
      (pss_one (ps_skip R hr out_cx (pv 0) pe_str (oks (by decide +kernel))))), ?_⟩
    unfold mLineI at k
    -- behind a part
    have tail : ∀ (H1 H2 : Hp) (fr' co' ba' : List (List Int)) (t : List UInt8), Same H H1 → SbL [r, af, ac, ab] H1 H2 → Rd K C H2 r ta cs e t → InA K CI H2 ia af ac ab fr' co' ba' → mPart dz fz (fr, co, ba) rest = some ((fr', co', ba'), t) →
        (sSkip K C CT E (tVar 0) "\n") { nx := fun _ H' => Q .non H', rt := Q } [some (.ref r), some (.ref ia)] H2 := by
      intro H1 H2 fr' co' ba' t s1 s2 R2 I2 hp
      rw [hp] at k
      obtain ⟨dr, p, ir⟩ := R2.ins
      refine ⟨_, rfl, r, ta, cs, e, t, rfl, R2, ?_⟩
      cases hs : sk ("\n" : Str).cps.toList t with
      | none => simp only [hs] at k; exact got_none hs k
      | some x =>
        obtain ⟨_, u⟩ := x
        simp only [hs] at k
        exact got_some hs fun H3 R3 s3 => k H3 R3 (I2.kp (Sb.kp s3 ir)) (((Same.l s1).trans s2).trans (Sb.l s3 (mem4 r af ac ab).1))
    have nope : ∀ z : Int, mPart dz fz (fr, co, ba) rest = none → E (.ref CT) none (xH [("place", .int z)]) := fun z hp => by
      rw [hp] at k
      exact k z
    obtain ⟨dx, i1⟩ := I.at_
    rw [mPart] at tail nope
    have test : ∀ (H1 : Hp) (z : Str), True := fun _ _ => True.intro
    refine ⟨_, rfl, r, ta, cs, e, rest, rfl, Rr, fun H1 s1 => ?_⟩
    have I1 := I.kp (Same.kp s1)
    have R1 := Rr.same s1
    have i11 := s1 _ _ i1
    have second : ∀ H1 : Hp, Same H H1 → ¬ (see "f" rest = true ∧ co.length = 0) → (tIfS (tAnd (tSees K C (tVar 0) "c") (tTest (tOp rEq (tCB (fun xs H Q => ∃ p ys, xs = [V.ref p] ∧ (SqL K H p ys ∨ SqT K H p ys) ∧ Q (.int ys.length) H) (tCons (tFld K (tVar 1) "basses") tNil)) (tC (.int 0)))))
        (tDrop (tCall (spLn K C CI CT (mCourse dz fz)) [] E (tCons (tVar 0) (tCons (tVar 1) tNil))))
        (tIfS (tAnd (tSees K C (tVar 0) "b") (tTest (tOp (rI0 fun i j => .bl (decide (j < i))) (tCB (fun xs H Q => ∃ p ys, xs = [V.ref p] ∧ (SqL K H p ys ∨ SqT K H p ys) ∧ Q (.int ys.length) H) (tCons (tFld K (tVar 1) "courses") tNil)) (tC (.int 0)))))
          (tDrop (tCall (spLn K C CI CT (mBass dz fz)) [] E (tCons (tVar 0) (tCons (tVar 1) tNil)))) (tFault CT E (tPlace K C (tVar 0)))))
        { nx := (sSkip K C CT E (tVar 0) "\n") { nx := fun _ H' => Q .non H', rt := Q }, rt := Q } [some (.ref r), some (.ref ia)] H1 := by
      intro H1 s1 hno
      rw [if_neg hno] at tail nope
      have I1 := I.kp (Same.kp s1)
      have R1 := Rr.same s1
      refine ⟨_, rfl, r, ta, cs, e, rest, rfl, R1, fun H2 s2 => ?_⟩
      have s12 := s1.trans s2
      have I2 := I.kp (Same.kp s12)
      have R2 := Rr.same s12
      have i2 := s12 _ _ i1
      have third : ∀ H2 : Hp, Same H H2 → ¬ (see "c" rest = true ∧ ba.length = 0) → (tIfS (tAnd (tSees K C (tVar 0) "b") (tTest (tOp (rI0 fun i j => .bl (decide (j < i))) (tCB (fun xs H Q => ∃ p ys, xs = [V.ref p] ∧ (SqL K H p ys ∨ SqT K H p ys) ∧ Q (.int ys.length) H) (tCons (tFld K (tVar 1) "courses") tNil)) (tC (.int 0)))))
          (tDrop (tCall (spLn K C CI CT (mBass dz fz)) [] E (tCons (tVar 0) (tCons (tVar 1) tNil)))) (tFault CT E (tPlace K C (tVar 0))))
          { nx := (sSkip K C CT E (tVar 0) "\n") { nx := fun _ H' => Q .non H', rt := Q }, rt := Q } [some (.ref r), some (.ref ia)] H2 := by
        intro H2 s2 hno2
        rw [if_neg hno2] at tail nope
        have R2 := Rr.same s2
        refine ⟨_, rfl, r, ta, cs, e, rest, rfl, R2, fun H3 s3 => ?_⟩
        have s23 := s2.trans s3
        have I3 := I.kp (Same.kp s23)
        have R3 := Rr.same s23
        have i3 := s23 _ _ i1
        have last : ¬ (see "b" rest = true ∧ 0 < co.length) → (tFault CT E (tPlace K C (tVar 0))) { nx := (sSkip K C CT E (tVar 0) "\n") { nx := fun _ H' => Q .non H', rt := Q }, rt := Q } [some (.ref r), some (.ref ia)] H3 := fun hno3 => by
          rw [if_neg hno3] at nope
          exact ⟨V.ref r, rfl, r, ta, cs, e, rest, rfl, R3, fun z => ⟨z, rfl, nope z rfl⟩⟩
        cases hb : see "b" rest with
        | false => exact iteF (iteF (last (by rw [hb]; rintro ⟨q, _⟩; cases q)))
        | true =>
          obtain ⟨y1, q1, l1⟩ := I3.co_.len
          refine iteT ⟨V.ref ia, rfl, ia, CI, dx, _, _, rfl, i3, N.T.cl, N.T.nc, ifs_c _ _ _, ac, y1, rfl, .inl q1, _, _, rfl, rfl, _, rfl, ite2 (fun h0 => ?_) (fun h0 => ?_)⟩
          · have hc : 0 < co.length := by
              have : (0 : Int) < (y1.length : Int) := by simpa using h0
              omega
            rw [if_pos ⟨hb, hc⟩] at tail nope
            refine ⟨V.ref r, rfl, V.ref ia, rfl, r, ta, cs, e, rest, ia, af, ac, ab, fr, co, ba, rfl, R3, I3, tt, ?_⟩
            cases hm : mBass dz fz (fr, co, ba) rest with
            | none => exact gotl_none rfl fun z => nope z hm
            | some x =>
              obtain ⟨⟨fr', co', ba'⟩, t⟩ := x
              exact gotl_some rfl fun H4 R4 I4 s4 => tail H3 H4 fr' co' ba' t s23 s4 R4 I4 hm
          · have hc : ¬ 0 < co.length := by
              have : ¬ (0 : Int) < (y1.length : Int) := by simpa using h0
              omega
            exact last fun q => hc q.2
      cases hc : see "c" rest with
      | false => exact iteF (iteF (third H2 s12 (by rw [hc]; rintro ⟨q, _⟩; cases q)))
      | true =>
        obtain ⟨y1, q1, l1⟩ := I2.ba_.len
        refine iteT ⟨V.ref ia, rfl, ia, CI, dx, _, _, rfl, i2, N.T.cl, N.T.nb, ifs_b _ _ _, ab, y1, rfl, .inl q1, rfl, _, rfl, ite2 (fun h0 => ?_) (fun h0 => ?_)⟩
        · have hb0 : ba.length = 0 := by
            have q := of_decide_eq_true h0
            injection q with q
            omega
          rw [if_pos ⟨hc, hb0⟩] at tail nope
          refine ⟨V.ref r, rfl, V.ref ia, rfl, r, ta, cs, e, rest, ia, af, ac, ab, fr, co, ba, rfl, R2, I2, tt, ?_⟩
          cases hm : mCourse dz fz (fr, co, ba) rest with
          | none => exact gotl_none rfl fun z => nope z hm
          | some x =>
            obtain ⟨⟨fr', co', ba'⟩, t⟩ := x
            exact gotl_some rfl fun H4 R4 I4 s4 => tail H2 H4 fr' co' ba' t s12 s4 R4 I4 hm
        · have hb0 : ¬ ba.length = 0 := fun q => h0 (decide_eq_true (by rw [l1, q]; rfl))
          exact third H2 s12 fun q => hb0 q.2
    cases hf : see "f" rest with
    | false => exact iteF (iteF (second H1 s1 (by rw [hf]; rintro ⟨q, _⟩; cases q)))
    | true =>
      obtain ⟨y1, q1, l1⟩ := I1.co_.len
      refine iteT ⟨V.ref ia, rfl, ia, CI, dx, _, _, rfl, i11, N.T.cl, N.T.nc, ifs_c _ _ _, ac, y1, rfl, .inl q1, rfl, _, rfl, ite2 (fun h0 => ?_) (fun h0 => ?_)⟩
      · have hc0 : co.length = 0 := by
          have q := of_decide_eq_true h0
          injection q with q
          omega
        rw [if_pos ⟨hf, hc0⟩] at tail nope
        refine ⟨V.ref r, rfl, V.ref ia, rfl, r, ta, cs, e, rest, ia, af, ac, ab, fr, co, ba, rfl, R1, I1, tt, ?_⟩
        cases hm : mFret dz fz (fr, co, ba) rest with
        | none => exact gotl_none rfl fun z => nope z hm
        | some x =>
          obtain ⟨⟨fr', co', ba'⟩, t⟩ := x
          exact gotl_some rfl fun H4 R4 I4 s4 => tail H1 H4 fr' co' ba' t s1 s4 R4 I4 hm
      · have hc0 : ¬ co.length = 0 := fun q => h0 (decide_eq_true (by rw [l1, q]; rfl))
        exact second H1 s1 fun q => hc0 q.2
theorem sc_le : FnScope ["reader", "start", "length"] ["reader"] (defScope s_read_length_instruments) := ⟨rfl, rfl, rfl, by decide +kernel, rfl, by decide +kernel, by decide +kernel⟩
theorem ok_le {f : Addr} {fd : FuncData} (F : Fun K "read_length" "read_length" s_read_length_instruments f fd) (R : RdE P w K mg base C CT dz) (g1 : GI mg "LENGTH_DIGITS" ((7 : Nat) : Int)) (g2 : GI mg "LEAST_LENGTH" 10000) (g3 : GI mg "GREATEST_LENGTH" 200000) :
    FnOk P w K mg base (CX1 P w) 5 f fd ["reader"] (spOne K C CT (mLen dz) non_) := by
  refine F.okx sc_le (fun vs H Q E h => ?_) (fun cdv A outer s H vs Q E hr h => ?_)
  · obtain ⟨r, ta, cs, e, rest, rfl, _⟩ := h
    rfl
  · obtain ⟨r, ta, cs, e, rest, rfl, Rr, k⟩ := h
    refine ⟨_, (pss_cons (ps_skip R hr out_cx (pv 0) pe_str (oks (by decide +kernel)))
      (pss_cons (ps_set (i := 1) sc_le.nd rfl (Or.inl rfl) (pe_place R (pv 0)))
      (pss_cons (ps_if (pt_sees R hr out_cx (pv 0) pe_str (oks (by decide +kernel))) (pss_one (ps_fault R.X1 hr out_cx rfl (pv 1))) pss_nil)
      (pss_cons (ps_set (i := 2) sc_le.nd rfl (Or.inl rfl) (pe_wn (most := 7) R hr out_cx (pv 0) (pe_gi g1)))
      (pss_cons (ps_if (pw_or (pt_cmpR op_lt (pv 2) (pe_gi g2) (nomark _)) (pw_or1 (pt_cmpR op_gt (pv 2) (pe_gi g3) (nomark _)))).pt (pss_one (ps_fault R.X1 hr out_cx rfl (pv 1))) pss_nil)
      (pss_one (ps_skip R hr out_cx (pv 0) pe_str (oks (by decide +kernel))))))))), ?_⟩
    unfold mLen at k
    refine ⟨_, rfl, r, ta, cs, e, rest, rfl, Rr, ?_⟩
    cases hs : sk ("length " : Str).cps.toList rest with
    | none => rw [hs] at k; exact got_none hs k
    | some x =>
      obtain ⟨_, t⟩ := x
      simp only [hs] at k
      refine got_some hs fun H1 R1 s1 => ?_
      refine ⟨_, rfl, r, ta, cs, e, t, rfl, R1, fun st => ?_⟩
      refine ⟨_, rfl, r, ta, cs, e, t, rfl, R1, fun H2 s2 => ?_⟩
      have R2 := R1.same s2
      cases h0 : see "0" t with
      | true =>
        rw [if_pos h0] at k
        exact iteT ⟨V.int st, rfl, st, rfl, k st⟩
      | false =>
        rw [if_neg (by rw [h0]; decide)] at k
        refine iteF ⟨_, rfl, r, ta, cs, e, t, rfl, R2, ?_⟩
        cases hw : wn dz 7 t with
        | none => simp only [hw] at k; exact got_none hw k
        | some x =>
          obtain ⟨n, u⟩ := x
          simp only [hw] at k
          refine got_some hw fun H3 R3 s3 => ?_
          have fail : (n < 10000 ∨ 200000 < n) → ∀ z : Int, E (.ref CT) none (xH [("place", .int z)]) := fun q => by rw [if_pos q] at k; exact k
          refine ⟨V.int (n : Nat), rfl, _, _, rfl, rfl, _, rfl, ite2 (fun h1 => ?_) (fun h1 => ?_)⟩
          · have q1 : n < 10000 := by have : (n : Int) < 10000 := by simpa using h1
                                      omega
            exact iteT ⟨V.int st, rfl, st, rfl, fail (.inl q1) st⟩
          · have q1 : ¬ n < 10000 := by have : ¬ (n : Int) < 10000 := by simpa using h1
                                        omega
            refine ⟨V.int (n : Nat), rfl, _, _, rfl, rfl, _, rfl, ite2 (fun h2 => ?_) (fun h2 => ?_)⟩
            · have q2 : 200000 < n := by have : (200000 : Int) < n := by simpa using h2
                                         omega
              exact ⟨V.int st, rfl, st, rfl, fail (.inr q2) st⟩
            · have q2 : ¬ 200000 < n := by have : ¬ (200000 : Int) < n := by simpa using h2
                                           omega
              rw [if_neg (by rintro (q | q); exact q1 q; exact q2 q)] at k
              refine ⟨_, rfl, r, ta, cs, e, u, rfl, R3, ?_⟩
              cases hs2 : sk ("\n" : Str).cps.toList u with
              | none => rw [hs2] at k; exact got_none hs2 k
              | some x =>
                obtain ⟨⟨⟩, v⟩ := x
                rw [hs2] at k
                exact got_some hs2 fun H4 R4 s4 => k H4 R4 (((s1.trans s2.sb).trans s3).trans s4)
end
end Lt
end
section
set_option Elab.async false
set_option linter.all false
set_option maxRecDepth 100000
set_option maxHeartbeats 400000
namespace Lt
open PySem PySem.Spec PyProof.Rows L2
theorem gotn_none {K : PySem.W.Frag} {CI CT : Addr} {H : Hp} {Q : VK} {E : XK} {res : Option St3} (k : GotN K CI CT H Q E res) (h : res = none) : ∀ z : Int, E (.ref CT) none (xH [("place", .int z)]) := by
  rw [h] at k; exact k
theorem gotn_some {K : PySem.W.Frag} {CI CT : Addr} {H : Hp} {Q : VK} {E : XK} {res : Option St3} {fr co ba : List (List Int)} (k : GotN K CI CT H Q E res) (h : res = some (fr, co, ba)) : ∀ H' ia af ac ab, Same H H' → InA K CI H' ia af ac ab fr co ba → Q (.ref ia) H' := by
  rw [h] at k; exact k
/-- of a text that is handed in: another list than a new one -/
theorem tx_new {K : PySem.W.Frag} {H : Hp} {ta a : Addr} {cs : List UInt8} (h : SqL K H ta (cs.map cV)) (n : H a = none) : ta ≠ a ∨ KTx K ta (cs.map cV) := by
  rcases h with (h | ⟨o, h⟩) | h
  · exact .inl (ne_of_none h n)
  · exact .inl (ne_of_none h n)
  · exact .inr h
def spHP (K : PySem.W.Frag) (CI : Addr) : Sp := fun vs H Q _ => ∃ (ia af ac ab : Addr) (fr co ba : List (List Int)) (c f : Int), vs = [.ref ia, .int c, .int f] ∧ InA K CI H ia af ac ab fr co ba ∧
  Q (.bl (if c ≤ co.length then decide (f ≤ fr.length) else decide (c ≤ ((co.length + ba.length : Nat) : Int)) && decide (f = 0))) H
theorem iteC {c : Bool} {A B : Prop} (hc : c = true) (h : A) : if c = true then A else B := by rw [if_pos hc]; exact h
theorem iteD {c : Bool} {A B : Prop} (hc : c = false) (h : B) : if c = true then A else B := by rw [if_neg (by rw [hc]; decide)]; exact h
theorem mLines_s (dz fz : Str) (f : Nat) (fr co ba : List (List Int)) (l : List UInt8) : mLines dz fz (f + 1) (fr, co, ba) l = if l.isEmpty = true ∧ ¬ co.length = 0 then some (fr, co, ba) else match mLineI dz fz (fr, co, ba) l with
    | none => none
    | some (s, t) => mLines dz fz f s t := by rw [mLines]; all_goals rfl
def WIn (K : PySem.W.Frag) (C CI : Addr) (dz fz : Str) (ta r ia af ac ab : Addr) (cs t : List UInt8) (H3 : Hp) (m : Nat) (σ : L2.St) (H' : Hp) : Prop :=
  ∃ (rest : List UInt8) (fr co ba : List (List Int)) (g : Nat), σ = [some (.ref ta), some (.ref r), some (.ref ia)] ∧ SbL [r, af, ac, ab] H3 H' ∧ Rd K C H' r ta cs cs.length rest ∧ InA K CI H' ia af ac ab fr co ba ∧
    mLines dz fz (t.length + 1) ([], [], []) t = mLines dz fz g (fr, co, ba) rest ∧ rest.length < g ∧ m = rest.length
section
variable {P : Program} {w : World} {K : PySem.W.Frag} {mg : Str → Option Value} {base : Heap} {C CI CT : Addr} {dz fz : Str}
theorem sc_rin : FnScope ["text", "reader", "instrument"] ["text"] (defScope s_read_instrument) := ⟨rfl, rfl, rfl, by decide +kernel, rfl, by decide +kernel, by decide +kernel⟩
theorem ok_rin {f : Addr} {fd : FuncData} (F : Fun K "read_instrument" "read_instrument" s_read_instrument f fd) (N : InE P w K mg base C CI CT dz fz) (MI : Mkr P w K mg base 1 CI "Instrument" ["self"] (spII0 CI))
    (D1 : Def P w K mg base 5 "read_length_instruments" ["reader"] (spOne K C CT (mLen dz) non_)) (D2 : Def P w K mg base 11 "read_line_instruments" ["reader", "instrument"] (spLn K C CI CT (mLineI dz fz))) :
    FnOk P w K mg base (CX1 P w) 12 f fd ["text"] (spRIn K CI CT dz fz) := by
  refine F.okx sc_rin (fun vs H Q E h => ?_) (fun cdv A outer s H vs Q E hr h => ?_)
  · obtain ⟨ta, cs, rfl, _⟩ := h
    rfl
  · obtain ⟨ta, cs, rfl, tx, k⟩ := h
    have R := N.R
    refine ⟨_, (pss_cons (ps_set (i := 1) sc_rin.nd rfl (Or.inl rfl) (R.mkr.call hr out_cx (pa_cons (pv 0) (pa_cons pe_int (pa_cons (pe_callB call_len_seq (by rfl) N.B.len PySem.boot_len (pa_cons (pv 0) pa_nil)) pa_nil)))))
      (pss_cons (ps_expr (pe_par D1 hr out_cx (pv 1)))
      (pss_cons (ps_set (i := 2) sc_rin.nd rfl (Or.inl rfl) (MI.call0 hr out_cx))
      (pss_cons (ps_while PassesOwn.leaving (pw_or (pt_not (pt_ended R hr out_cx (pv 1))) (pw_or1 (pt_cmpR op_eq (pe_callB call_len_seq (by rfl) N.B.len PySem.boot_len (pa_cons (pe_fld (pv 2) rfl) pa_nil)) pe_int (nomark _)))).pt
        (pss_one (ps_expr (D2.call hr out_cx (pa_cons (pv 1) (pa_cons (pv 2) pa_nil))))))
      (pss_one (ps_ret (pv 2))))))), ?_⟩
    refine ⟨V.ref ta, rfl, V.ref ta, rfl, ta, _, rfl, .inl tx, fun r dr nr nd hne => ⟨r, dr, ta, 0, _, rfl, upd_same, fun H1 h1 s1 => ⟨rfl, ?_⟩⟩⟩
    have sm1 : Same H H1 := fresh_same nr nd s1 Sb.refl
    have fin : ∀ {H2 : Hp}, Sb r H1 H2 → Same H H2 := fun s2 => fresh_same nr nd s1 s2
    have R1 : Rd K C H1 r ta cs cs.length cs := by
      refine ⟨⟨dr, 0, ?_, ?_, Nat.zero_le _⟩, sm1.seq tx, Nat.le_refl _⟩
      · rw [h1, List.length_map]; rfl
      · rw [List.take_length]; rfl
    unfold mInst at k
    refine ⟨V.ref r, rfl, r, ta, cs, cs.length, cs, rfl, R1, ?_⟩
    cases hl : mLen dz cs with
    | none => exact got_none hl (gotn_none k (by rw [hl]))
    | some x =>
      obtain ⟨_, t⟩ := x
      simp only [hl] at k
      refine got_some hl fun H2 R2 s2 => ?_
      have sm2 := fin s2
      intro ia di ni ndi hni
      refine ⟨ia, di, rfl, upd_same, fun H3 af ac ab h3 ea ec eb nf nc nb n1 n2 n3 s3 => ⟨rfl, ?_⟩⟩
      have sm23 : Same H2 H3 := fresh_same ni ndi s3 Sb.refl
      have nn : ∀ {q : Addr}, (upd (upd H2 di (.own ia)) ia (.ins CI di [])) q = none → H2 q = none := fun {q} h => by
        by_cases e1 : q = ia
        · rw [e1]; exact ni
        · by_cases e2 : q = di
          · rw [e2]; exact ndi
          · rw [upd_ne e1, upd_ne e2] at h; exact h
      have I3 : InA K CI H3 ia af ac ab [] [] [] := ⟨⟨di, h3⟩, ⟨[], ea, .nil⟩, ⟨[], ec, .nil⟩, ⟨[], eb, .nil⟩, n1, n2, n3, by simp, by simp, by simp, by simp, by simp⟩
      have R3 := R2.same sm23
      have tt : (ta ≠ af ∧ ta ≠ ac ∧ ta ≠ ab) ∨ KTx K ta (cs.map cV) := by
        rcases tx_new R2.tx (nn nf) with q1 | q
        · rcases tx_new R2.tx (nn nc) with q2 | q
          · rcases tx_new R2.tx (nn nb) with q3 | q
            · exact .inl ⟨q1, q2, q3⟩
            · exact .inr q
          · exact .inr q
        · exact .inr q
      -- what changes later: r, and the new lists
      have hold : ∀ {H4 : Hp}, SbL [r, af, ac, ab] H3 H4 → Same H H4 := fun {H4} s4 b o e => by
        have m0 : b ≠ r := ne_of_none e nr
        have e2 := sm2 b o e
        have m1 : b ≠ af := ne_of_none e2 (nn nf)
        have m2 : b ≠ ac := ne_of_none e2 (nn nc)
        have m3 : b ≠ ab := ne_of_none e2 (nn nb)
        exact s4 b o (sm23 b o e2) (by simp [m0, m1, m2, m3])
      refine ⟨WIn K C CI dz fz ta r ia af ac ab cs t H3, ⟨t.length, t, [], [], [], t.length + 1, rfl, SbL.refl, R3, I3, rfl, by omega, rfl⟩, ?_⟩
      rintro m σ H4 ⟨rest, fr, co, ba, g, rfl, s4, R4, I4, em, hg, rfl⟩
      rw [em] at k
      obtain ⟨g, rfl⟩ : ∃ g', g = g' + 1 := ⟨g - 1, by omega⟩
      rw [mLines_s] at k
      replace em := em.trans (mLines_s dz fz g fr co ba rest)
      obtain ⟨dx, i4⟩ := I4.at_
      have step : ¬ (rest.isEmpty = true ∧ ¬ co.length = 0) → (tDrop (tCall (spLn K C CI CT (mLineI dz fz)) [] E (tCons (tVar 1) (tCons (tVar 2) tNil)))) { nx := fun σ' H' => ∃ m', m' < rest.length ∧ WIn K C CI dz fz ta r ia af ac ab cs t H3 m' σ' H', rt := Q } [some (.ref ta), some (.ref r), some (.ref ia)] H4 := by
        intro hno
        rw [if_neg hno] at k em
        refine ⟨V.ref r, rfl, V.ref ia, rfl, r, ta, cs, cs.length, rest, ia, af, ac, ab, fr, co, ba, rfl, R4, I4, tt, ?_⟩
        cases hm : mLineI dz fz (fr, co, ba) rest with
        | none => exact gotl_none rfl (gotn_none k (by rw [hm]))
        | some x =>
          obtain ⟨⟨fr', co', ba'⟩, u⟩ := x
          have hlt := mLineI_len hm
          simp only [hm] at em
          refine gotl_some rfl fun H5 R5 I5 s5 => ⟨u.length, hlt, u, fr', co', ba', g, rfl, s4.trans s5, R5, I5, em, by omega, rfl⟩
      have stop : (rest.isEmpty = true ∧ ¬ co.length = 0) → Q (.ref ia) H4 := fun hy => gotn_some k (by rw [if_pos hy]) H4 ia af ac ab (hold s4) I4
      refine ⟨V.ref r, rfl, r, ta, cs, cs.length, rest, rfl, R4, ?_⟩
      rcases Bool.eq_false_or_eq_true rest.isEmpty with hr0 | hr0
      case inr =>
        refine iteC (c := !rest.isEmpty) (by rw [hr0]; rfl) ?_
        exact wh_true (step (by rw [hr0]; rintro ⟨q, _⟩; cases q))
      case inl =>
        obtain ⟨y1, q1, l1⟩ := I4.co_.len
        refine iteD (c := !rest.isEmpty) (by rw [hr0]; rfl) ⟨V.ref ia, rfl, ia, CI, dx, _, _, rfl, i4, N.T.cl, N.T.nc, ifs_c _ _ _, ac, y1, rfl, .inl q1, rfl, _, rfl, ?_⟩
        by_cases hc : co.length = 0
        · have hd : decide (V.int ((y1.length : Nat) : Int) = V.int 0) = true := decide_eq_true (by rw [l1, hc]; rfl)
          rw [hd]
          exact wh_true (step fun q => q.2 hc)
        · have hd : decide (V.int ((y1.length : Nat) : Int) = V.int 0) = false := decide_eq_false fun q => hc (by injection q with q; omega)
          rw [hd]
          exact iteF ⟨V.ref ia, rfl, stop ⟨hr0, hc⟩⟩
theorem sc_hp : FnScope ["self", "course", "fret"] ["self", "course", "fret"] (defScope s_Instrument_has_place) := ⟨rfl, rfl, rfl, by decide +kernel, rfl, by decide +kernel, by decide +kernel⟩
theorem ok_hp {f : Addr} {fd : FuncData} (F : Fun K "has_place" "Instrument.has_place" s_Instrument_has_place f fd) (B : Blt mg) (T : InC K CI) (M1 : Mth P w K mg base 1 CI "string_count" ["self"] (spSC K CI)) : FnOk P w K mg base (CX1 P w) 2 f fd ["self", "course", "fret"] (spHP K CI) := by
  refine F.okx sc_hp (fun vs H Q E h => ?_) (fun cdv A outer s H vs Q E hr h => ?_)
  · obtain ⟨ia, af, ac, ab, fr, co, ba, c, f, rfl, _⟩ := h
    rfl
  · obtain ⟨ia, af, ac, ab, fr, co, ba, c, f, rfl, I, k⟩ := h
    obtain ⟨dx, h1⟩ := I.at_
    obtain ⟨y1, q1, l1⟩ := I.co_.len
    obtain ⟨y2, q2, l2⟩ := I.fr_.len
    refine ⟨_, (pss_cons (ps_if (pt_cmpR op_le (pv 1) (pe_callB call_len_seq (by rfl) B.len PySem.boot_len (pa_cons (pe_fld (pv 0) rfl) pa_nil)) (nomark _))
        (pss_one (ps_ret (pe_cmpR op_le (pv 2) (pe_callB call_len_seq (by rfl) B.len PySem.boot_len (pa_cons (pe_fld (pv 0) rfl) pa_nil)) (nomark _)))) pss_nil)
      (pss_one (ps_ret (pe_and (pe_cmpR op_le (pv 1) (M1.call0 (pv 0) hr out_cx) (nomark _)) (pe_one (pe_cmpR op_eq (pv 2) pe_int (nomark _))))))), ?_⟩
    refine ⟨V.int c, rfl, V.ref ia, rfl, ia, CI, dx, _, _, rfl, h1, T.cl, T.nc, ifs_c _ _ _, ac, y1, rfl, .inl q1, _, _, rfl, rfl, _, rfl, ite2 (fun h0 => ?_) (fun h0 => ?_)⟩
    · have hc : c ≤ (co.length : Int) := by
        have : c ≤ (y1.length : Int) := by simpa using h0
        omega
      rw [if_pos hc] at k
      refine ⟨V.int f, rfl, V.ref ia, rfl, ia, CI, dx, _, _, rfl, h1, T.cl, T.nf, ifs_f _ _ _, af, y2, rfl, .inl q2, _, _, rfl, rfl, ?_⟩
      rw [← l2] at k
      exact k
    · have hc : ¬ c ≤ (co.length : Int) := by
        have : ¬ c ≤ (y1.length : Int) := by simpa using h0
        omega
      rw [if_neg hc] at k
      refine ⟨V.int c, rfl, V.ref ia, rfl, ia, dx, _, rfl, h1, ifs_sc _ _ _, ia, af, ac, ab, fr, co, ba, rfl, I, _, _, rfl, rfl, ?_⟩
      cases hd : decide (c ≤ ((co.length + ba.length : Nat) : Int)) with
      | false =>
        rw [hd] at k
        exact ⟨false, (by rw [← hd]), iteF k⟩
      | true =>
        rw [hd] at k
        refine ⟨true, (by rw [← hd]), iteT ⟨V.int f, rfl, rfl, ?_⟩⟩
        have e0 : decide (V.int f = V.int 0) = decide (f = 0) := by
          rw [decide_eq_decide]
          exact ⟨fun q => by injection q, fun q => by rw [q]⟩
        rw [e0]
        exact k
end
end Lt
end
section
set_option Elab.async false
set_option linter.all false
set_option maxRecDepth 100000
set_option maxHeartbeats 400000
namespace L2
open PySem PySem.Spec PyProof.Rows
section
variable {prog : Program} {w : World} {A : Around} {E : Value → Shared → Prop} {s : Shared}
theorem lri_no_len : typeLookup (.type "list_reverseiterator") "__len__" = pure none := by rw [typeLookup_type, builtinLookup_eq_fast]; kernel_rfl
theorem lri_hint : typeLookup (.type "list_reverseiterator") "__length_hint__" = pure (some (.builtin "list_reverseiterator.__length_hint__")) := by rw [typeLookup_type, builtinLookup_eq_fast]; kernel_rfl
theorem ext_rev {R : Result → Shared → Prop} (hh : A.handled = none) (S it l : Addr) (items : Array Value) (res : Value) (c₀ : Nat) (hn : items.size ≤ sizeLine) (hne : l ≠ it) (hSi : S ≠ it) (hSl : S ≠ l) (hit : s.heap.IsRevIter it l ((items.size : Int) - 1)) (hl : s.heap.IsList l items)
    (hS : s.heap.get? S = some { cls := .type "list", data := .seq #[] c₀ })
    (hR : ∀ h' tk acc' c', (∀ b o, b ≠ S → b ≠ it → s.heap.get? b = some o → h'.get? b = some o) → h'.get? S = some { cls := .type "list", dict := none, data := .seq acc' c', slots := #[] } →
      ItemsOf (fun i v => items[items.size - 1 - i]? = some v) acc' items.size → R (.ok (.ret res)) { s with heap := h', toks := tk }) :
    wpAny (model prog w) A.in1 (Builtin.List.listExtendWith (.ref S) (.ref it) res)
      (fun fin s' => match fin with | .done f => R (.ok f) s' | .again c' => c'.quiet = true ∧ codeAny (model prog w) A c' R s') (fun e s' => R (.error e) s') s := by
  have hSf : S ∉ [it, l] := by simp [hSi, hSl]
  unfold Builtin.List.listExtendWith
  refine wpAny_bind (wpAny_typeOf (T := "list_reverseiterator") hit.typeIs ?_)
  have h1 : Builtin.List.listSameRef (.ref S) (.ref it) = false := by simp [Builtin.List.listSameRef, hSi]
  have h2 : (Value.type "list_reverseiterator" == Value.type "list") = false := by decide
  have h3 : (Value.type "list_reverseiterator" == Value.type "tuple") = false := by decide
  simp only [h1, h2, h3, Bool.or_false, Bool.false_eq_true, if_false]
  refine wpAny_bind (wpAny_pyIter_revIter hit ?_)
  refine wpAny_bind (wpAny_holding ?_)
  unfold Builtin.List.listLengthHint
  refine wpAny_bind (wpAny_specialOf hit.typeIs lri_no_len ?_)
  show wpAny _ A.in1 (specialOf (Value.ref it) (Str.ofString "__length_hint__") >>= _) _ _ _
  refine wpAny_bind (wpAny_specialOf hit.typeIs lri_hint ?_)
  wp_delta
  refine wpAny_bind (wpAny_isInstance (T := "list_reverseiterator") (v := .ref it) (b := true) hit.typeIs (by rw [isSubtype_type]; kernel_rfl) ?_)
  show wpAny _ _ (pure false) _ _ _
  refine wpAny_pure ?_
  rw [if_neg (by decide)]
  have W := (Walks.listRev (prog := prog) (w := w) (A := A.in1) hh it l hne items).toS
  refine wpAny_pure ⟨plainId_quiet F.plain_extend_loop _, codeAny_extend_loopS W hn _ hSf _ items.size 0 _ _ _ rfl (Nat.zero_le _) ⟨Nat.zero_le _, ?_, hl⟩ hS (ItemsOf.nil _) fun s' acc' c' hm hS' hacc => ?_⟩
  · have e : (items.size : Int) - 1 - ((0 : Nat) : Int) = (items.size : Int) - 1 := by omega
    rw [e]
    exact hit
  · rw [Moved.eq_with hm]
    refine hR s'.heap s'.toks acc' c' (fun b ob hb hb2 e => hm.heap b ob (fun hmem => ?_) e) hS' hacc
    simp [hb, hb2] at hmem
theorem init_rev {R : Result → Shared → Prop} (hh : A.handled = none) (S it l : Addr) (items : Array Value) (hn : items.size ≤ sizeLine) (hne : l ≠ it) (hSi : S ≠ it) (hSl : S ≠ l) (hit : s.heap.IsRevIter it l ((items.size : Int) - 1)) (hl : s.heap.IsList l items)
    (hS : s.heap.get? S = some { cls := .type "list", data := .seq #[] })
    (hR : ∀ h' tk acc' c', (∀ b o, b ≠ S → b ≠ it → s.heap.get? b = some o → h'.get? b = some o) → h'.get? S = some { cls := .type "list", dict := none, data := .seq acc' c', slots := #[] } →
      ItemsOf (fun i v => items[items.size - 1 - i]? = some v) acc' items.size → R (.ok (.ret .none)) { s with heap := h', toks := tk }) :
    wpAny (model prog w) A.in1 (Builtin.«list.__init__» ⟨[.ref S, .ref it], []⟩)
      (fun fin s' => match fin with | .done f => R (.ok f) s' | .again c' => c'.quiet = true ∧ codeAny (model prog w) A c' R s') (fun e s' => R (.error e) s') s := by
  show wpAny _ _ (do let old ← Builtin.List.listItems (.ref S); Builtin.List.listUpdate (.ref S) (fun _ => #[]); letGo old.toList.reverse; Builtin.List.listExtendWith (.ref S) (.ref it) .none) _ _ s
  refine wpAny_bind ?_
  unfold Builtin.List.listItems
  refine wpAny_bind (wpAny_seqItems hS rfl (wpAny_pure ?_))
  show wpAny _ _ (updateSeq S (fun _ => #[]) >>= fun _ => letGo (#[] : Array Value).toList.reverse >>= fun _ => Builtin.List.listExtendWith (.ref S) (.ref it) .none) _ _ s
  refine wpAny_bind (wpAny_updateSeq hS rfl ?_)
  have hS₂ := Heap.get?_update_self (Obj.mapSeq (fun _ => (#[] : Array Value))) hS rfl
  have oth : ∀ b o, b ≠ S → s.heap.get? b = some o → (s.heap.update S (Obj.mapSeq (fun _ => (#[] : Array Value)))).get? b = some o :=
    fun b o hb e => (Heap.get?_update_other _ _ (Ne.symm hb)).trans e
  refine wpAny_bind (wpAny_letGo ?_)
  refine ext_rev hh S it l items .none _ hn hne hSi hSl (hit.at fun o e => oth it o (Ne.symm hSi) e) (hl.at fun o e => oth l o (Ne.symm hSl) e) hS₂ fun h' tk acc' c' hk hS' hacc => ?_
  exact hR h' tk acc' c' (fun b o hb hb2 e => hk b o hb hb2 (oth b o hb e)) hS' hacc
theorem call_list_rev {Q : Value → Shared → Prop} (hh : A.handled = none) (it l : Addr) (items : Array Value) (hn : items.size ≤ sizeLine) (hne : l ≠ it) (hit : s.heap.IsRevIter it l ((items.size : Int) - 1)) (hl : s.heap.IsList l items)
    (hQ : ∀ h' tk acc' c', (∀ b o, b ≠ it → s.heap.get? b = some o → h'.get? b = some o) →
      h'.get? s.heap.objs.size = some { cls := .type "list", dict := none, data := .seq acc' c', slots := #[] } → ItemsOf (fun i v => items[items.size - 1 - i]? = some v) acc' items.size → Q (.ref s.heap.objs.size) { s with heap := h', toks := tk }) :
    wpAny (model prog w) A (call (.type "list") [.ref it]) Q E s := by
  refine callType_codes (Q₁ := fun obj s₁ => obj = .ref s.heap.objs.size ∧ s₁ = { s with heap := s.heap.push { cls := .type "list", data := .seq #[] } }) F.called_list (F.typeCall_list_1 _) F.entry_list_init
    (code_list_new _ ⟨rfl, rfl⟩) fun obj s₁ h₁ => ?_
  obtain ⟨rfl, rfl⟩ := h₁
  have hS : (s.heap.push { cls := .type "list", data := .seq #[] }).get? s.heap.objs.size = some { cls := .type "list", data := .seq #[] } := Heap.get?_push_size _ rfl
  obtain ⟨o1, e1, _⟩ := id hit
  obtain ⟨o2, e2, _⟩ := id hl
  refine ⟨⟨_, hS, rfl⟩, F.args_list_init_2 _ _, init_rev (A := A.in1) hh s.heap.objs.size it l items hn hne (Nat.ne_of_gt (Heap.lt_size e1)) (Nat.ne_of_gt (Heap.lt_size e2)) (hit.at fun o e => Heap.get?_push_of_some _ e) (hl.at fun o e => Heap.get?_push_of_some _ e) hS fun h' tk acc' c' hk hS' hacc => ?_⟩
  exact ⟨rfl, hQ h' tk acc' c' (fun b o hb e => hk b o (Nat.ne_of_lt (Heap.lt_size e)) hb (Heap.get?_push_of_some _ e)) hS' hacc⟩
end
/-- items as told, as a list of values -/
theorem vals_items {xs : List V} {acc : Array Value} {P : Nat → Value → Prop} (h : ItemsOf P acc xs.length) (hp : ∀ i v, P i v → ∀ x, xs[i]? = some x → RelV x v) : Vals xs acc.toList := by
  have : ∀ (xs : List V) (us : List Value), xs.length = us.length → (∀ (i : Nat) x v, xs[i]? = some x → us[i]? = some v → RelV x v) → Vals xs us := by
    intro xs
    induction xs with
    | nil => intro us hl _; cases us with
      | nil => exact .nil
      | cons _ _ => simp at hl
    | cons x xs ih => intro us hl hr; cases us with
      | nil => simp at hl
      | cons u us => exact .cons (hr 0 x u rfl rfl) (ih us (by simpa using hl) fun i y v h1 h2 => hr (i + 1) y v (by simpa using h1) (by simpa using h2))
  refine this xs acc.toList (by have := h.1; simp [this]) fun i x v h1 h2 => hp i v (h.2 i v (by simpa using h2)) x h1
section
variable {X : Cx}
def rgV (i c : Int) (n : Nat) : List V := (List.range n).map fun m => V.int (i + (m : Nat) * c)
def tLR (ta : TA) : TE := fun σ H Q => ta σ H fun vs H1 => ∃ (i j c : Int) (n : Nat), (vs = [.int i, .int j, .int c] ∨ c = 1 ∧ vs = [.int i, .int j]) ∧ RgC i j c n ∧ n ≤ 2 ^ 24 ∧ ∀ l, H1 l = none → Q (.ref l) (upd H1 l (.lst (rgV i c n)))
theorem lr_end {pins : List (Addr × Obj)} {σ : St} {H1 : Hp} {s1 : Shared} {Q : VK} {i j c : Int} {n tk : Nat} {t u v : Tok} (hcalm : X.calm = true) (I1 : Inv X pins σ H1 s1) (hc : RgC i j c n) (hn : n ≤ 2 ^ 24) (q : ∀ l, H1 l = none → Q (.ref l) (upd H1 l (.lst (rgV i c n)))) :
    wpAny (model X.prog X.w) X.A (call (.type "list") [.ref s1.heap.objs.size]) (EP X pins σ Q) X.xe { s1 with heap := s1.heap.push { cls := .type "range", data := .fields #[.int i t, .int j u, .int c v] }, toks := tk } := by
  refine call_list_range (n := n) (I1.ok.hd hcalm) (IsRange.new ..) hc.2.2.1 hc.2.2.2 hn fun h' tk' acc' c' kp hS hacc => ?_
  have kp' : ∀ b o, s1.heap.get? b = some o → h'.get? b = some o := fun b o e => kp b o (Heap.get?_push_of_some _ e)
  refine ⟨.ref _, upd H1 _ (.lst (rgV i c n)), I1.laid (t' := tk') kp' ?_ ⟨?_, acc'.toList, c', vals_items (P := fun i' v' => ∃ t, v' = .int (i + i' * c) t) ?_ ?_, by simpa using hS⟩, rfl, q _ (I1.hok.fresh ?_)⟩
  · show s1.heap.objs.size ≤ (s1.heap.push _).objs.size
    simp [Heap.push]
  · have : sizeLine = 16777216 := sizeLine_eq
    rw [rgV, List.length_map, List.length_range, this]; omega
  · rw [rgV, List.length_map, List.length_range]; exact hacc
  · rintro i' v' ⟨t, rfl⟩ x hx
    rw [rgV, List.getElem?_map] at hx
    by_cases hi : i' < n
    · rw [List.getElem?_range hi] at hx
      cases hx
      exact ⟨t, rfl⟩
    · rw [List.getElem?_eq_none (by simpa using hi)] at hx
      cases hx
  · show s1.heap.objs.size ≤ (s1.heap.push _).objs.size
    simp [Heap.push]
theorem pe_listRange {a b : Expr} {es : List Expr} {ta : TA} {p p2 pos pos2 : Pos} (hcalm : X.calm = true) (hm : X.mg "list" = none) (hm2 : X.mg "range" = none) (ha : PA X (a :: b :: es) ta) (hg : Gl X "list" := by rfl) (hg2 : Gl X "range" := by rfl)
    (hs : starEach [.Call (.Name "range" p2) (a :: b :: es) [] pos2] X.env = (false, eval (.Call (.Name "range" p2) (a :: b :: es) [] pos2) X.env) :: starEach [] X.env := by rfl)
    (hs2 : starEach (a :: b :: es) X.env = (false, eval a X.env) :: starEach (b :: es) X.env := by rfl) (hpl : (backTo pos2 (starEach (b :: es) X.env)).any (·.1) = false := by rfl) :
    PE X (.Call (.Name "list" p) [.Call (.Name "range" p2) (a :: b :: es) [] pos2] [] pos) (tLR ta) := by
  intro pins s σ H Q I h
  refine wpAny_Call_Name_kw (ld_blt I hg hm Lt.boot_lst ?_)
  refine PyProof.Rows.callWith_type1 ?_ hs rfl
  rw [hs]
  show wpAny _ _ (spliced ((false, _) :: backTo pos (starEach [] X.env))) _ _ s
  refine Calls.spliced_cons ?_
  refine Call_ (ld_blt I hg2 hm2 boot_range (PyProof.Rows.callWith_type1 (thn (ha pos2 pins s σ H _ I h) fun us s1 ⟨vs, H1, I1, r1, q1⟩ => ?_) hs2 hpl))
  obtain ⟨i, j, c, n, e, hc, hn, q⟩ := q1
  rcases e with e | ⟨e1, e⟩
  · subst e
    cases r1 with
    | cons r rr =>
      cases rr with
      | cons r' rr =>
        cases rr with
        | cons r'' rr =>
          cases rr
          obtain ⟨t, rfl⟩ := r
          obtain ⟨t', rfl⟩ := r'
          obtain ⟨t'', rfl⟩ := r''
          refine call_range_3 hc.1 ?_ (.inl (PyProof.noPylong_small hc.2.1))
          exact Calls.spliced_nil (lr_end hcalm I1 hc hn q)
  · subst e e1
    cases r1 with
    | cons r rr =>
      cases rr with
      | cons r' rr =>
        cases rr
        obtain ⟨t, rfl⟩ := r
        obtain ⟨t', rfl⟩ := r'
        refine call_range_2 ?_
        exact Calls.spliced_nil (lr_end hcalm I1 hc hn q)
def tLRev (K : PySem.W.Frag) (ta : TA) : TE := fun σ H Q => ta σ H fun vs H1 => ∃ (a : Addr) (xs : List V), vs = [.ref a] ∧ SqL K H1 a xs ∧ ∀ l, H1 l = none → Q (.ref l) (upd H1 l (.lst xs.reverse))
theorem pe_listRev {e : Expr} {ta : TA} {p p2 pos pos2 : Pos} (hcalm : X.calm = true) (hm : X.mg "list" = none) (hm2 : X.mg "reversed" = none) (ha : PA X [e] ta) (hg : Gl X "list" := by rfl) (hg2 : Gl X "reversed" := by rfl)
    (hs : starEach [.Call (.Name "reversed" p2) [e] [] pos2] X.env = (false, eval (.Call (.Name "reversed" p2) [e] [] pos2) X.env) :: starEach [] X.env := by rfl)
    (hs2 : starEach [e] X.env = [(false, eval e X.env)] := by rfl) :
    PE X (.Call (.Name "list" p) [.Call (.Name "reversed" p2) [e] [] pos2] [] pos) (tLRev X.K ta) := by
  intro pins s σ H Q I h
  refine wpAny_Call_Name_kw (ld_blt I hg hm Lt.boot_lst ?_)
  refine PyProof.Rows.callWith_type1 ?_ hs rfl
  rw [hs]
  show wpAny _ _ (spliced ((false, _) :: backTo pos (starEach [] X.env))) _ _ s
  refine Calls.spliced_cons ?_
  refine Call_ (ld_blt I hg2 hm2 boot_reversed5 (PyProof.Rows.callWith_type1 (thn (ha pos2 pins s σ H _ I h) fun us s1 ⟨vs, H1, I1, r1, q1⟩ => ?_) hs2 rfl))
  obtain ⟨a, xs, e, hq, q⟩ := q1
  subst e
  cases r1 with
  | cons r rr =>
    cases rr
    cases r
    obtain ⟨its, rv, p', hz⟩ := I1.list hq
    have hl := rv.length
    refine call_reversed_list p'.isList ?_
    refine Calls.spliced_nil ?_
    obtain ⟨ol, eol, cl, dl⟩ := id p'.isList
    have hlt := Heap.lt_size eol
    refine call_list_rev (I1.ok.hd hcalm) s1.heap.objs.size a its.toArray (by rw [List.size_toArray, ← hl]; exact hz) (Nat.ne_of_lt hlt) ⟨_, Heap.get?_push_size _ rfl, rfl, rfl⟩ ⟨ol, Heap.get?_push_of_some _ eol, cl, dl⟩ fun h' tk acc' c' kp hS hacc => ?_
    have kp' : ∀ b o, s1.heap.get? b = some o → h'.get? b = some o := fun b o e => kp b o (Nat.ne_of_lt (Heap.lt_size e)) (Heap.get?_push_of_some _ e)
    have hle : s1.heap.objs.size ≤ (s1.heap.push (revObj a ((its.toArray.size : Int) - 1))).objs.size := by simp [Heap.push]
    refine ⟨.ref _, upd H1 _ (.lst xs.reverse), I1.laid (t' := tk) kp' hle ⟨by rw [List.length_reverse]; exact hz, acc'.toList, c', vals_items (P := fun i v => its.toArray[its.toArray.size - 1 - i]? = some v) ?_ ?_, by simpa using hS⟩, rfl, q _ (I1.hok.fresh hle)⟩
    · rw [List.length_reverse, hl, ← List.size_toArray]; exact hacc
    · intro i v hv x hx
      have hi : i < xs.length := by
        have := (List.getElem?_eq_some_iff.mp hx).1
        simpa using this
      rw [List.getElem?_reverse hi] at hx
      obtain ⟨u, hu, ru⟩ := rv.get hx
      rw [List.size_toArray, ← hl] at hv
      have : its[xs.length - 1 - i]? = some v := by simpa using hv
      rw [this] at hu
      cases hu
      exact ru
end
end L2
end
section
set_option Elab.async false
set_option linter.all false
set_option maxRecDepth 100000
set_option maxHeartbeats 400000
namespace Lt
abbrev Iv := Lute.Iv
theorem plus_comm (x y : Iv) : x.plus y = y.plus x := by
  unfold Lute.Iv.plus
  simp only
  congr 2
  · exact Int.add_comm _ _
  · exact Int.add_comm _ _
  · exact Int.add_comm _ _
  · exact Int.add_comm _ _
  · exact Nat.mul_comm _ _
theorem div_mul_toNat {a : Int} {g : Nat} (hg : 0 < g) (h : (g : Int) ∣ a) : (a / (g : Int)).toNat * g = a.toNat := by
  obtain ⟨q, rfl⟩ := h
  rw [Int.mul_ediv_cancel_left q (by omega)]
  by_cases hq : 0 ≤ q
  · have e : (g : Int) * q = ((q.toNat * g : Nat) : Int) := by rw [Int.natCast_mul, Int.toNat_of_nonneg hq, Int.mul_comm]
    rw [e, Int.toNat_natCast]
  · have h1 : q.toNat = 0 := by omega
    have h2 : (g : Int) * q ≤ 0 := Int.mul_nonpos_of_nonneg_of_nonpos (by omega) (by omega)
    rw [h1, Nat.zero_mul]
    omega
theorem common_dvd (x : Iv) : ((x.common : Nat) : Int) ∣ x.a ∧ ((x.common : Nat) : Int) ∣ x.b ∧ ((x.common : Nat) : Int) ∣ x.c ∧ ((x.common : Nat) : Int) ∣ x.e := by
  unfold Lute.Iv.common
  have h0 := Nat.gcd_dvd_right x.d (Nat.gcd x.a.natAbs (Nat.gcd x.b.natAbs (Nat.gcd x.c.natAbs x.e.natAbs)))
  have h1 := Nat.dvd_trans h0 (Nat.gcd_dvd_left _ _)
  have h0' := Nat.dvd_trans h0 (Nat.gcd_dvd_right _ _)
  have h2 := Nat.dvd_trans h0' (Nat.gcd_dvd_left _ _)
  have h0'' := Nat.dvd_trans h0' (Nat.gcd_dvd_right _ _)
  have h3 := Nat.dvd_trans h0'' (Nat.gcd_dvd_left _ _)
  have h4 := Nat.dvd_trans h0'' (Nat.gcd_dvd_right _ _)
  exact ⟨Int.ofNat_dvd_left.mpr h1, Int.ofNat_dvd_left.mpr h2, Int.ofNat_dvd_left.mpr h3, Int.ofNat_dvd_left.mpr h4⟩
theorem above_low (x : Iv) (hg : 0 < x.common) : x.low.above ^ x.common = x.above := by
  obtain ⟨h1, h2, h3, h4⟩ := common_dvd x
  unfold Lute.Iv.above Lute.Iv.low
  simp only [Nat.mul_pow, ← Nat.pow_mul, div_mul_toNat hg h1, div_mul_toNat hg h2, div_mul_toNat hg h3, div_mul_toNat hg h4]
theorem back_common (x : Iv) : x.back.common = x.common := by
  unfold Lute.Iv.common Lute.Iv.back
  simp only [Int.natAbs_neg]
theorem back_low (x : Iv) : x.low.back = x.back.low := by
  obtain ⟨h1, h2, h3, h4⟩ := common_dvd x
  unfold Lute.Iv.low
  simp only [back_common]
  unfold Lute.Iv.back
  simp only [Int.neg_ediv_of_dvd h1, Int.neg_ediv_of_dvd h2, Int.neg_ediv_of_dvd h3, Int.neg_ediv_of_dvd h4]
theorem down_low (x : Iv) (hg : 0 < x.common) : x.low.down = x.down := by
  unfold Lute.Iv.down Lute.Iv.below
  rw [back_low, decide_eq_decide, ← above_low x hg, ← above_low x.back (by rw [back_common]; exact hg), back_common]
  exact (Nat.pow_lt_pow_iff_left (by omega)).symm
end Lt
end
section
set_option Elab.async false
set_option linter.all false
set_option maxRecDepth 100000
set_option maxHeartbeats 400000
namespace Lt
abbrev Stop := LuteTab.Stop
abbrev Ln := Nat × List Stop
def lnOf : LuteTab.Line → Ln
  | .bar => (0, [])
  | .moment n l => (n, l)
/-- stops by courses -/
def Rise (l : List Stop) : Prop := l.Pairwise fun a b => a.course < b.course
/-- what every piece that is read keeps -/
structure PcK (ps : List Ln) : Prop where
  rise : ∀ q ∈ ps, Rise q.2
  bar : ∀ q ∈ ps, q.1 = 0 → q.2 = []
  one : ∀ q ∈ ps, ∀ s ∈ q.2, 1 ≤ s.course
theorem PcK.tail {q : Ln} {ps : List Ln} (h : PcK (q :: ps)) : PcK ps := ⟨fun a ha => h.rise a (List.mem_cons_of_mem _ ha), fun a ha => h.bar a (List.mem_cons_of_mem _ ha), fun a ha => h.one a (List.mem_cons_of_mem _ ha)⟩
theorem PcK.drop {ps : List Ln} (h : PcK ps) (n : Nat) : PcK (ps.drop n) := ⟨fun a ha => h.rise a (List.mem_of_mem_drop ha), fun a ha => h.bar a (List.mem_of_mem_drop ha), fun a ha => h.one a (List.mem_of_mem_drop ha)⟩
end Lt
end
section
set_option Elab.async false
set_option linter.all false
set_option maxRecDepth 100000
set_option maxHeartbeats 400000
namespace Lt
open PySem PySem.Spec PyProof.Rows L2
def sL (s : Stop) : List Int := [(s.course : Int), (s.fret : Int)]
def lastOk (l : List Stop) (s : Stop) : Bool := match l.getLast? with
  | none => true
  | some x => decide (x.course < s.course)
def spAdd (K : PySem.W.Frag) (CT : Addr) : Sp := fun vs H Q E => ∃ (sa pa : Addr) (l : List Stop) (s : Stop) (st : Int), vs = [.ref sa, .ref pa, .int st] ∧ LT K H sa (l.map sL) ∧ SqT K H pa ((sL s).map V.int) ∧ l.length ≤ 1000000 ∧
  if lastOk l s = true then ∀ H', LT K H' sa ((l ++ [s]).map sL) → Sb sa H H' → Q .non H' else E (.ref CT) none (xH [("place", .int st)])
def GotS (K : PySem.W.Frag) (CR CT r ta : Addr) (cs : List UInt8) (e : Nat) (H : Hp) (Q : VK) (E : XK) : Option (List Stop × List UInt8) → Prop
  | some (l, rest') => ∀ H' a, Rd K CR H' r ta cs e rest' → Sb r H H' → H a = none → LT K H' a (l.map sL) → Q (.ref a) H'
  | none => ∀ z : Int, E (.ref CT) none (xH [("place", .int z)])
theorem gots_none {K : PySem.W.Frag} {CR CT r ta : Addr} {cs : List UInt8} {e : Nat} {H : Hp} {Q : VK} {E : XK} {res : Option (List Stop × List UInt8)} (h : res = none) (k : ∀ z : Int, E (.ref CT) none (xH [("place", .int z)])) : GotS K CR CT r ta cs e H Q E res := by
  rw [h]; exact k
theorem gots_some {K : PySem.W.Frag} {CR CT r ta : Addr} {cs : List UInt8} {e : Nat} {H : Hp} {Q : VK} {E : XK} {res : Option (List Stop × List UInt8)} {l : List Stop} {t : List UInt8} (h : res = some (l, t)) (k : ∀ H' a, Rd K CR H' r ta cs e t → Sb r H H' → H a = none → LT K H' a (l.map sL) → Q (.ref a) H') : GotS K CR CT r ta cs e H Q E res := by
  rw [h]; exact k
theorem gots_n {K : PySem.W.Frag} {CR CT r ta : Addr} {cs : List UInt8} {e : Nat} {H : Hp} {Q : VK} {E : XK} {res : Option (List Stop × List UInt8)} (k : GotS K CR CT r ta cs e H Q E res) (h : res = none) : ∀ z : Int, E (.ref CT) none (xH [("place", .int z)]) := by
  rw [h] at k; exact k
theorem gots_s {K : PySem.W.Frag} {CR CT r ta : Addr} {cs : List UInt8} {e : Nat} {H : Hp} {Q : VK} {E : XK} {res : Option (List Stop × List UInt8)} {l : List Stop} {t : List UInt8} (k : GotS K CR CT r ta cs e H Q E res) (h : res = some (l, t)) : ∀ H' a, Rd K CR H' r ta cs e t → Sb r H H' → H a = none → LT K H' a (l.map sL) → Q (.ref a) H' := by
  rw [h] at k; exact k
def mNeck (z : Str) : List Nat → List UInt8 → Option (List Stop × List UInt8)
  | [], l => some ([], l)
  | c :: cs, l => match pk (z ++ ".") l with
    | none => none
    | some (f, t) => match mNeck z cs t with
      | none => none
      | some (s, u) => some ((if f < z.length then ⟨c, f⟩ :: s else s), u)
def pre (acc : List Stop) : Option (List Stop × List UInt8) → Option (List Stop × List UInt8)
  | none => none
  | some (s, u) => some (acc ++ s, u)
def nV (n : Nat) : V := .int (n : Nat)
def spNeck (K : PySem.W.Frag) (C CT : Addr) : Sp := fun vs H Q E => ∃ (r ta ca : Addr) (cs : List UInt8) (e : Nat) (rest : List UInt8) (z : Str) (ns : List Nat), vs = [.ref r, .str z, .ref ca] ∧ Rd K C H r ta cs e rest ∧ OkS (z ++ ".") ∧ z.length ≤ 1000 ∧
  H ca = some (.lst (ns.map nV)) ∧ ns.length ≤ 1000 ∧ GotS K C CT r ta cs e H Q E (mNeck z ns rest)
def mSl : Nat → List UInt8 → Option (Nat × List UInt8)
  | 0, l => (match sk ("a" : Str).cps.toList l with
    | none => none
    | some (_, t) => some (10, t))
  | f + 1, l => if see "/" l = true then (match sk ("/" : Str).cps.toList l with
      | none => none
      | some (_, t) => mSl f t)
    else match sk ("a" : Str).cps.toList l with
      | none => none
      | some (_, t) => some (9 - f, t)
def mFB (l : List UInt8) : Option (Nat × List UInt8) := if see "4567" l = true then (match pk "4567" l with
    | none => none
    | some (n, t) => some (7 + 4 + n, t)) else mSl 3 l
def mBN (l : List UInt8) : Option (Nat × List UInt8) := if see "1" l = true then (match sk ("1" : Str).cps.toList l with
    | none => none
    | some (_, t) => match pk "01234" t with
      | none => none
      | some (n, u) => some (10 + n, u))
  else match pk "789" l with
    | none => none
    | some (n, t) => some (7 + n, t)
/-- appended: the list at sa -/
theorem Rd.app {K : PySem.W.Frag} {C r ta sa : Addr} {H H' : Hp} {cs rest : List UInt8} {e : Nat} {xs : List V} (R : Rd K C H r ta cs e rest) (h : H sa = some (.lst xs)) (hn : ta ≠ sa ∨ KTx K ta (cs.map cV)) (s : Sb sa H H') : Rd K C H' r ta cs e rest :=
  R.kp (xs := xs) (ys := []) h (hn.imp Ne.symm id) fun b o eb hb => s b o eb hb
theorem Sb.nt {sa : Addr} {H H' : Hp} {xs : List V} (s : Sb sa H H') (h : H sa = some (.lst xs)) {K : PySem.W.Frag} {a : Addr} {ys : List V} (q : SqT K H a ys) : SqT K H' a ys := by
  rcases q with (q | ⟨o, q⟩) | q
  · exact .inl (.inl (s _ _ q (ne_of q h (by intro z; cases z))))
  · exact .inl (.inr ⟨o, s _ _ q (ne_of q h (by intro z; cases z))⟩)
  · exact .inr q
section
variable {P : Program} {w : World} {K : PySem.W.Frag} {mg : Str → Option Value} {base : Heap} {C CI CT : Addr} {dz fz : Str}
theorem sc_add : FnScope ["stops", "stop", "start"] ["stops", "stop", "start"] (defScope s_add_stop) := ⟨rfl, rfl, rfl, by decide +kernel, rfl, by decide +kernel, by decide +kernel⟩
theorem ok_add {f : Addr} {fd : FuncData} (F : Fun K "add_stop" "add_stop" s_add_stop f fd) (B : Blt mg) (X1 : TFm P w K mg base CT) : FnOk P w K mg base (CX1 P w) 3 f fd ["stops", "stop", "start"] (spAdd K CT) := by
  refine F.okx sc_add (fun vs H Q E h => ?_) (fun cdv A outer s H vs Q E hr h => ?_)
  · obtain ⟨sa, pa, l, s, st, rfl, _⟩ := h
    rfl
  · obtain ⟨sa, pa, l, s, st, rfl, L, hp, hl, k⟩ := h
    refine ⟨_, (pss_cons (ps_if (pw_and (pt_cmpR op_gt (pe_callB call_len_seq (by rfl) B.len PySem.boot_len (pa_cons (pv 0) pa_nil)) pe_int (nomark _))
        (pw_and1 (pt_cmpR op_le (pe_ix (ix_tupK K) (pv 1) pe_int (fun _ _ => rfl)) (pe_ix (ix_tupK K) (pe_ix ix_list (pv 0) (pe_un un_neg pe_int) (fun _ _ => rfl)) pe_int (fun _ _ => rfl)) (nomark _)))).pt (pss_one (ps_fault X1 hr out_cx rfl (pv 2))) pss_nil)
      (pss_one (ps_expr (pe_bm PySem.F.plainAttrs_list PySem.F.slot_list_append PySem.F.type_list_append mt_append (pv 0) (pa_cons (pv 1) pa_nil))))), ?_⟩
    obtain ⟨as, a1, a2⟩ := id L
    obtain ⟨y1, q1, l1⟩ := L.len
    have la : as.length = l.length := by rw [Paired.length a2, List.length_map]
    rw [List.length_map] at l1
    have app : lastOk l s = true → (tDrop (tBM K "list" rAppend (tVar 0) (tCons (tVar 1) tNil))) { nx := fun _ H' => Q .non H', rt := Q } [some (.ref sa), some (.ref pa), some (.int st)] H := fun ho => by
      rw [if_pos ho] at k
      refine ⟨V.ref sa, rfl, .inl ⟨rfl, _, SqL.of a1⟩, V.ref pa, rfl, sa, _, _, rfl, rfl, a1, ?_, ?_⟩
      · rw [List.length_map, la, sizeLine_eq]; omega
      · refine k _ ?_ fun b o e hb => by rw [upd_ne hb]; exact e
        rw [List.map_append]
        exact LT.add a1 a2 hp
    refine ⟨V.ref sa, rfl, sa, y1, rfl, .inl q1, _, _, rfl, rfl, _, rfl, ite2 (fun h0 => ?_) (fun h0 => ?_)⟩
    · have hpos : 0 < (l.map sL).length := by
        have : (0 : Int) < (y1.length : Int) := by simpa using h0
        rw [List.length_map]; omega
      obtain ⟨a, b, e1, e2, e3, e4⟩ := paired_last a2 (y := []) hpos
      obtain ⟨x, hx⟩ : ∃ x, l.getLast? = some x := by
        cases hg : l.getLast? with
        | none => rw [List.getLast?_eq_none_iff] at hg; subst hg; simp at hpos
        | some x => exact ⟨x, rfl⟩
      have eb : b = sL x := by rw [← e2, List.getLastD_eq_getLast?, List.getLast?_map, hx]; rfl
      subst eb
      refine ⟨V.ref pa, rfl, pa, _, 0, V.int (s.course : Nat), rfl, rfl, hp, rfl, V.ref sa, rfl, 1, rfl, sa, _, _, _, rfl, rfl, SqL.of a1, atI_last e1, a, _, 0, V.int (x.course : Nat), rfl, rfl, e3, rfl, _, _, rfl, rfl, _, rfl, ite2 (fun h1 => ?_) (fun h1 => ?_)⟩
      · have hle : s.course ≤ x.course := by
          have : (s.course : Int) ≤ (x.course : Int) := by simpa using h1
          omega
        have hno : lastOk l s = false := by unfold lastOk; rw [hx]; exact decide_eq_false (by omega)
        rw [if_neg (by rw [hno]; decide)] at k
        exact ⟨V.int st, rfl, st, rfl, k⟩
      · have hle : ¬ s.course ≤ x.course := by
          have : ¬ (s.course : Int) ≤ (x.course : Int) := by simpa using h1
          omega
        exact app (by unfold lastOk; rw [hx]; exact decide_eq_true (by omega))
    · have hz : l = [] := by
        have : ¬ (0 : Int) < (y1.length : Int) := by simpa using h0
        exact List.eq_nil_of_length_eq_zero (by omega)
      exact iteF (app (by rw [hz]; rfl))
theorem sc_bn : FnScope ["reader"] ["reader"] (defScope s_read_bass_number) := ⟨rfl, rfl, rfl, by decide +kernel, rfl, by decide +kernel, by decide +kernel⟩
theorem ok_bn {f : Addr} {fd : FuncData} (F : Fun K "read_bass_number" "read_bass_number" s_read_bass_number f fd) (R : RdE P w K mg base C CT dz) (g7 : GI mg "FIRST_BASS" 7) : FnOk P w K mg base (CX1 P w) 5 f fd ["reader"] (spOne K C CT mBN int_) := by
  refine F.okx sc_bn (fun vs H Q E h => ?_) (fun cdv A outer s H vs Q E hr h => ?_)
  · obtain ⟨r, ta, cs, e, rest, rfl, _⟩ := h
    rfl
  · obtain ⟨r, ta, cs, e, rest, rfl, Rr, k⟩ := h
    refine ⟨_, (pss_cons (ps_if (pt_sees R hr out_cx (pv 0) pe_str (oks (by decide +kernel))) (pss_cons (ps_skip R hr out_cx (pv 0) pe_str (oks (by decide +kernel)))
      (pss_one (ps_ret (pe_op op_add pe_int (pe_pick R hr out_cx (pv 0) pe_str (oks (by decide +kernel))))))) pss_nil)
      (pss_one (ps_ret (pe_op op_add (pe_gi g7) (pe_pick R hr out_cx (pv 0) pe_str (oks (by decide +kernel))))))), ?_⟩
    unfold mBN at k
    refine ⟨_, rfl, r, ta, cs, e, rest, rfl, Rr, fun H1 s1 => ?_⟩
    have R1 := Rr.same s1
    cases hm : see "1" rest with
    | true =>
      rw [if_pos hm] at k
      refine iteT ⟨_, rfl, r, ta, cs, e, rest, rfl, R1, ?_⟩
      cases hs : sk ("1" : Str).cps.toList rest with
      | none => rw [hs] at k; exact got_none hs k
      | some x =>
        obtain ⟨_, t⟩ := x
        simp only [hs] at k
        refine got_some hs fun H2 R2 s2 => ?_
        refine ⟨_, rfl, r, ta, cs, e, t, rfl, R2, ?_⟩
        cases hp : pk "01234" t with
        | none => simp only [hp] at k; exact got_none hp k
        | some x =>
          obtain ⟨n, u⟩ := x
          simp only [hp] at k
          refine got_some hp fun H3 R3 s3 => ⟨_, _, rfl, rfl, ?_⟩
          have q := k H3 R3 ((s1.sb.trans s2).trans s3)
          have e1 : int_ (10 + n) = V.int (10 + (n : Int)) := by unfold int_; congr 1
          rw [e1] at q
          exact q
    | false =>
      rw [if_neg (by rw [hm]; decide)] at k
      refine iteF ⟨_, rfl, r, ta, cs, e, rest, rfl, R1, ?_⟩
      cases hp : pk "789" rest with
      | none => simp only [hp] at k; exact got_none hp k
      | some x =>
        obtain ⟨n, u⟩ := x
        simp only [hp] at k
        refine got_some hp fun H3 R3 s3 => ⟨_, _, rfl, rfl, ?_⟩
        have q := k H3 R3 (s1.sb.trans s3)
        have e1 : int_ (7 + n) = V.int (7 + (n : Int)) := by unfold int_; congr 1
        rw [e1] at q
        exact q
end
end Lt
end
section
set_option Elab.async false
set_option linter.all false
set_option maxRecDepth 100000
set_option maxHeartbeats 400000
namespace Lt
open PySem PySem.Spec PyProof.Rows L2
theorem pre_nil (o : Option (List Stop × List UInt8)) : pre [] o = o := by
  cases o with
  | none => rfl
  | some x => obtain ⟨s, u⟩ := x; rfl
theorem LT.sb {K : PySem.W.Frag} {H H' : Hp} {r C dx ta a : Addr} {p e : Int} {ls : List (List Int)} (h : LT K H a ls) (s : Sb r H H') (ir : H r = some (.ins C dx (rf ta p e))) : LT K H' a ls := (Sb.kp s ir).lt h
section
variable {P : Program} {w : World} {K : PySem.W.Frag} {mg : Str → Option Value} {base : Heap} {C CI CT : Addr} {dz fz : Str}
theorem sc_nk : FnScope ["reader", "frets", "courses", "stops", "course", "fret"] ["reader", "frets", "courses"] (defScope s_read_neck) := ⟨rfl, rfl, rfl, by decide +kernel, rfl, by decide +kernel, by decide +kernel⟩
theorem ok_nk {f : Addr} {fd : FuncData} (F : Fun K "read_neck" "read_neck" s_read_neck f fd) (B : Blt mg) (R : RdE P w K mg base C CT dz) : FnOk P w K mg base (CX1 P w) 5 f fd ["reader", "frets", "courses"] (spNeck K C CT) := by
  refine F.okx sc_nk (fun vs H Q E h => ?_) (fun cdv A outer s H vs Q E hr h => ?_)
  · obtain ⟨r, ta, ca, cs, e, rest, z, ns, rfl, _⟩ := h
    rfl
  · obtain ⟨r, ta, ca, cs, e, rest, z, ns, rfl, Rr, oz, lz, hca, ln, k⟩ := h
    refine ⟨_, (pss_cons (ps_set (i := 3) sc_nk.nd rfl (Or.inl rfl) (pe_lst pa_nil))
      (pss_cons (ps_for PassesOwn.leaving rfl (pi_list (pv 2)) (pg_name (i := 4) sc_nk.nd rfl (Or.inl rfl))
        (pss_cons (ps_set (i := 5) sc_nk.nd rfl (Or.inl rfl) (R.pi.call (pv 0) hr out_cx (pa_cons (pe_op op_add_str (pv 1) pe_str) pa_nil)))
      (pss_one (ps_if (pt_cmpR op_lt (pv 5) (pe_callB call_len_str (by rfl) B.len PySem.boot_len (pa_cons (pv 1) pa_nil)) (nomark _))
            (pss_one (ps_expr (pe_bm PySem.F.plainAttrs_list PySem.F.slot_list_append PySem.F.type_list_append mt_append (pv 3) (pa_cons (pe_tup (pa_cons (pv 4) (pa_cons (pv 5) pa_nil))) pa_nil)))) pss_nil))))
      (pss_one (ps_ret (pv 3))))), ?_⟩
    refine ⟨Nat.zero_le _, fun sa nsa => ?_⟩
    have tt := tx_new Rr.tx nsa
    have ncs : ca ≠ sa := ne_of_none hca nsa
    have s0 : Same H (upd H sa (.lst [])) := Same.upd nsa
    have fin : ∀ {H' : Hp}, SbL [r, sa] (upd H sa (.lst [])) H' → Sb r H H' := fun {H'} q b o eb hb => q b o (s0 b o eb) (by simp [hb, ne_of_none eb nsa])
    refine ⟨V.ref ca, rfl, ca, rfl, ⟨_, SqL.of (s0 _ _ hca)⟩, for_list (K := K) (a := ca) (xs := ns.map nV) (fun i σ H' => ∃ (acc : List Stop) (rest' : List UInt8) (r4 r5 : Option V), σ = [some (.ref r), some (.str z), some (.ref ca), some (.ref sa), r4, r5] ∧ SbL [r, sa] (upd H sa (.lst [])) H' ∧ Rd K C H' r ta cs e rest' ∧
        LT K H' sa (acc.map sL) ∧ acc.length ≤ i ∧ mNeck z ns rest = pre acc (mNeck z (ns.drop i) rest')) ⟨[], rest, none, none, rfl, SbL.refl, Rr.same s0, ⟨[], upd_same, .nil⟩, Nat.le_refl _, (pre_nil _).symm⟩ ?_ ?_ ?_⟩
    · rintro i σ H' hi ⟨acc, rest', r4, r5, rfl, sb, _⟩
      obtain ⟨dr, p, ir⟩ := Rr.ins
      exact SqL.of (sb _ _ (s0 _ _ hca) (by simp [ncs, ne_of hca ir (by intro z; cases z)]))
    · rintro i y σ H1 hi ⟨acc, rest', r4, r5, rfl, sb, R1, L1, la, em⟩
      rw [List.getElem?_map] at hi
      cases hc : ns[i]? with
      | none => rw [hc] at hi; cases hi
      | some c =>
        rw [hc] at hi
        cases hi
        have hlt : i < ns.length := (List.getElem?_eq_some_iff.mp hc).1
        have ed : ns.drop i = c :: ns.drop (i + 1) := by rw [List.drop_eq_getElem_cons hlt, (List.getElem?_eq_some_iff.mp hc).2]
        rw [ed, mNeck] at em
        obtain ⟨dr, p, ir⟩ := R1.ins
        refine ⟨V.ref r, rfl, r, dr, _, rfl, ir, rf_pick _ _ _, V.str z, rfl, z, ".", rfl, rfl, (by rw [sizeLine_eq]; show z.length + 1 ≤ 16777216; omega), r, ta, cs, e, rest', z ++ ".", rfl, R1, oz, ?_⟩
        cases hp : pk (z ++ ".") rest' with
        | none =>
          rw [hp] at em
          exact got_none rfl (gots_n k em)
        | some x =>
          obtain ⟨ft, t⟩ := x
          simp only [hp] at em
          refine got_some rfl fun H2 R2 s2 => ?_
          have L2 := L1.sb s2 ir
          have sb2 : SbL [r, sa] (upd H sa (.lst [])) H2 := sb.trans (Sb.l s2 (by simp))
          refine ⟨V.int (ft : Nat), rfl, V.str z, rfl, z, rfl, (by rw [sizeLine_eq]; omega), _, _, rfl, rfl, _, rfl, ite2 (fun h0 => ?_) (fun h0 => ?_)⟩
          · have hf : ft < z.length := by
              have : (ft : Int) < (z.length : Int) := by simpa using h0
              omega
            obtain ⟨as, a1, a2⟩ := id L2
            have l1 : as.length = acc.length := by rw [Paired.length a2, List.length_map]
            refine ⟨V.ref sa, rfl, .inl ⟨rfl, _, SqL.of a1⟩, V.int (c : Nat), rfl, V.int (ft : Nat), rfl, (by rw [sizeLine_eq]; show 2 ≤ 16777216; decide), fun pa npa => ⟨sa, _, _, rfl, rfl, (Same.upd npa) _ _ a1, ?_, ?_⟩⟩
            · rw [List.length_map, l1, sizeLine_eq]; omega
            · have sp : Same H2 (upd H2 pa (.tup [V.int (c : Nat), V.int (ft : Nat)])) := Same.upd npa
              have a13 := sp _ _ a1
              have su : Sb sa (upd H2 pa (.tup [V.int (c : Nat), V.int (ft : Nat)])) (upd (upd H2 pa (.tup [V.int (c : Nat), V.int (ft : Nat)])) sa (.lst (as.map V.ref ++ [.ref pa]))) := fun b o eb hb => by rw [upd_ne hb]; exact eb
              refine ⟨acc ++ [⟨c, ft⟩], t, _, _, rfl, (sb2.trans (Same.l sp)).trans (Sb.l su (by simp)), (R2.same sp).app a13 tt su, ?_, by rw [List.length_append]; simp; omega, ?_⟩
              · rw [List.map_append]
                exact LT.add a13 (paired_mono a2 fun _ _ q => sp.tup q) (SqT.of upd_same)
              · rw [em]
                cases mNeck z (ns.drop (i + 1)) t with
                | none => rfl
                | some x =>
                  obtain ⟨s, u⟩ := x
                  simp only [pre, if_pos hf, List.append_assoc, List.singleton_append]
          · have hf : ¬ ft < z.length := by
              have : ¬ (ft : Int) < (z.length : Int) := by simpa using h0
              omega
            refine ⟨acc, t, _, _, rfl, sb2, R2, L2, by omega, ?_⟩
            rw [em]
            cases mNeck z (ns.drop (i + 1)) t with
            | none => rfl
            | some x =>
              obtain ⟨s, u⟩ := x
              simp only [pre, if_neg hf]
    · rintro σ H1 ⟨acc, rest', r4, r5, rfl, sb, R1, L1, la, em⟩
      rw [List.length_map, List.drop_length, mNeck] at em
      simp only [pre, List.append_nil] at em
      exact ⟨V.ref sa, rfl, gots_s k em H1 sa R1 (fin sb) nsa L1⟩
theorem sc_fb : FnScope ["reader", "course"] ["reader"] (defScope s_read_french_bass) := ⟨rfl, rfl, rfl, by decide +kernel, rfl, by decide +kernel, by decide +kernel⟩
theorem ok_fb {f : Addr} {fd : FuncData} (F : Fun K "read_french_bass" "read_french_bass" s_read_french_bass f fd) (R : RdE P w K mg base C CT dz) (g7 : GI mg "FIRST_BASS" 7) (gl : GS mg "FRENCH_LOWEST" "4567") : FnOk P w K mg base (CX1 P w) 5 f fd ["reader"] (spOne K C CT mFB int_) := by
  refine F.okx sc_fb (fun vs H Q E h => ?_) (fun cdv A outer s H vs Q E hr h => ?_)
  · obtain ⟨r, ta, cs, e, rest, rfl, _⟩ := h
    rfl
  · obtain ⟨r, ta, cs, e, rest, rfl, Rr, k⟩ := h
    refine ⟨_, (pss_cons (ps_if (pt_sees R hr out_cx (pv 0) (pe_gs gl) (oks (by decide +kernel))) (pss_one (ps_ret (pe_op op_add (pe_op op_add (pe_gi g7) pe_int) (pe_pick R hr out_cx (pv 0) (pe_gs gl) (oks (by decide +kernel)))))) pss_nil)
      (pss_cons (ps_set (i := 1) sc_fb.nd rfl (Or.inl rfl) (pe_gi g7))
      (pss_cons (ps_while PassesOwn.leaving (pw_and (pt_sees R hr out_cx (pv 0) pe_str (oks (by decide +kernel))) (pw_and1 (pt_cmpR op_lt (pv 1) (pe_op op_add (pe_gi g7) pe_int) (nomark _)))).pt
        (pss_cons (ps_skip R hr out_cx (pv 0) pe_str (oks (by decide +kernel)))
      (pss_one (ps_aug (i := 1) sc_fb.nd rfl (Or.inl rfl) pe_int ip_add))))
      (pss_cons (ps_skip R hr out_cx (pv 0) pe_str (oks (by decide +kernel)))
      (pss_one (ps_ret (pv 1))))))), ?_⟩
    unfold mFB at k
    refine ⟨_, rfl, r, ta, cs, e, rest, rfl, Rr, fun H1 s1 => ?_⟩
    have R1 := Rr.same s1
    cases hm : see "4567" rest with
    | true =>
      rw [if_pos hm] at k
      refine iteT ⟨_, _, rfl, rfl, _, rfl, r, ta, cs, e, rest, rfl, R1, ?_⟩
      cases hp : pk "4567" rest with
      | none => simp only [hp] at k; exact got_none hp k
      | some x =>
        obtain ⟨n, u⟩ := x
        simp only [hp] at k
        refine got_some hp fun H3 R3 s3 => ⟨_, _, rfl, rfl, ?_⟩
        have q := k H3 R3 (s1.sb.trans s3)
        have e1 : int_ (7 + 4 + n) = V.int (7 + 4 + (n : Int)) := by unfold int_; congr 1
        rw [e1] at q
        exact q
    | false =>
      rw [if_neg (by rw [hm]; decide)] at k
      obtain ⟨M, hM⟩ : ∃ M, M = mSl 3 rest := ⟨_, rfl⟩
      rw [← hM] at k
      refine iteF ⟨fun m σ H' => ∃ (rest' : List UInt8), σ = [some (.ref r), some (.int (10 - (m : Nat)))] ∧ m ≤ 3 ∧ Sb r H H' ∧ Rd K C H' r ta cs e rest' ∧ M = mSl m rest', ⟨3, rest, rfl, Nat.le_refl _, s1.sb, R1, hM⟩, ?_⟩
      rintro m σ H2 ⟨rest', rfl, hm3, s2, R2, em⟩
      refine ⟨_, rfl, r, ta, cs, e, rest', rfl, R2, fun H3 s3 => ?_⟩
      have R3 := R2.same s3
      have s13 : Sb r H H3 := s2.trans s3.sb
      have tail : ∀ H3 : Hp, Sb r H H3 → Rd K C H3 r ta cs e rest' → (∀ t, sk ("a" : Str).cps.toList rest' = some ((), t) → M = some (10 - m, t)) → (sk ("a" : Str).cps.toList rest' = none → M = none) →
          (tSeq (sSkip K C CT E (tVar 0) "a") (tRet (tVar 1))) { nx := fun _ H' => Q .non H', rt := Q } [some (.ref r), some (.int (10 - (m : Nat)))] H3 := by
        intro H3 s13 R3 q1 q2
        refine ⟨_, rfl, r, ta, cs, e, rest', rfl, R3, ?_⟩
        cases hs : sk ("a" : Str).cps.toList rest' with
        | none => rw [q2 hs] at k; exact got_none hs k
        | some x =>
          obtain ⟨⟨⟩, t⟩ := x
          rw [q1 t hs] at k
          refine got_some hs fun H4 R4 s4 => ⟨_, rfl, ?_⟩
          have q := k H4 R4 (s13.trans s4)
          have e1 : int_ (10 - m) = V.int (10 - (m : Nat)) := by unfold int_; congr 1; omega
          rw [e1] at q
          exact q
      cases hs : see "/" rest' with
      | false =>
        refine iteF (iteF (tail H3 s13 R3 ?_ ?_))
        · intro t ht
          rw [em]
          cases m with
          | zero => rw [mSl, ht]
          | succ m => rw [mSl, if_neg (by rw [hs]; decide), ht]; show some (9 - m, t) = some (10 - (m + 1), t); congr 2; omega
        · intro ht
          rw [em]
          cases m with
          | zero => rw [mSl, ht]
          | succ m => rw [mSl, if_neg (by rw [hs]; decide), ht]
      | true =>
        refine iteT ⟨_, rfl, _, _, rfl, rfl, _, _, rfl, rfl, _, rfl, ?_⟩
        cases m with
        | zero =>
          refine iteD (by decide) (tail H3 s13 R3 ?_ ?_)
          · intro t ht; rw [em, mSl, ht]
          · intro ht; rw [em, mSl, ht]
        | succ m =>
          rw [mSl, if_pos hs] at em
          have hlt : decide ((10 : Int) - ((m + 1 : Nat) : Int) < 7 + 3) = true := decide_eq_true (by omega)
          show if decide ((10 : Int) - ((m + 1 : Nat) : Int) < 7 + 3) = true then _ else _
          rw [hlt]
          refine wh_true ⟨_, rfl, r, ta, cs, e, rest', rfl, R3, ?_⟩
          cases hk : sk ("/" : Str).cps.toList rest' with
          | none =>
            rw [hk] at em
            rw [em] at k
            exact got_none hk k
          | some x =>
            obtain ⟨⟨⟩, t⟩ := x
            rw [hk] at em
            refine got_some hk fun H4 R4 s4 => ⟨_, rfl, _, _, rfl, rfl, m, by omega, t, ?_, by omega, s13.trans s4, R4, em⟩
            show [some (V.ref r), some (V.int (((10 : Int) - ((m + 1 : Nat) : Int)) + 1))] = _
            congr 3
            show V.int _ = V.int _
            congr 1
            omega
end
end Lt
end
section
set_option Elab.async false
set_option linter.all false
set_option maxRecDepth 100000
set_option maxHeartbeats 400000
namespace Lt
open PySem PySem.Spec PyProof.Rows L2
def sT : Option (Stop × List UInt8) → Option (List Int × List UInt8)
  | none => none
  | some (s, t) => some (sL s, t)
def zX : Str := "abcdefghiklmnopqrstvxyz&9"
def zP : Str := "+ABCDEFGHIKLMNOP"
def mTm (b : Int) : Nat → Nat → List UInt8 → Option (Nat × List UInt8)
  | 0, j, t => some (j, t)
  | f + 1, j, t => if bt t = b then (match pk zX t with
      | none => none
      | some (_, u) => mTm b f (j + 1) u)
    else some (j, t)
def mCr (l : List UInt8) : Option (Stop × List UInt8) := match pk zX l with
  | none => none
  | some (n, t) => match mTm (bt l) 2 0 t with
    | none => none
    | some (j, u) => some (⟨5 - n % 5, 1 + n / 5 + 5 * j⟩, u)
def mGS (l : List UInt8) : Option (Stop × List UInt8) := if see "-" l = true then (match sk ("-" : Str).cps.toList l with
    | none => none
    | some (_, t) => match mBN t with
      | none => none
      | some (n, u) => some (⟨n, 0⟩, u))
  else if see "54321" l = true then (match pk "54321" l with
    | none => none
    | some (n, t) => some (⟨1 + n, 0⟩, t))
  else if see zP l = true then (match pk zP l with
    | none => none
    | some (n, t) => some (⟨6, n⟩, t))
  else mCr l
section
variable {P : Program} {w : World} {K : PySem.W.Frag} {mg : Str → Option Value} {base : Heap} {C CI CT : Addr} {dz fz : Str}
theorem sc_cr : FnScope ["reader", "byte", "number", "times"] ["reader"] (defScope s_read_crossing) := ⟨rfl, rfl, rfl, by decide +kernel, rfl, by decide +kernel, by decide +kernel⟩
theorem ok_cr {f : Addr} {fd : FuncData} (F : Fun K "read_crossing" "read_crossing" s_read_crossing f fd) (R : RdE P w K mg base C CT dz) (g3 : GI mg "MOST_CROSSING_BYTES" 3) (gx : GS mg "GERMAN_CROSSINGS" zX) : FnOk P w K mg base (CX1 P w) 5 f fd ["reader"] (spOneT K C CT fun l => sT (mCr l)) := by
  refine F.okx sc_cr (fun vs H Q E h => ?_) (fun cdv A outer s H vs Q E hr h => ?_)
  · obtain ⟨r, ta, cs, e, rest, rfl, _⟩ := h
    rfl
  · obtain ⟨r, ta, cs, e, rest, rfl, Rr, k⟩ := h
    refine ⟨_, (pss_cons (ps_set (i := 1) sc_cr.nd rfl (Or.inl rfl) (pe_byte R hr out_cx (pv 0)))
      (pss_cons (ps_set (i := 2) sc_cr.nd rfl (Or.inl rfl) (pe_pick R hr out_cx (pv 0) (pe_gs gx) (oks (by decide +kernel))))
      (pss_cons (ps_set (i := 3) sc_cr.nd rfl (Or.inl rfl) pe_int)
      (pss_cons (ps_while PassesOwn.leaving (pw_and (pt_cmpR op_eq (pe_byte R hr out_cx (pv 0)) (pv 1) (nomark _)) (pw_and1 (pt_cmpR op_lt (pv 3) (pe_gi g3) (nomark _)))).pt
        (pss_cons (ps_expr (pe_pick R hr out_cx (pv 0) (pe_gs gx) (oks (by decide +kernel))))
      (pss_one (ps_aug (i := 3) sc_cr.nd rfl (Or.inl rfl) pe_int ip_add))))
      (pss_one (ps_ret (pe_tup (pa_cons (pe_op op_sub pe_int (pe_op op_mod (pv 2) pe_int)) (pa_cons (pe_op op_add (pe_op op_add pe_int (pe_op op_fdiv (pv 2) pe_int)) (pe_op op_mul pe_int (pe_op op_sub (pv 3) pe_int))) pa_nil))))))))), ?_⟩
    refine ⟨_, rfl, r, ta, cs, e, rest, rfl, Rr, ?_⟩
    refine ⟨_, rfl, r, ta, cs, e, rest, rfl, Rr, ?_⟩
    unfold mCr at k
    cases hp : pk zX rest with
    | none => simp only [hp, sT] at k; exact got_none hp k
    | some x =>
      obtain ⟨n, t⟩ := x
      simp only [hp] at k
      refine got_some hp fun H1 R1 s1 => ?_
      obtain ⟨M, hM⟩ : ∃ M, M = mTm (bt rest) 2 0 t := ⟨_, rfl⟩
      rw [← hM] at k
      refine ⟨fun m σ H' => ∃ (rest' : List UInt8) (j : Nat), σ = [some (.ref r), some (.int (bt rest)), some (.int (n : Nat)), some (.int ((j : Nat) + 1))] ∧ m + j = 2 ∧ Sb r H H' ∧ Rd K C H' r ta cs e rest' ∧ M = mTm (bt rest) m j rest', ⟨2, t, 0, rfl, rfl, s1, R1, hM⟩, ?_⟩
      rintro m σ H2 ⟨rest', j, rfl, hmj, s2, R2, em⟩
      have done : M = some (j, rest') → (tRet (tTup (tCons (tOp (rI0 fun i j => .int (i - j)) (tC (.int 5)) (tOp (rI (fun _ j => 0 < j) fun i j => .int (i % j)) (tVar 2) (tC (.int 5)))) (tCons (tOp (rI0 fun i j => .int (i + j)) (tOp (rI0 fun i j => .int (i + j)) (tC (.int 1)) (tOp (rI CDiv fun i j => .int (i / j)) (tVar 2) (tC (.int 5)))) (tOp (rI CMul fun i j => .int (i * j)) (tC (.int 5)) (tOp (rI0 fun i j => .int (i - j)) (tVar 3) (tC (.int 1))))) tNil))))
          { nx := fun _ H' => Q .non H', rt := Q } [some (.ref r), some (.int (bt rest)), some (.int (n : Nat)), some (.int ((j : Nat) + 1))] H2 := by
        intro eM
        simp only [eM, sT] at k
        refine ⟨_, rfl, _, _, rfl, rfl, (by show (0 : Int) < 5; decide), _, _, rfl, rfl, _, rfl, _, _, rfl, rfl, (show (0 : Int) < 5 ∧ (5 : Int) < 1073741824 from by decide), _, _, rfl, rfl, _, rfl, _, _, rfl, rfl, _, _, rfl, rfl, .inl ⟨by decide, by decide⟩, _, _, rfl, rfl, (by rw [sizeLine_eq]; show 2 ≤ 16777216; decide), fun pa npa => ?_⟩
        · have sp : Same H2 (upd H2 pa (.tup [V.int (5 - (n : Int) % 5), V.int (1 + (n : Int) / 5 + 5 * (((j : Nat) : Int) + 1 - 1))])) := Same.upd npa
          refine k _ pa (R2.same sp) (s2.trans sp.sb) (SqT.of (upd_same.trans ?_))
          have e1 : ((5 - n % 5 : Nat) : Int) = 5 - (n : Int) % 5 := by omega
          have e2 : ((1 + n / 5 + 5 * j : Nat) : Int) = 1 + (n : Int) / 5 + 5 * (((j : Nat) : Int) + 1 - 1) := by omega
          simp only [sL, List.map, e1, e2]
      refine ⟨_, rfl, r, ta, cs, e, rest', rfl, R2, _, rfl, rfl, _, rfl, ?_⟩
      by_cases hb : bt rest' = bt rest
      · have hd : decide (V.int (bt rest') = V.int (bt rest)) = true := decide_eq_true (by rw [hb])
        rw [hd]
        refine iteT ⟨_, rfl, _, _, rfl, rfl, _, rfl, ?_⟩
        cases m with
        | zero =>
          have hlt : decide (((j : Nat) : Int) + 1 < 3) = false := decide_eq_false (by omega)
          refine iteD hlt (done ?_)
          rw [em, mTm]
        | succ m =>
          have hlt : decide (((j : Nat) : Int) + 1 < 3) = true := decide_eq_true (by omega)
          show if decide (((j : Nat) : Int) + 1 < 3) = true then _ else _
          rw [hlt]
          rw [mTm, if_pos hb] at em
          refine wh_true ⟨_, rfl, r, ta, cs, e, rest', rfl, R2, ?_⟩
          cases hk : pk zX rest' with
          | none =>
            rw [hk] at em
            rw [em] at k
            exact got_none hk k
          | some x =>
            obtain ⟨_, u⟩ := x
            rw [hk] at em
            exact got_some hk fun H4 R4 s4 => ⟨_, rfl, _, _, rfl, rfl, m, by omega, u, j + 1, rfl, by omega, s2.trans s4, R4, em⟩
      · have hd : decide (V.int (bt rest') = V.int (bt rest)) = false := decide_eq_false fun q => hb (by injection q)
        rw [hd]
        refine iteF (iteF (done ?_))
        cases m with
        | zero => rw [em, mTm]
        | succ m => rw [em, mTm, if_neg hb]
theorem sc_gs : FnScope ["reader"] ["reader"] (defScope s_read_german_stop) := ⟨rfl, rfl, rfl, by decide +kernel, rfl, by decide +kernel, by decide +kernel⟩
theorem ok_gs {f : Addr} {fd : FuncData} (F : Fun K "read_german_stop" "read_german_stop" s_read_german_stop f fd) (R : RdE P w K mg base C CT dz) (gu : GS mg "GERMAN_UNSTOPPED" "54321") (gp : GS mg "GERMAN_SIXTH" zP) (g6 : GI mg "NECK_COURSES" 6)
    (D1 : Def P w K mg base 5 "read_bass_number" ["reader"] (spOne K C CT mBN int_)) (D2 : Def P w K mg base 5 "read_crossing" ["reader"] (spOneT K C CT fun l => sT (mCr l))) : FnOk P w K mg base (CX1 P w) 6 f fd ["reader"] (spOneT K C CT fun l => sT (mGS l)) := by
  refine F.okx sc_gs (fun vs H Q E h => ?_) (fun cdv A outer s H vs Q E hr h => ?_)
  · obtain ⟨r, ta, cs, e, rest, rfl, _⟩ := h
    rfl
  · obtain ⟨r, ta, cs, e, rest, rfl, Rr, k⟩ := h
    refine ⟨_, (pss_cons (ps_if (pt_sees R hr out_cx (pv 0) pe_str (oks (by decide +kernel))) (pss_cons (ps_skip R hr out_cx (pv 0) pe_str (oks (by decide +kernel)))
      (pss_one (ps_ret (pe_tup (pa_cons (pe_par D1 hr out_cx (pv 0)) (pa_cons pe_int pa_nil)))))) pss_nil)
      (pss_cons (ps_if (pt_sees R hr out_cx (pv 0) (pe_gs gu) (oks (by decide +kernel))) (pss_one (ps_ret (pe_tup (pa_cons (pe_op op_add pe_int (pe_pick R hr out_cx (pv 0) (pe_gs gu) (oks (by decide +kernel)))) (pa_cons pe_int pa_nil))))) pss_nil)
      (pss_cons (ps_if (pt_sees R hr out_cx (pv 0) (pe_gs gp) (oks (by decide +kernel))) (pss_one (ps_ret (pe_tup (pa_cons (pe_gi g6) (pa_cons (pe_pick R hr out_cx (pv 0) (pe_gs gp) (oks (by decide +kernel))) pa_nil))))) pss_nil)
      (pss_one (ps_ret (pe_parT D2 hr out_cx (pv 0))))))), ?_⟩
    have k' : GotT K C CT r ta cs e H Q E (sT (mGS rest)) := k
    clear k
    have k := k'
    clear k'
    unfold mGS at k
    have fin : ∀ {x y : Int} {H1 H2 : Hp} {s : Stop} {t : List UInt8}, (∀ H' a, Rd K C H' r ta cs e t → Sb r H H' → SqT K H' a ((sL s).map V.int) → Q (.ref a) H') → Sb r H H2 → Rd K C H2 r ta cs e t → (s.course : Int) = x → (s.fret : Int) = y →
        [V.int x, V.int y].length ≤ sizeLine ∧ ∀ p, H2 p = none → Q (.ref p) (upd H2 p (.tup [V.int x, V.int y])) := by
      intro x y H1 H2 s t k s2 R2 e1 e2
      refine ⟨by rw [sizeLine_eq]; show 2 ≤ 16777216; decide, fun pa npa => ?_⟩
      have sp : Same H2 (upd H2 pa (.tup [V.int x, V.int y])) := Same.upd npa
      exact k _ pa (R2.same sp) (s2.trans sp.sb) (SqT.of (upd_same.trans (by rw [← e1, ← e2]; rfl)))
    refine ⟨_, rfl, r, ta, cs, e, rest, rfl, Rr, fun H1 s1 => ?_⟩
    have R1 := Rr.same s1
    cases h1 : see "-" rest with
    | true =>
      rw [if_pos h1] at k
      refine iteT ⟨_, rfl, r, ta, cs, e, rest, rfl, R1, ?_⟩
      cases hs : sk ("-" : Str).cps.toList rest with
      | none => simp only [hs, sT] at k; exact got_none hs k
      | some x =>
        obtain ⟨_, t⟩ := x
        simp only [hs] at k
        refine got_some hs fun H2 R2 s2 => ⟨_, rfl, r, ta, cs, e, t, rfl, R2, ?_⟩
        cases hb : mBN t with
        | none => simp only [hb, sT] at k; exact got_none hb k
        | some x =>
          obtain ⟨n, u⟩ := x
          simp only [hb, sT] at k
          exact got_some hb fun H3 R3 s3 => fin (H1 := H) k ((s1.sb.trans s2).trans s3) R3 rfl rfl
    | false =>
      rw [if_neg (by rw [h1]; decide)] at k
      refine iteF ⟨_, rfl, r, ta, cs, e, rest, rfl, R1, fun H2 s2 => ?_⟩
      have R2 := R1.same s2
      cases h2 : see "54321" rest with
      | true =>
        rw [if_pos h2] at k
        refine iteT ⟨_, rfl, r, ta, cs, e, rest, rfl, R2, ?_⟩
        cases hp : pk "54321" rest with
        | none => simp only [hp, sT] at k; exact got_none hp k
        | some x =>
          obtain ⟨n, u⟩ := x
          simp only [hp, sT] at k
          refine got_some hp fun H3 R3 s3 => ⟨_, _, rfl, rfl, ?_⟩
          exact fin (H1 := H) k ((s1.trans s2).sb.trans s3) R3 (by show ((1 + n : Nat) : Int) = 1 + (n : Int); omega) rfl
      | false =>
        rw [if_neg (by rw [h2]; decide)] at k
        refine iteF ⟨_, rfl, r, ta, cs, e, rest, rfl, R2, fun H3 s3 => ?_⟩
        have R3 := R2.same s3
        cases h3 : see zP rest with
        | true =>
          rw [if_pos h3] at k
          refine iteT ⟨_, rfl, r, ta, cs, e, rest, rfl, R3, ?_⟩
          cases hp : pk zP rest with
          | none => simp only [hp, sT] at k; exact got_none hp k
          | some x =>
            obtain ⟨n, u⟩ := x
            simp only [hp, sT] at k
            exact got_some hp fun H4 R4 s4 => fin (H1 := H) k (((s1.trans s2).trans s3).sb.trans s4) R4 rfl rfl
        | false =>
          rw [if_neg (by rw [h3]; decide)] at k
          refine iteF ⟨_, rfl, r, ta, cs, e, rest, rfl, R3, ?_⟩
          cases hc : mCr rest with
          | none => simp only [hc, sT] at k; exact gott_none (by show sT (mCr rest) = _; rw [hc]; rfl) k
          | some x =>
            obtain ⟨s, u⟩ := x
            simp only [hc, sT] at k
            exact gott_some (by show sT (mCr rest) = _; rw [hc]; rfl) fun H4 a R4 s4 q => k H4 a R4 (((s1.trans s2).trans s3).sb.trans s4) q
end
end Lt
end
section
set_option Elab.async false
set_option linter.all false
set_option maxRecDepth 100000
set_option maxHeartbeats 400000
namespace Lt
open PySem PySem.Spec PyProof.Rows L2
def zF : Str := "abcdefghiklmnopq"
def zI : Str := "0123456789xyzvuw"
/-- basses behind the neck -/
def mBs (m : List UInt8 → Option (Nat × List UInt8)) : Nat → List Stop → List UInt8 → Option (List Stop × List UInt8)
  | 0, _, _ => none
  | f + 1, acc, l => if see " " l = true then (match sk (" " : Str).cps.toList l with
      | none => none
      | some (_, t) => match m t with
        | none => none
        | some (b, u) => if lastOk acc ⟨b, 0⟩ = true then mBs m f (acc ++ [⟨b, 0⟩]) u else none)
    else some (acc, l)
def mFr (l : List UInt8) : Option (List Stop × List UInt8) := match mNeck zF [1, 2, 3, 4, 5, 6] l with
  | none => none
  | some (s, t) => mBs mFB (t.length + 1) s t
def mIt (l : List UInt8) : Option (List Stop × List UInt8) := match mNeck zI [6, 5, 4, 3, 2, 1] l with
  | none => none
  | some (s, t) => mBs mBN (t.length + 1) s.reverse t
def mGl : Nat → List Stop → List UInt8 → Option (List Stop × List UInt8)
  | 0, _, _ => none
  | f + 1, acc, l => match mGS l with
    | none => none
    | some (s, t) => if lastOk acc s = true then (if see " " t = true then (match sk (" " : Str).cps.toList t with
        | none => none
        | some (_, u) => mGl f (acc ++ [s]) u) else some (acc ++ [s], t)) else none
def mGr (l : List UInt8) : Option (List Stop × List UInt8) := if see "." l = true then (match sk ("." : Str).cps.toList l with
    | none => none
    | some (_, t) => some ([], t))
  else mGl (l.length + 1) [] l
theorem mSl_len : ∀ {f : Nat} {l t : List UInt8} {n : Nat}, mSl f l = some (n, t) → t.length < l.length
  | 0, l, t, n, h => by
    rw [mSl] at h
    cases hs : sk ("a" : Str).cps.toList l with
    | none => rw [hs] at h; cases h
    | some x =>
      obtain ⟨_, y⟩ := x
      rw [hs] at h
      cases h
      have : t.length + 1 = l.length := sk_len hs
      omega
  | f + 1, l, t, n, h => by
    rw [mSl] at h
    split at h
    · cases hs : sk ("/" : Str).cps.toList l with
      | none => rw [hs] at h; cases h
      | some x =>
        obtain ⟨_, y⟩ := x
        rw [hs] at h
        have h1 : y.length + 1 = l.length := sk_len hs
        have := mSl_len (f := f) h
        omega
    · cases hs : sk ("a" : Str).cps.toList l with
      | none => rw [hs] at h; cases h
      | some x =>
        obtain ⟨_, y⟩ := x
        rw [hs] at h
        cases h
        have : t.length + 1 = l.length := sk_len hs
        omega
theorem mFB_len {l t : List UInt8} {n : Nat} (h : mFB l = some (n, t)) : t.length < l.length := by
  unfold mFB at h
  split at h
  · cases hp : pk "4567" l with
    | none => rw [hp] at h; cases h
    | some x => obtain ⟨i, y⟩ := x; rw [hp] at h; cases h; have := pk_len hp; omega
  · exact mSl_len h
theorem mBN_len {l t : List UInt8} {n : Nat} (h : mBN l = some (n, t)) : t.length < l.length := by
  unfold mBN at h
  split at h
  · cases hs : sk ("1" : Str).cps.toList l with
    | none => rw [hs] at h; cases h
    | some x =>
      obtain ⟨_, y⟩ := x
      simp only [hs] at h
      cases hp : pk "01234" y with
      | none => rw [hp] at h; cases h
      | some x =>
        obtain ⟨i, v⟩ := x
        rw [hp] at h
        cases h
        have h1 : y.length + 1 = l.length := sk_len hs
        have := pk_len hp
        omega
  · cases hp : pk "789" l with
    | none => rw [hp] at h; cases h
    | some x => obtain ⟨i, y⟩ := x; rw [hp] at h; cases h; have := pk_len hp; omega
theorem mNeck_len {z : Str} : ∀ {ns : List Nat} {l t : List UInt8} {s : List Stop}, mNeck z ns l = some (s, t) → t.length ≤ l.length ∧ s.length ≤ ns.length
  | [], l, t, s, h => by rw [mNeck] at h; cases h; exact ⟨Nat.le_refl _, Nat.le_refl _⟩
  | c :: ns, l, t, s, h => by
    rw [mNeck] at h
    cases hp : pk (z ++ ".") l with
    | none => rw [hp] at h; cases h
    | some x =>
      obtain ⟨i, y⟩ := x
      simp only [hp] at h
      cases hm : mNeck z ns y with
      | none => rw [hm] at h; cases h
      | some x =>
        obtain ⟨q, v⟩ := x
        simp only [hm] at h
        cases h
        have h1 := mNeck_len hm
        have h2 := pk_len hp
        refine ⟨by omega, ?_⟩
        split <;> simp <;> omega
def spSt (K : PySem.W.Frag) (C CT : Addr) (m : List UInt8 → Option (List Stop × List UInt8)) : Sp := fun vs H Q E => ∃ (r ta : Addr) (cs : List UInt8) (e : Nat) (rest : List UInt8), vs = [.ref r] ∧ Rd K C H r ta cs e rest ∧ cs.length ≤ 100000 ∧ GotS K C CT r ta cs e H Q E (m rest)
theorem Rd.rl {K : PySem.W.Frag} {C r ta : Addr} {H : Hp} {cs rest : List UInt8} {e : Nat} (R : Rd K C H r ta cs e rest) : rest.length ≤ cs.length := by
  obtain ⟨dx, p, _, q, _⟩ := R.at_
  rw [q, List.length_drop, List.length_take]
  omega
theorem paired_rev {α β : Type} {F : α → β → Prop} : ∀ {l : List α} {m : List β}, Paired F l m → Paired F l.reverse m.reverse
  | _, _, .nil => .nil
  | _, _, .cons r t => by
    rw [List.reverse_cons, List.reverse_cons]
    exact paired_snoc r (paired_rev t)
section
variable {P : Program} {w : World} {K : PySem.W.Frag} {mg : Str → Option Value} {base : Heap} {C CI CT : Addr} {dz fz : Str}
theorem sc_frs : FnScope ["reader", "stops", "start"] ["reader"] (defScope s_read_french_stops) := ⟨rfl, rfl, rfl, by decide +kernel, rfl, by decide +kernel, by decide +kernel⟩
theorem ok_frs {f : Addr} {fd : FuncData} (F : Fun K "read_french_stops" "read_french_stops" s_read_french_stops f fd) (B : Blt mg) (R : RdE P w K mg base C CT dz) (g6 : GI mg "NECK_COURSES" 6) (gz : GS mg "FRENCH_FRETS" zF)
    (D1 : Def P w K mg base 5 "read_neck" ["reader", "frets", "courses"] (spNeck K C CT)) (D2 : Def P w K mg base 5 "read_french_bass" ["reader"] (spOne K C CT mFB int_)) (D3 : Def P w K mg base 3 "add_stop" ["stops", "stop", "start"] (spAdd K CT)) :
    FnOk P w K mg base (CX1 P w) 6 f fd ["reader"] (spSt K C CT mFr) := by
  refine F.okx sc_frs (fun vs H Q E h => ?_) (fun cdv A outer s H vs Q E hr h => ?_)
  · obtain ⟨r, ta, cs, e, rest, rfl, _⟩ := h
    rfl
  · obtain ⟨r, ta, cs, e, rest, rfl, Rr, hcs, k⟩ := h
    refine ⟨_, (pss_cons (ps_set (i := 1) sc_frs.nd rfl (Or.inl rfl) (D1.call hr out_cx (pa_cons (pv 0) (pa_cons (pe_gs gz) (pa_cons (pe_listRange rfl B.list B.range (pa_cons pe_int (pa_cons (pe_op op_add (pe_gi g6) pe_int) pa_nil))) pa_nil)))))
      (pss_cons (ps_while PassesOwn.leaving (pt_sees R hr out_cx (pv 0) pe_str (oks (by decide +kernel)))
        (pss_cons (ps_skip R hr out_cx (pv 0) pe_str (oks (by decide +kernel)))
      (pss_cons (ps_set (i := 2) sc_frs.nd rfl (Or.inl rfl) (pe_place R (pv 0)))
      (pss_one (ps_expr (D3.call hr out_cx (pa_cons (pv 1) (pa_cons (pe_tup (pa_cons (pe_par D2 hr out_cx (pv 0)) (pa_cons pe_int pa_nil))) (pa_cons (pv 2) pa_nil)))))))))
      (pss_one (ps_ret (pv 1))))), ?_⟩
    unfold mFr at k
    refine ⟨_, rfl, _, _, rfl, rfl, 1, 7, 1, 6, .inr ⟨rfl, rfl⟩, ⟨by decide, by decide, by decide +kernel, by decide +kernel⟩, (by decide), fun ca nca => ?_⟩
    have sc : Same H (upd H ca (.lst (rgV 1 1 6))) := Same.upd nca
    have R0 := Rr.same sc
    refine ⟨r, ta, ca, cs, e, rest, zF, [1, 2, 3, 4, 5, 6], rfl, R0, oks (by decide +kernel), (by decide +kernel), upd_same, (by decide), ?_⟩
    cases hn : mNeck zF [1, 2, 3, 4, 5, 6] rest with
    | none => simp only [hn] at k; exact gots_none rfl k
    | some x =>
      obtain ⟨s0, t⟩ := x
      simp only [hn] at k
      have hnl := mNeck_len hn
      refine gots_some rfl fun H1 sa R1 s1 nsa L1 => ?_
      have nsa : H sa = none := by
        by_cases q : sa = ca
        · rw [q]; exact nca
        · rw [upd_ne q] at nsa; exact nsa
      have s1 : Sb r H H1 := fun b o eb hb => s1 b o (sc b o eb) hb
      have ttx : ta ≠ sa ∨ KTx K ta (cs.map cV) := tx_new Rr.tx nsa
      obtain ⟨M, hM⟩ : ∃ M, M = mBs mFB (t.length + 1) s0 t := ⟨_, rfl⟩
      rw [← hM] at k
      have hls : (s0).length ≤ 6 := hnl.2
      have hr0 := Rr.rl
      refine ⟨fun m σ H' => ∃ (rest' : List UInt8) (acc : List Stop) (g : Nat) (r2 : Option V), σ = [some (.ref r), some (.ref sa), r2] ∧ Sb r H H' ∧ Rd K C H' r ta cs e rest' ∧ LT K H' sa (acc.map sL) ∧ M = mBs mFB g acc rest' ∧ rest'.length < g ∧ acc.length + rest'.length ≤ 6 + t.length ∧ m = rest'.length,
        ⟨t.length, t, s0, t.length + 1, none, rfl, s1, R1, L1, hM, by omega, by omega, rfl⟩, ?_⟩
      rintro m σ H2 ⟨rest', acc, g, r2, rfl, s2, R2, L2, em, hg, ha, rfl⟩
      obtain ⟨g, rfl⟩ : ∃ g', g = g' + 1 := ⟨g - 1, by omega⟩
      rw [mBs] at em
      refine ⟨_, rfl, r, ta, cs, e, rest', rfl, R2, fun H3 s3 => ?_⟩
      have R3 := R2.same s3
      have L3 : LT K H3 sa (acc.map sL) := (Same.kp s3).lt L2
      have s23 : Sb r H H3 := s2.trans s3.sb
      cases hs : see " " rest' with
      | false =>
        rw [if_neg (by rw [hs]; decide)] at em
        rw [em] at k
        exact iteF ⟨_, rfl, k H3 sa R3 s23 nsa L3⟩
      | true =>
        rw [if_pos hs] at em
        refine wh_true ⟨_, rfl, r, ta, cs, e, rest', rfl, R3, ?_⟩
        cases hk : sk (" " : Str).cps.toList rest' with
        | none => simp only [hk] at em; rw [em] at k; exact got_none hk k
        | some x =>
          obtain ⟨_, t4⟩ := x
          simp only [hk] at em
          obtain ⟨dr3, p3, ir3⟩ := R3.ins
          refine got_some hk fun H4 R4 s4 => ⟨_, rfl, r, ta, cs, e, t4, rfl, R4, fun st => ?_⟩
          have L4 := L3.sb s4 ir3
          obtain ⟨dr4, p4, ir4⟩ := R4.ins
          refine ⟨_, rfl, _, rfl, r, ta, cs, e, t4, rfl, R4, ?_⟩
          cases hb : mFB t4 with
          | none => simp only [hb] at em; rw [em] at k; exact got_none hb k
          | some x =>
            obtain ⟨b, u⟩ := x
            simp only [hb] at em
            refine got_some hb fun H5 R5 s5 => ⟨(by rw [sizeLine_eq]; show 2 ≤ 16777216; decide), fun pa npa => ⟨_, rfl, ?_⟩⟩
            have L5 := L4.sb s5 ir4
            have sp : Same H5 (upd H5 pa (.tup [int_ b, V.int 0])) := Same.upd npa
            have hl1 : t4.length + 1 = rest'.length := sk_len hk
            have hl2 := mFB_len hb
            refine ⟨sa, pa, acc, ⟨b, 0⟩, st, rfl, (Same.kp sp).lt L5, SqT.of upd_same, by omega, ?_⟩
            cases ho : lastOk acc ⟨b, 0⟩ with
            | false =>
              rw [if_neg (by rw [ho]; decide)] at em
              rw [em] at k
              exact iteF (k st)
            | true =>
              rw [if_pos ho] at em
              refine iteT fun H6 L6 s6 => ⟨u.length, by omega, u, acc ++ [⟨b, 0⟩], g, _, rfl, ?_, ?_, L6, em, by omega, ?_, rfl⟩
              · have q : Sb r H (upd H5 pa (.tup [int_ b, V.int 0])) := ((s23.trans s4).trans s5).trans sp.sb
                exact fun b' o eb hb' => s6 b' o (q b' o eb hb') (ne_of_none eb nsa)
              · obtain ⟨as, a1, _⟩ := (Same.kp sp).lt L5
                exact (R5.same sp).app a1 ttx s6
              · rw [List.length_append]; simp; omega
theorem sc_its : FnScope ["reader", "stops", "start"] ["reader"] (defScope s_read_italian_stops) := ⟨rfl, rfl, rfl, by decide +kernel, rfl, by decide +kernel, by decide +kernel⟩
theorem ok_its {f : Addr} {fd : FuncData} (F : Fun K "read_italian_stops" "read_italian_stops" s_read_italian_stops f fd) (B : Blt mg) (R : RdE P w K mg base C CT dz) (g6 : GI mg "NECK_COURSES" 6) (gz : GS mg "ITALIAN_FRETS" zI)
    (D1 : Def P w K mg base 5 "read_neck" ["reader", "frets", "courses"] (spNeck K C CT)) (D2 : Def P w K mg base 5 "read_bass_number" ["reader"] (spOne K C CT mBN int_)) (D3 : Def P w K mg base 3 "add_stop" ["stops", "stop", "start"] (spAdd K CT)) :
    FnOk P w K mg base (CX1 P w) 6 f fd ["reader"] (spSt K C CT mIt) := by
  refine F.okx sc_its (fun vs H Q E h => ?_) (fun cdv A outer s H vs Q E hr h => ?_)
  · obtain ⟨r, ta, cs, e, rest, rfl, _⟩ := h
    rfl
  · obtain ⟨r, ta, cs, e, rest, rfl, Rr, hcs, k⟩ := h
    refine ⟨_, (pss_cons (ps_set (i := 1) sc_its.nd rfl (Or.inl rfl) (pe_listRev rfl B.list B.rev (pa_cons (D1.call hr out_cx (pa_cons (pv 0) (pa_cons (pe_gs gz) (pa_cons (pe_listRange rfl B.list B.range (pa_cons (pe_gi g6) (pa_cons pe_int (pa_cons (pe_un un_neg pe_int) pa_nil)))) pa_nil)))) pa_nil)))
      (pss_cons (ps_while PassesOwn.leaving (pt_sees R hr out_cx (pv 0) pe_str (oks (by decide +kernel)))
        (pss_cons (ps_skip R hr out_cx (pv 0) pe_str (oks (by decide +kernel)))
      (pss_cons (ps_set (i := 2) sc_its.nd rfl (Or.inl rfl) (pe_place R (pv 0)))
      (pss_one (ps_expr (D3.call hr out_cx (pa_cons (pv 1) (pa_cons (pe_tup (pa_cons (pe_par D2 hr out_cx (pv 0)) (pa_cons pe_int pa_nil))) (pa_cons (pv 2) pa_nil)))))))))
      (pss_one (ps_ret (pv 1))))), ?_⟩
    unfold mIt at k
    refine ⟨_, rfl, 1, rfl, 6, 0, -1, 6, .inl rfl, ⟨by decide, by decide, by decide +kernel, by decide +kernel⟩, (by decide), fun ca nca => ?_⟩
    have sc : Same H (upd H ca (.lst (rgV 6 (-1) 6))) := Same.upd nca
    have R0 := Rr.same sc
    refine ⟨r, ta, ca, cs, e, rest, zI, [6, 5, 4, 3, 2, 1], rfl, R0, oks (by decide +kernel), (by decide +kernel), upd_same, (by decide), ?_⟩
    cases hn : mNeck zI [6, 5, 4, 3, 2, 1] rest with
    | none => simp only [hn] at k; exact gots_none rfl k
    | some x =>
      obtain ⟨s0, t⟩ := x
      simp only [hn] at k
      have hnl := mNeck_len hn
      refine gots_some rfl fun H0 sz R1 s1 nsz L1 => ?_
      have s1 : Sb r H H0 := fun b o eb hb => s1 b o (sc b o eb) hb
      obtain ⟨as, a1, a2⟩ := L1
      refine ⟨sz, _, rfl, SqL.of a1, fun sa nsb => ?_⟩
      obtain ⟨H1, hH⟩ : ∃ H1, H1 = upd H0 sa (.lst (as.map V.ref).reverse) := ⟨_, rfl⟩
      rw [← hH]
      have sv : Same H0 H1 := hH ▸ Same.upd nsb
      have L1 : LT K H1 sa (s0.reverse.map sL) := ⟨as.reverse, by rw [hH, upd_same, List.map_reverse], by rw [List.map_reverse]; exact paired_rev (paired_mono a2 fun _ _ q => sv.tup q)⟩
      have nsa : H sa = none := by
        cases hq : H sa with
        | none => rfl
        | some o =>
          by_cases q : sa = r
          · obtain ⟨dr, p, ir⟩ := R1.ins
            rw [q, ir] at nsb; cases nsb
          · rw [s1 sa o hq q] at nsb; cases nsb
      replace R1 := R1.same sv
      replace s1 : Sb r H H1 := s1.trans sv.sb
      have ttx : ta ≠ sa ∨ KTx K ta (cs.map cV) := tx_new Rr.tx nsa
      obtain ⟨M, hM⟩ : ∃ M, M = mBs mBN (t.length + 1) s0.reverse t := ⟨_, rfl⟩
      rw [← hM] at k
      have hls : (s0.reverse).length ≤ 6 := by rw [List.length_reverse]; exact hnl.2
      have hr0 := Rr.rl
      refine ⟨fun m σ H' => ∃ (rest' : List UInt8) (acc : List Stop) (g : Nat) (r2 : Option V), σ = [some (.ref r), some (.ref sa), r2] ∧ Sb r H H' ∧ Rd K C H' r ta cs e rest' ∧ LT K H' sa (acc.map sL) ∧ M = mBs mBN g acc rest' ∧ rest'.length < g ∧ acc.length + rest'.length ≤ 6 + t.length ∧ m = rest'.length,
        ⟨t.length, t, s0.reverse, t.length + 1, none, rfl, s1, R1, L1, hM, by omega, by omega, rfl⟩, ?_⟩
      rintro m σ H2 ⟨rest', acc, g, r2, rfl, s2, R2, L2, em, hg, ha, rfl⟩
      obtain ⟨g, rfl⟩ : ∃ g', g = g' + 1 := ⟨g - 1, by omega⟩
      rw [mBs] at em
      refine ⟨_, rfl, r, ta, cs, e, rest', rfl, R2, fun H3 s3 => ?_⟩
      have R3 := R2.same s3
      have L3 : LT K H3 sa (acc.map sL) := (Same.kp s3).lt L2
      have s23 : Sb r H H3 := s2.trans s3.sb
      cases hs : see " " rest' with
      | false =>
        rw [if_neg (by rw [hs]; decide)] at em
        rw [em] at k
        exact iteF ⟨_, rfl, k H3 sa R3 s23 nsa L3⟩
      | true =>
        rw [if_pos hs] at em
        refine wh_true ⟨_, rfl, r, ta, cs, e, rest', rfl, R3, ?_⟩
        cases hk : sk (" " : Str).cps.toList rest' with
        | none => simp only [hk] at em; rw [em] at k; exact got_none hk k
        | some x =>
          obtain ⟨_, t4⟩ := x
          simp only [hk] at em
          obtain ⟨dr3, p3, ir3⟩ := R3.ins
          refine got_some hk fun H4 R4 s4 => ⟨_, rfl, r, ta, cs, e, t4, rfl, R4, fun st => ?_⟩
          have L4 := L3.sb s4 ir3
          obtain ⟨dr4, p4, ir4⟩ := R4.ins
          refine ⟨_, rfl, _, rfl, r, ta, cs, e, t4, rfl, R4, ?_⟩
          cases hb : mBN t4 with
          | none => simp only [hb] at em; rw [em] at k; exact got_none hb k
          | some x =>
            obtain ⟨b, u⟩ := x
            simp only [hb] at em
            refine got_some hb fun H5 R5 s5 => ⟨(by rw [sizeLine_eq]; show 2 ≤ 16777216; decide), fun pa npa => ⟨_, rfl, ?_⟩⟩
            have L5 := L4.sb s5 ir4
            have sp : Same H5 (upd H5 pa (.tup [int_ b, V.int 0])) := Same.upd npa
            have hl1 : t4.length + 1 = rest'.length := sk_len hk
            have hl2 := mBN_len hb
            refine ⟨sa, pa, acc, ⟨b, 0⟩, st, rfl, (Same.kp sp).lt L5, SqT.of upd_same, by omega, ?_⟩
            cases ho : lastOk acc ⟨b, 0⟩ with
            | false =>
              rw [if_neg (by rw [ho]; decide)] at em
              rw [em] at k
              exact iteF (k st)
            | true =>
              rw [if_pos ho] at em
              refine iteT fun H6 L6 s6 => ⟨u.length, by omega, u, acc ++ [⟨b, 0⟩], g, _, rfl, ?_, ?_, L6, em, by omega, ?_, rfl⟩
              · have q : Sb r H (upd H5 pa (.tup [int_ b, V.int 0])) := ((s23.trans s4).trans s5).trans sp.sb
                exact fun b' o eb hb' => s6 b' o (q b' o eb hb') (ne_of_none eb nsa)
              · obtain ⟨as, a1, _⟩ := (Same.kp sp).lt L5
                exact (R5.same sp).app a1 ttx s6
              · rw [List.length_append]; simp; omega
end
end Lt
end
section
set_option Elab.async false
set_option linter.all false
set_option maxRecDepth 100000
set_option maxHeartbeats 400000
namespace Lt
open PySem PySem.Spec PyProof.Rows L2
theorem mTm_len {b : Int} : ∀ {f j : Nat} {l t : List UInt8} {n : Nat}, mTm b f j l = some (n, t) → t.length ≤ l.length
  | 0, j, l, t, n, h => by rw [mTm] at h; cases h; exact Nat.le_refl _
  | f + 1, j, l, t, n, h => by
    rw [mTm] at h
    split at h
    · cases hp : pk zX l with
      | none => rw [hp] at h; cases h
      | some x =>
        obtain ⟨i, y⟩ := x
        rw [hp] at h
        have h1 := (pk_len hp).1
        have := mTm_len (f := f) h
        omega
    · cases h; exact Nat.le_refl _
theorem mGS_len {l t : List UInt8} {s : Stop} (h : mGS l = some (s, t)) : t.length < l.length := by
  unfold mGS at h
  split at h
  · cases hs : sk ("-" : Str).cps.toList l with
    | none => rw [hs] at h; cases h
    | some x =>
      obtain ⟨_, y⟩ := x
      simp only [hs] at h
      cases hp : mBN y with
      | none => rw [hp] at h; cases h
      | some x =>
        obtain ⟨i, v⟩ := x
        rw [hp] at h
        cases h
        have h1 : y.length + 1 = l.length := sk_len hs
        have := mBN_len hp
        omega
  · split at h
    · cases hp : pk "54321" l with
      | none => rw [hp] at h; cases h
      | some x => obtain ⟨i, y⟩ := x; rw [hp] at h; cases h; have := (pk_len hp).1; omega
    · split at h
      · cases hp : pk zP l with
        | none => rw [hp] at h; cases h
        | some x => obtain ⟨i, y⟩ := x; rw [hp] at h; cases h; have := (pk_len hp).1; omega
      · unfold mCr at h
        cases hp : pk zX l with
        | none => rw [hp] at h; cases h
        | some x =>
          obtain ⟨i, y⟩ := x
          simp only [hp] at h
          cases hm : mTm (bt l) 2 0 y with
          | none => rw [hm] at h; cases h
          | some x =>
            obtain ⟨j, v⟩ := x
            rw [hm] at h
            cases h
            have := (pk_len hp).1
            have := mTm_len hm
            omega
section
variable {P : Program} {w : World} {K : PySem.W.Frag} {mg : Str → Option Value} {base : Heap} {C CI CT : Addr} {dz fz : Str}
theorem sc_grs : FnScope ["reader", "stops", "start"] ["reader"] (defScope s_read_german_stops) := ⟨rfl, rfl, rfl, by decide +kernel, rfl, by decide +kernel, by decide +kernel⟩
theorem ok_grs {f : Addr} {fd : FuncData} (F : Fun K "read_german_stops" "read_german_stops" s_read_german_stops f fd) (R : RdE P w K mg base C CT dz)
    (D2 : Def P w K mg base 6 "read_german_stop" ["reader"] (spOneT K C CT fun l => sT (mGS l))) (D3 : Def P w K mg base 3 "add_stop" ["stops", "stop", "start"] (spAdd K CT)) :
    FnOk P w K mg base (CX1 P w) 7 f fd ["reader"] (spSt K C CT mGr) := by
  refine F.okx sc_grs (fun vs H Q E h => ?_) (fun cdv A outer s H vs Q E hr h => ?_)
  · obtain ⟨r, ta, cs, e, rest, rfl, _⟩ := h
    rfl
  · obtain ⟨r, ta, cs, e, rest, rfl, Rr, hcs, k⟩ := h
    refine ⟨_, (pss_cons (ps_if (pt_sees R hr out_cx (pv 0) pe_str (oks (by decide +kernel))) (pss_cons (ps_skip R hr out_cx (pv 0) pe_str (oks (by decide +kernel)))
      (pss_one (ps_ret (pe_lst pa_nil)))) pss_nil)
      (pss_cons (ps_set (i := 1) sc_grs.nd rfl (Or.inl rfl) (pe_lst pa_nil))
      (pss_one (ps_while PassesOwn.leaving (pt_val pe_bl)
        (pss_cons (ps_set (i := 2) sc_grs.nd rfl (Or.inl rfl) (pe_place R (pv 0)))
      (pss_cons (ps_expr (D3.call hr out_cx (pa_cons (pv 1) (pa_cons (pe_parT D2 hr out_cx (pv 0)) (pa_cons (pv 2) pa_nil)))))
      (pss_cons (ps_if (pt_not (pt_sees R hr out_cx (pv 0) pe_str (oks (by decide +kernel)))) (pss_one (ps_ret (pv 1))) pss_nil)
      (pss_one (ps_skip R hr out_cx (pv 0) pe_str (oks (by decide +kernel))))))))))), ?_⟩
    unfold mGr at k
    refine ⟨_, rfl, r, ta, cs, e, rest, rfl, Rr, fun H1 s1 => ?_⟩
    have R1 := Rr.same s1
    cases h1 : see "." rest with
    | true =>
      rw [if_pos h1] at k
      refine iteT ⟨_, rfl, r, ta, cs, e, rest, rfl, R1, ?_⟩
      cases hs : sk ("." : Str).cps.toList rest with
      | none => simp only [hs] at k; exact got_none hs k
      | some x =>
        obtain ⟨_, t⟩ := x
        simp only [hs] at k
        refine got_some hs fun H2 R2 s2 => ⟨Nat.zero_le _, fun sa nsa => ?_⟩
        have sv : Same H2 (upd H2 sa (.lst [])) := Same.upd nsa
        have s12 : Sb r H H2 := s1.sb.trans s2
        refine k _ sa (R2.same sv) (s12.trans sv.sb) ?_ ⟨[], upd_same, .nil⟩
        cases hq : H sa with
        | none => rfl
        | some o =>
          by_cases q : sa = r
          · obtain ⟨dr, p, ir⟩ := R2.ins
            rw [q, ir] at nsa; cases nsa
          · rw [s12 sa o hq q] at nsa; cases nsa
    | false =>
      rw [if_neg (by rw [h1]; decide)] at k
      refine iteF ⟨Nat.zero_le _, fun sa nsa1 => ?_⟩
      have nsa : H sa = none := by
        cases hq : H sa with
        | none => rfl
        | some o => rw [s1 sa o hq] at nsa1; cases nsa1
      have sv : Same H1 (upd H1 sa (.lst [])) := Same.upd nsa1
      have ttx : ta ≠ sa ∨ KTx K ta (cs.map cV) := tx_new Rr.tx nsa
      obtain ⟨M, hM⟩ : ∃ M, M = mGl (rest.length + 1) [] rest := ⟨_, rfl⟩
      rw [← hM] at k
      have hr0 := Rr.rl
      refine ⟨fun m σ H' => ∃ (rest' : List UInt8) (acc : List Stop) (g : Nat) (r2 : Option V), σ = [some (.ref r), some (.ref sa), r2] ∧ Sb r H H' ∧ Rd K C H' r ta cs e rest' ∧ LT K H' sa (acc.map sL) ∧ M = mGl g acc rest' ∧ rest'.length < g ∧ acc.length + rest'.length ≤ rest.length ∧ m = rest'.length,
        ⟨rest.length, rest, [], rest.length + 1, none, rfl, (s1.trans sv).sb, R1.same sv, ⟨[], upd_same, .nil⟩, hM, by omega, by simp, rfl⟩, ?_⟩
      rintro m σ H2 ⟨rest', acc, g, r2, rfl, s2, R2, L2, em, hg, ha, rfl⟩
      obtain ⟨g, rfl⟩ : ∃ g', g = g' + 1 := ⟨g - 1, by omega⟩
      rw [mGl] at em
      refine ⟨_, rfl, wh_true ?_⟩
      refine ⟨_, rfl, r, ta, cs, e, rest', rfl, R2, fun st => ?_⟩
      obtain ⟨dr2, p2, ir2⟩ := R2.ins
      refine ⟨_, rfl, _, rfl, r, ta, cs, e, rest', rfl, R2, ?_⟩
      cases hb : mGS rest' with
      | none => simp only [hb] at em; rw [em] at k; exact gott_none (by show sT (mGS rest') = _; rw [hb]; rfl) k
      | some x =>
        obtain ⟨s, u⟩ := x
        simp only [hb] at em
        refine gott_some (by show sT (mGS rest') = _; rw [hb]; rfl) fun H3 pa R3 s3 hp => ⟨_, rfl, ?_⟩
        have L3 := L2.sb s3 ir2
        have hl := mGS_len hb
        refine ⟨sa, pa, acc, s, st, rfl, L3, hp, by omega, ?_⟩
        cases ho : lastOk acc s with
        | false =>
          rw [if_neg (by rw [ho]; decide)] at em
          rw [em] at k
          exact iteF (k st)
        | true =>
          rw [if_pos ho] at em
          refine iteT fun H4 L4 s4 => ?_
          have q3 : Sb r H H3 := s2.trans s3
          have q4 : Sb r H H4 := fun b' o eb hb' => s4 b' o (q3 b' o eb hb') (ne_of_none eb nsa)
          have R4 : Rd K C H4 r ta cs e u := by
            obtain ⟨as, a1, _⟩ := L3
            exact R3.app a1 ttx s4
          refine ⟨_, rfl, r, ta, cs, e, u, rfl, R4, fun H5 s5 => ?_⟩
          have R5 := R4.same s5
          have L5 : LT K H5 sa ((acc ++ [s]).map sL) := (Same.kp s5).lt L4
          cases hs : see " " u with
          | false =>
            rw [if_neg (by rw [hs]; decide)] at em
            rw [em] at k
            exact iteT ⟨_, rfl, k H5 sa R5 (q4.trans s5.sb) nsa L5⟩
          | true =>
            rw [if_pos hs] at em
            refine iteF ⟨_, rfl, r, ta, cs, e, u, rfl, R5, ?_⟩
            cases hk : sk (" " : Str).cps.toList u with
            | none => simp only [hk] at em; rw [em] at k; exact got_none hk k
            | some x =>
              obtain ⟨_, v⟩ := x
              simp only [hk] at em
              obtain ⟨dr5, p5, ir5⟩ := R5.ins
              have hl1 : v.length + 1 = u.length := sk_len hk
              refine got_some hk fun H6 R6 s6 => ⟨v.length, by omega, v, acc ++ [s], g, _, rfl, (q4.trans s5.sb).trans s6, R6, L5.sb s6 ir5, em, by omega, ?_, rfl⟩
              rw [List.length_append]; simp; omega
def mSt (kd : Nat) (l : List UInt8) : Option (List Stop × List UInt8) := if kd = 0 then mFr l else if kd = 1 then mIt l else mGr l
def spStk (K : PySem.W.Frag) (C CT : Addr) : Sp := fun vs H Q E => ∃ (r ta : Addr) (cs : List UInt8) (e : Nat) (rest : List UInt8) (kd : Nat), vs = [.ref r, .int (kd : Nat)] ∧ Rd K C H r ta cs e rest ∧ cs.length ≤ 100000 ∧ GotS K C CT r ta cs e H Q E (mSt kd rest)
theorem sc_rst : FnScope ["reader", "kind"] ["reader", "kind"] (defScope s_read_stops) := ⟨rfl, rfl, rfl, by decide +kernel, rfl, by decide +kernel, by decide +kernel⟩
theorem ok_rst {f : Addr} {fd : FuncData} (F : Fun K "read_stops" "read_stops" s_read_stops f fd) (g0 : GI mg "FRENCH" 0) (g1 : GI mg "ITALIAN" 1)
    (D1 : Def P w K mg base 6 "read_french_stops" ["reader"] (spSt K C CT mFr)) (D2 : Def P w K mg base 6 "read_italian_stops" ["reader"] (spSt K C CT mIt)) (D3 : Def P w K mg base 7 "read_german_stops" ["reader"] (spSt K C CT mGr)) :
    FnOk P w K mg base (CX1 P w) 8 f fd ["reader", "kind"] (spStk K C CT) := by
  refine F.okx sc_rst (fun vs H Q E h => ?_) (fun cdv A outer s H vs Q E hr h => ?_)
  · obtain ⟨r, ta, cs, e, rest, kd, rfl, _⟩ := h
    rfl
  · obtain ⟨r, ta, cs, e, rest, kd, rfl, Rr, hcs, k⟩ := h
    refine ⟨_, (pss_cons (ps_if (pt_cmpR op_eq (pv 1) (pe_gi g0) (nomark _)) (pss_one (ps_ret (D1.call hr out_cx (pa_cons (pv 0) pa_nil)))) pss_nil)
      (pss_cons (ps_if (pt_cmpR op_eq (pv 1) (pe_gi g1) (nomark _)) (pss_one (ps_ret (D2.call hr out_cx (pa_cons (pv 0) pa_nil)))) pss_nil)
      (pss_one (ps_ret (D3.call hr out_cx (pa_cons (pv 0) pa_nil)))))), ?_⟩
    unfold mSt at k
    refine ⟨V.int (kd : Nat), rfl, rfl, _, rfl, ite2 (fun h0 => ?_) (fun h0 => ?_)⟩
    · have e0 : kd = 0 := by
        have q := of_decide_eq_true h0
        injection q with q
        omega
      rw [if_pos e0] at k
      exact ⟨_, rfl, r, ta, cs, e, rest, rfl, Rr, hcs, k⟩
    · have e0 : ¬ kd = 0 := fun q => h0 (decide_eq_true (by rw [q]; rfl))
      rw [if_neg e0] at k
      refine ⟨V.int (kd : Nat), rfl, rfl, _, rfl, ite2 (fun h1 => ?_) (fun h1 => ?_)⟩
      · have e1 : kd = 1 := by
          have q := of_decide_eq_true h1
          injection q with q
          omega
        rw [if_pos e1] at k
        exact ⟨_, rfl, r, ta, cs, e, rest, rfl, Rr, hcs, k⟩
      · have e1 : ¬ kd = 1 := fun q => h1 (decide_eq_true (by rw [q]; rfl))
        rw [if_neg e1] at k
        exact ⟨_, rfl, r, ta, cs, e, rest, rfl, Rr, hcs, k⟩
end
end Lt
end
section
set_option Elab.async false
set_option linter.all false
set_option maxRecDepth 100000
set_option maxHeartbeats 400000
namespace Lt
open PySem PySem.Spec PyProof.Rows L2
def lnf (n : Int) (sa : Addr) : List (Str × V) := [("length", .int n), ("stops", .ref sa)]
theorem lnf_l (n : Int) (sa : Addr) : (lnf n sa).lookup ("length" : Str) = some (.int n) := rfl
theorem lnf_s (n : Int) (sa : Addr) : (lnf n sa).lookup ("stops" : Str) = some (.ref sa) := rfl
theorem lnf_no (n : Int) (sa : Addr) {m : Str} (h1 : (m == "length") = false) (h2 : (m == "stops") = false) : (lnf n sa).lookup m = none := by
  unfold lnf
  simp only [List.lookup, h1, h2]
structure LnC (K : PySem.W.Frag) (CL : Addr) : Prop where
  cl : Cls K CL
  nl : NoAttr K CL "length"
  ns : NoAttr K CL "stops"
def spLI (CL : Addr) : Sp := fun vs H Q _ => ∃ (x dx sa : Addr) (n : Int), vs = [.ref x, .int n, .ref sa] ∧ H x = some (.ins CL dx []) ∧ ∀ H', H' x = some (.ins CL dx (lnf n sa)) → Sb x H H' → Q .non H'
def spBar (CL : Addr) : Sp := fun vs H Q _ => ∃ (x dx sa : Addr) (n : Int), vs = [.ref x] ∧ H x = some (.ins CL dx (lnf n sa)) ∧ Q (.bl (decide (n = 0))) H
def hd1 (z : Str) : Str := ⟨#[z.cps.toList.headD 0]⟩
def mKd : List Str → Nat → List UInt8 → Option (Nat × List UInt8)
  | [], _, _ => none
  | z :: zs, i, l => if see (hd1 z) l = true then (match sk z.cps.toList l with
      | none => none
      | some (_, t) => some (i, t)) else mKd zs (i + 1) l
def kws : List Str := ["french\n", "italian\n", "german\n"]
def zL : Str := "xtseqhw"
def lens : List Int := [1, 2, 4, 8, 16, 32, 64]
def mLn (before : Nat) (l : List UInt8) : Option (Nat × List UInt8) := if see " " l = true then (if before = 0 then none else match sk (" " : Str).cps.toList l with
    | none => none
    | some (_, t) => some (before, t))
  else match pk zL l with
    | none => none
    | some (i, t) => if 0 < i ∧ see "." t = true then (match sk ("." : Str).cps.toList t with
        | none => none
        | some (_, u) => match sk (" " : Str).cps.toList u with
          | none => none
          | some (_, v) => if 2 ^ i + 2 ^ i / 2 = before then none else some (2 ^ i + 2 ^ i / 2, v))
      else match sk (" " : Str).cps.toList t with
        | none => none
        | some (_, v) => if 2 ^ i = before then none else some (2 ^ i, v)
def spLen (K : PySem.W.Frag) (C CT : Addr) : Sp := fun vs H Q E => ∃ (r ta : Addr) (cs : List UInt8) (e : Nat) (rest : List UInt8) (b : Nat), vs = [.ref r, .int (b : Nat)] ∧ Rd K C H r ta cs e rest ∧ Got K C CT r ta cs e H Q E int_ (mLn b rest)
theorem lens_at {i : Nat} (h : i < 7) : (lens.map V.int)[i]? = some (.int ((2 ^ i : Nat) : Int)) := by
  match i, h with
  | 0, _ => rfl
  | 1, _ => rfl
  | 2, _ => rfl
  | 3, _ => rfl
  | 4, _ => rfl
  | 5, _ => rfl
  | 6, _ => rfl
section
variable {P : Program} {w : World} {K : PySem.W.Frag} {mg : Str → Option Value} {base : Heap} {C CL CT : Addr} {dz fz : Str}
theorem sc_li : FnScope ["self", "length", "stops"] ["self", "length", "stops"] (defScope s_Line_init) := ⟨rfl, rfl, rfl, by decide +kernel, rfl, by decide +kernel, by decide +kernel⟩
theorem ok_li {f : Addr} {fd : FuncData} (F : Fun K "__init__" "Line.__init__" s_Line_init f fd) (T : LnC K CL) : FnOk P w K mg base (CX1 P w) 1 f fd ["self", "length", "stops"] (spLI CL) := by
  refine F.okx sc_li (fun vs H Q E h => ?_) (fun cdv A outer s H vs Q E hr h => ?_)
  · obtain ⟨x, dx, sa, n, rfl, _⟩ := h
    rfl
  · obtain ⟨x, dx, sa, n, rfl, hx, k⟩ := h
    refine ⟨_, (pss_cons (ps_fld (pv 0) (pv 1) rfl)
      (pss_one (ps_fld (pv 0) (pv 2) rfl))), ?_⟩
    refine ⟨_, rfl, _, rfl, x, CL, dx, [], rfl, hx, T.cl, T.nl, (by decide), ?_⟩
    refine ⟨_, rfl, _, rfl, x, CL, dx, _, rfl, upd_same, T.cl, T.ns, (by show 1 < 1000; decide), ?_⟩
    exact k _ upd_same fun b o e hb => by rw [upd_ne hb, upd_ne hb]; exact e
theorem sc_ib : FnScope ["self"] ["self"] (defScope s_Line_is_bar) := ⟨rfl, rfl, rfl, by decide +kernel, rfl, by decide +kernel, by decide +kernel⟩
theorem ok_ib {f : Addr} {fd : FuncData} (F : Fun K "is_bar" "Line.is_bar" s_Line_is_bar f fd) (T : LnC K CL) : FnOk P w K mg base (CX1 P w) 1 f fd ["self"] (spBar CL) := by
  refine F.okx sc_ib (fun vs H Q E h => ?_) (fun cdv A outer s H vs Q E hr h => ?_)
  · obtain ⟨x, dx, sa, n, rfl, _⟩ := h
    rfl
  · obtain ⟨x, dx, sa, n, rfl, hx, k⟩ := h
    refine ⟨_, (pss_one (ps_ret (pe_cmpR op_eq (pe_fld (pv 0) rfl) pe_int (nomark _)))), ?_⟩
    refine ⟨_, rfl, x, CL, dx, _, _, rfl, hx, T.cl, T.nl, lnf_l _ _, rfl, ?_⟩
    have e0 : decide (V.int n = V.int 0) = decide (n = 0) := by
      rw [decide_eq_decide]
      exact ⟨fun q => by injection q, fun q => by rw [q]⟩
    show Q (V.bl (decide (V.int n = V.int 0))) H
    rw [e0]
    exact k
theorem sc_rk : FnScope ["reader", "kind", "word"] ["reader"] (defScope s_read_kind) := ⟨rfl, rfl, rfl, by decide +kernel, rfl, by decide +kernel, by decide +kernel⟩
theorem kws_ok {z : Str} (h : z ∈ kws) : OkS (hd1 z) ∧ OkS z ∧ z.length ≤ 100 ∧ z.cps.toList[0]? = some (z.cps.toList.headD 0) := by
  have : z = "french\n" ∨ z = "italian\n" ∨ z = "german\n" := by simpa [kws] using h
  rcases this with rfl | rfl | rfl
  · exact ⟨oks (by decide +kernel), oks (by decide +kernel), by decide +kernel, rfl⟩
  · exact ⟨oks (by decide +kernel), oks (by decide +kernel), by decide +kernel, rfl⟩
  · exact ⟨oks (by decide +kernel), oks (by decide +kernel), by decide +kernel, rfl⟩
theorem ok_rk {f : Addr} {fd : FuncData} (F : Fun K "read_kind" "read_kind" s_read_kind f fd) (B : Blt mg) (R : RdE P w K mg base C CT dz) (gk : GT K mg "KIND_WORDS" (kws.map V.str)) : FnOk P w K mg base (CX1 P w) 5 f fd ["reader"] (spOne K C CT (mKd kws 0) int_) := by
  refine F.okx sc_rk (fun vs H Q E h => ?_) (fun cdv A outer s H vs Q E hr h => ?_)
  · obtain ⟨r, ta, cs, e, rest, rfl, _⟩ := h
    rfl
  · obtain ⟨r, ta, cs, e, rest, rfl, Rr, k⟩ := h
    refine ⟨_, (pss_cons (ps_for PassesOwn.leaving rfl (pi_enumT (by rfl) B.enum (pa_cons (pe_gt gk) pa_nil)) (pg_tup rfl (pgs_cons (pg_name (i := 1) sc_rk.nd rfl (Or.inl rfl)) (pgs_cons (pg_name (i := 2) sc_rk.nd rfl (Or.inl rfl)) pgs_nil)))
        (pss_one (ps_if (pt_val (R.se.call (pv 0) hr out_cx (pa_cons (pe_ix ix_str (pv 2) pe_int (fun _ _ => rfl)) pa_nil))) (pss_cons (ps_expr (R.sk.call (pv 0) hr out_cx (pa_cons (pv 2) pa_nil)))
      (pss_one (ps_ret (pv 1)))) pss_nil)))
      (pss_one (ps_fault R.X1 hr out_cx rfl (pe_place R (pv 0))))), ?_⟩
    intro ka hka
    obtain ⟨M, hM⟩ : ∃ M, M = mKd kws 0 rest := ⟨_, rfl⟩
    have k : Got K C CT r ta cs e H Q E int_ M := by rw [hM]; exact k
    refine ⟨ka, kws.map V.str, rfl, hka _, for_any (n := 3) (fun i σ H' => Same H H' ∧ (∃ r1 r2, σ = [some (.ref r), r1, r2]) ∧ i ≤ 3 ∧ M = mKd (kws.drop i) i rest) ⟨Same.refl _, ⟨none, none, rfl⟩, by omega, hM⟩ ?_ ?_ ?_ ?_⟩
    · rintro i σ H' hi _
      have hlt : i < kws.length := hi
      exact ⟨kws.map V.str, .str kws[i], hka H', by rw [List.getElem?_map, List.getElem?_eq_getElem hlt]; rfl⟩
    · rintro σ H' _
      exact ⟨kws.map V.str, hka H', rfl⟩
    · rintro i v σ H1 H2 hi ⟨s1, ⟨r1, r2, rfl⟩, _, em⟩ ⟨T, xv, rfl, nT, rfl, hxv⟩
      have hlt : i < kws.length := hi
      have hxv' := hxv _ (hka H1)
      rw [List.getElem?_map, List.getElem?_eq_getElem hlt] at hxv'
      cases hxv'
      obtain ⟨z, hz⟩ : ∃ z, z = kws[i] := ⟨_, rfl⟩
      rw [← hz]
      obtain ⟨o1, o2, o3, o4⟩ := kws_ok (z := z) (by rw [hz]; exact List.getElem_mem _)
      have ed : kws.drop i = z :: kws.drop (i + 1) := by rw [List.drop_eq_getElem_cons hlt, hz]
      rw [ed, mKd] at em
      have s2 : Same H (upd H1 T (.tup [.int (i : Nat), .str z])) := s1.trans (Same.upd nT)
      have R2 := Rr.same s2
      obtain ⟨dr, p, ir⟩ := R2.ins
      refine ⟨T, _, rfl, SqT.of upd_same, rfl, _, _, rfl, _, _, rfl, rfl, ?_⟩
      refine ⟨V.ref r, rfl, r, dr, _, rfl, ir, rf_sees _ _ _, V.str z, rfl, z, 0, _, rfl, rfl, (by rw [sizeLine_eq]; omega), atI_nat (j := 0) o4, r, ta, cs, e, rest, hd1 z, rfl, R2, o1, fun H3 s3 => ⟨_, rfl, ?_⟩⟩
      have R3 := R2.same s3
      cases hs : see (hd1 z) rest with
      | false =>
        rw [if_neg (by rw [hs]; decide)] at em
        exact iteF ⟨s2.trans s3, ⟨_, _, rfl⟩, by omega, em⟩
      | true =>
        rw [if_pos hs] at em
        obtain ⟨dr3, p3, ir3⟩ := R3.ins
        refine iteT ⟨V.ref r, rfl, r, dr3, _, rfl, ir3, rf_skip _ _ _, V.str z, rfl, r, ta, cs, e, rest, z, rfl, R3, o2, ?_⟩
        cases hk : sk z.cps.toList rest with
        | none => rw [hk] at em; rw [em] at k; exact got_none rfl k
        | some x =>
          obtain ⟨_, t⟩ := x
          rw [hk] at em
          rw [em] at k
          exact got_some rfl fun H4 R4 s4 => ⟨V.int (i : Nat), rfl, k H4 R4 ((s2.trans s3).sb.trans s4)⟩
    · rintro σ H1 ⟨s1, ⟨r1, r2, rfl⟩, _, em⟩
      have e3 : kws.drop 3 = [] := rfl
      rw [e3, mKd] at em
      rw [em] at k
      exact ⟨V.ref r, rfl, r, ta, cs, e, rest, rfl, Rr.same s1, fun z => ⟨z, rfl, k z⟩⟩
theorem sc_rl : FnScope ["reader", "before", "start", "length"] ["reader", "before"] (defScope s_read_length_pieces) := ⟨rfl, rfl, rfl, by decide +kernel, rfl, by decide +kernel, by decide +kernel⟩
theorem ok_rl {f : Addr} {fd : FuncData} (F : Fun K "read_length" "read_length" s_read_length_pieces f fd) (R : RdE P w K mg base C CT dz) (gl : GS mg "LENGTH_SIGNS" zL) (gt : GT K mg "LENGTHS" (lens.map V.int)) : FnOk P w K mg base (CX1 P w) 5 f fd ["reader", "before"] (spLen K C CT) := by
  refine F.okx sc_rl (fun vs H Q E h => ?_) (fun cdv A outer s H vs Q E hr h => ?_)
  · obtain ⟨r, ta, cs, e, rest, b, rfl, _⟩ := h
    rfl
  · obtain ⟨r, ta, cs, e, rest, b, rfl, Rr, k⟩ := h
    refine ⟨_, (pss_cons (ps_set (i := 2) sc_rl.nd rfl (Or.inl rfl) (pe_place R (pv 0)))
      (pss_cons (ps_if (pt_sees R hr out_cx (pv 0) pe_str (oks (by decide +kernel)))
        (pss_cons (ps_if (pt_cmpR op_eq (pv 1) pe_int (nomark _)) (pss_one (ps_fault R.X1 hr out_cx rfl (pv 2))) pss_nil)
      (pss_cons (ps_skip R hr out_cx (pv 0) pe_str (oks (by decide +kernel)))
      (pss_one (ps_ret (pv 1))))) pss_nil)
      (pss_cons (ps_set (i := 3) sc_rl.nd rfl (Or.inl rfl) (pe_ix (ix_tupK K) (pe_gt gt) (pe_pick R hr out_cx (pv 0) (pe_gs gl) (oks (by decide +kernel))) (fun _ _ => rfl)))
      (pss_cons (ps_if (pw_and (pt_cmpR op_gt (pv 3) pe_int (nomark _)) (pw_and1 (pt_sees R hr out_cx (pv 0) pe_str (oks (by decide +kernel))))).pt
        (pss_cons (ps_skip R hr out_cx (pv 0) pe_str (oks (by decide +kernel)))
      (pss_one (ps_aug (i := 3) sc_rl.nd rfl (Or.inl rfl) (pe_op op_fdiv (pv 3) pe_int) ip_add))) pss_nil)
      (pss_cons (ps_skip R hr out_cx (pv 0) pe_str (oks (by decide +kernel)))
      (pss_cons (ps_if (pt_cmpR op_eq (pv 3) (pv 1) (nomark _)) (pss_one (ps_fault R.X1 hr out_cx rfl (pv 2))) pss_nil)
      (pss_one (ps_ret (pv 3))))))))), ?_⟩
    unfold mLn at k
    refine ⟨_, rfl, r, ta, cs, e, rest, rfl, Rr, fun st => ?_⟩
    refine ⟨_, rfl, r, ta, cs, e, rest, rfl, Rr, fun H1 s1 => ?_⟩
    have R1 := Rr.same s1
    cases h1 : see " " rest with
    | true =>
      rw [if_pos h1] at k
      refine iteT ⟨V.int (b : Nat), rfl, rfl, _, rfl, ite2 (fun h0 => ?_) (fun h0 => ?_)⟩
      · have e0 : b = 0 := by
          have q := of_decide_eq_true h0
          injection q with q
          omega
        rw [if_pos e0] at k
        exact ⟨V.int st, rfl, st, rfl, k st⟩
      · have e0 : ¬ b = 0 := fun q => h0 (decide_eq_true (by rw [q]; rfl))
        rw [if_neg e0] at k
        refine ⟨_, rfl, r, ta, cs, e, rest, rfl, R1, ?_⟩
        cases hs : sk (" " : Str).cps.toList rest with
        | none => rw [hs] at k; exact got_none hs k
        | some x =>
          obtain ⟨_, t⟩ := x
          rw [hs] at k
          exact got_some hs fun H2 R2 s2 => ⟨V.int (b : Nat), rfl, k H2 R2 (s1.sb.trans s2)⟩
    | false =>
      rw [if_neg (by rw [h1]; decide)] at k
      refine iteF fun la hla => ⟨_, rfl, r, ta, cs, e, rest, rfl, R1, ?_⟩
      cases hp : pk zL rest with
      | none => simp only [hp] at k; exact got_none hp k
      | some x =>
        obtain ⟨i, t⟩ := x
        simp only [hp] at k
        have hi : i < 7 := (pk_len hp).2
        refine got_some hp fun H2 R2 s2 => ⟨la, _, _, _, rfl, rfl, hla _, atI_nat (lens_at hi), ?_⟩
        have sb2 : Sb r H H2 := s1.sb.trans s2
        -- the end, for a length n
        have tail : ∀ (n : Nat) (H3 : Hp) (t' : List UInt8), Sb r H H3 → Rd K C H3 r ta cs e t' → Got K C CT r ta cs e H Q E int_ (match sk (" " : Str).cps.toList t' with
            | none => none
            | some (_, v) => if n = b then none else some (n, v)) →
            (tSeq (sSkip K C CT E (tVar 0) " ") (tSeq (tIfS (tTest (tOp rEq (tVar 3) (tVar 1))) (tFault CT E (tVar 2)) tNext) (tRet (tVar 3)))) { nx := fun _ H' => Q .non H', rt := Q } [some (.ref r), some (.int (b : Nat)), some (.int st), some (.int (n : Nat))] H3 := by
          intro n H3 t' s3 R3 k
          refine ⟨_, rfl, r, ta, cs, e, t', rfl, R3, ?_⟩
          cases hs : sk (" " : Str).cps.toList t' with
          | none => rw [hs] at k; exact got_none hs k
          | some x =>
            obtain ⟨_, v⟩ := x
            simp only [hs] at k
            refine got_some hs fun H4 R4 s4 => ⟨_, rfl, _, rfl, rfl, _, rfl, ite2 (fun h0 => ?_) (fun h0 => ?_)⟩
            · have e0 : n = b := by
                have q := of_decide_eq_true h0
                injection q with q
                omega
              rw [if_pos e0] at k
              exact ⟨V.int st, rfl, st, rfl, k st⟩
            · have e0 : ¬ n = b := fun q => h0 (decide_eq_true (by rw [q]))
              rw [if_neg e0] at k
              exact ⟨V.int (n : Nat), rfl, k H4 R4 (s3.trans s4)⟩
        refine ⟨_, rfl, _, _, rfl, rfl, _, rfl, ?_⟩
        by_cases h0 : 0 < i
        · have hgt : decide ((1 : Int) < ((2 ^ i : Nat) : Int)) = true := decide_eq_true (by have : 2 ^ 1 ≤ 2 ^ i := Nat.pow_le_pow_right (by decide) h0; omega)
          show if decide ((1 : Int) < ((2 ^ i : Nat) : Int)) = true then _ else _
          rw [hgt]
          refine iteT ⟨_, rfl, r, ta, cs, e, t, rfl, R2, fun H3 s3 => ?_⟩
          have R3 := R2.same s3
          cases h2 : see "." t with
          | true =>
            rw [if_pos ⟨h0, h2⟩] at k
            refine iteT ⟨_, rfl, r, ta, cs, e, t, rfl, R3, ?_⟩
            cases hs : sk ("." : Str).cps.toList t with
            | none => simp only [hs] at k; exact got_none hs k
            | some x =>
              obtain ⟨_, u⟩ := x
              simp only [hs] at k
              refine got_some hs fun H4 R4 s4 => ⟨_, rfl, _, rfl, _, _, rfl, rfl, (show (0 : Int) < 2 ∧ (2 : Int) < 1073741824 from by decide), _, _, rfl, rfl, ?_⟩
              have en : (((2 ^ i : Nat) : Int) + ((2 ^ i : Nat) : Int) / 2) = ((2 ^ i + 2 ^ i / 2 : Nat) : Int) := by omega
              have q := tail (2 ^ i + 2 ^ i / 2) H4 u ((sb2.trans s3.sb).trans s4) R4 k
              rw [← en] at q
              exact q
          | false =>
            rw [if_neg (by rw [h2]; rintro ⟨_, q⟩; cases q)] at k
            exact iteF (tail (2 ^ i) H3 t (sb2.trans s3.sb) R3 k)
        · have hgt : decide ((1 : Int) < ((2 ^ i : Nat) : Int)) = false := by
            have : i = 0 := by omega
            subst this
            decide
          rw [if_neg (fun q => h0 q.1)] at k
          refine iteD hgt (iteF (tail (2 ^ i) H2 t sb2 R2 k))
end
end Lt
end
section
set_option Elab.async false
set_option linter.all false
set_option maxRecDepth 100000
set_option maxHeartbeats 400000
namespace Lt
open PySem PySem.Spec PyProof.Rows L2
def mPl (kd before : Nat) (l : List UInt8) : Option (Ln × List UInt8) := if see "|" l = true then (match sk ("|\n" : Str).cps.toList l with
    | none => none
    | some (_, t) => some ((0, []), t))
  else match mLn before l with
    | none => none
    | some (n, t) => match mSt kd t with
      | none => none
      | some (st, u) => match sk ("\n" : Str).cps.toList u with
        | none => none
        | some (_, v) => some ((n, st), v)
def mLs (kd : Nat) : Nat → List Ln → Nat → List UInt8 → Option (List Ln)
  | 0, _, _, _ => none
  | f + 1, acc, len, l => if l.isEmpty = true then (if len = 0 then none else some acc) else if acc.length = 512 then none else match mPl kd len l with
    | none => none
    | some ((n, st), t) => mLs kd f (acc ++ [(n, st)]) (if n = 0 then len else n) t
def mPc (cs : List UInt8) : Option (List Ln) := match mKd kws 0 cs with
  | none => none
  | some (kd, t) => mLs kd (t.length + 1) [] 0 t
def LnB (K : PySem.W.Frag) (CL al : Addr) (H : Hp) (x : Addr) (p : Ln) : Prop := ∃ dx sa, sa ≠ al ∧ H x = some (.ins CL dx (lnf (p.1 : Nat) sa)) ∧ LT K H sa (p.2.map sL)
def LnsA (K : PySem.W.Frag) (CL : Addr) (H : Hp) (al : Addr) (ps : List Ln) : Prop := ∃ as : List Addr, H al = some (.lst (as.map V.ref)) ∧ Paired (fun x p => LnB K CL al H x p) as ps
theorem lnf_rf {n : Int} {sa ta : Addr} {p e : Int} : lnf n sa ≠ rf ta p e := by
  intro q
  have := congrArg List.length q
  simp [lnf, rf] at this
theorem LnB.sb {K : PySem.W.Frag} {CL al r C dx ta x : Addr} {p e : Int} {H H' : Hp} {q : Ln} (h : LnB K CL al H x q) (s : Sb r H H') (ir : H r = some (.ins C dx (rf ta p e))) : LnB K CL al H' x q := by
  obtain ⟨dl, sa, hn, h1, h2⟩ := h
  exact ⟨dl, sa, hn, s _ _ h1 (ne_of h1 ir (by intro z; injection z with _ _ z; exact lnf_rf z)), h2.sb s ir⟩
theorem LnB.same {K : PySem.W.Frag} {CL al x : Addr} {H H' : Hp} {q : Ln} (h : LnB K CL al H x q) (s : Same H H') : LnB K CL al H' x q := by
  obtain ⟨dl, sa, hn, h1, h2⟩ := h
  exact ⟨dl, sa, hn, s _ _ h1, (Same.kp s).lt h2⟩
theorem LT.sbl {K : PySem.W.Frag} {H H' : Hp} {a al : Addr} {xs : List V} {ls : List (List Int)} (h : LT K H a ls) (s : Sb al H H') (hal : H al = some (.lst xs)) (n : a ≠ al) : LT K H' a ls := by
  obtain ⟨as, h1, h2⟩ := h
  exact ⟨as, s _ _ h1 n, paired_mono h2 fun _ _ q => Sb.nt s hal q⟩
theorem LnB.app {K : PySem.W.Frag} {CL al x : Addr} {H H' : Hp} {q : Ln} {xs : List V} (h : LnB K CL al H x q) (s : Sb al H H') (hal : H al = some (.lst xs)) : LnB K CL al H' x q := by
  obtain ⟨dl, sa, hn, h1, h2⟩ := h
  exact ⟨dl, sa, hn, s _ _ h1 (ne_of h1 hal (by intro z; cases z)), h2.sbl s hal hn⟩
theorem LnsA.same {K : PySem.W.Frag} {CL al : Addr} {H H' : Hp} {ps : List Ln} (h : LnsA K CL H al ps) (s : Same H H') : LnsA K CL H' al ps := let ⟨as, h1, h2⟩ := h; ⟨as, s _ _ h1, paired_mono h2 fun _ _ q => q.same s⟩
theorem LnsA.sb {K : PySem.W.Frag} {CL al r C dx ta : Addr} {p e : Int} {H H' : Hp} {ps : List Ln} (h : LnsA K CL H al ps) (s : Sb r H H') (ir : H r = some (.ins C dx (rf ta p e))) : LnsA K CL H' al ps :=
  let ⟨as, h1, h2⟩ := h; ⟨as, s _ _ h1 (ne_of h1 ir (by intro z; cases z)), paired_mono h2 fun _ _ q => q.sb s ir⟩
def GotP (K : PySem.W.Frag) (CR CL CT r ta : Addr) (cs : List UInt8) (e : Nat) (H : Hp) (Q : VK) (E : XK) : Option (Ln × List UInt8) → Prop
  | some (p, rest') => ∀ H' x dx sa, Rd K CR H' r ta cs e rest' → Sb r H H' → H sa = none → H' x = some (.ins CL dx (lnf (p.1 : Nat) sa)) → LT K H' sa (p.2.map sL) → Q (.ref x) H'
  | none => ∀ z : Int, E (.ref CT) none (xH [("place", .int z)])
theorem gotp_none {K : PySem.W.Frag} {CR CL CT r ta : Addr} {cs : List UInt8} {e : Nat} {H : Hp} {Q : VK} {E : XK} {res : Option (Ln × List UInt8)} (h : res = none) (k : ∀ z : Int, E (.ref CT) none (xH [("place", .int z)])) : GotP K CR CL CT r ta cs e H Q E res := by
  rw [h]; exact k
theorem gotp_some {K : PySem.W.Frag} {CR CL CT r ta : Addr} {cs : List UInt8} {e : Nat} {H : Hp} {Q : VK} {E : XK} {res : Option (Ln × List UInt8)} {p : Ln} {t : List UInt8} (h : res = some (p, t)) (k : ∀ H' x dx sa, Rd K CR H' r ta cs e t → Sb r H H' → H sa = none → H' x = some (.ins CL dx (lnf (p.1 : Nat) sa)) → LT K H' sa (p.2.map sL) → Q (.ref x) H') : GotP K CR CL CT r ta cs e H Q E res := by
  rw [h]; exact k
def spPl (K : PySem.W.Frag) (C CL CT : Addr) : Sp := fun vs H Q E => ∃ (r ta : Addr) (cs : List UInt8) (e : Nat) (rest : List UInt8) (kd b : Nat), vs = [.ref r, .int (kd : Nat), .int (b : Nat)] ∧ Rd K C H r ta cs e rest ∧ cs.length ≤ 100000 ∧ GotP K C CL CT r ta cs e H Q E (mPl kd b rest)
theorem sb_new {H H' : Hp} {r a : Addr} {o : HO} (s : Sb r H H') (hr : H' r = some o) (n : H' a = none) : H a = none := by
  cases hq : H a with
  | none => rfl
  | some o' =>
    by_cases q : a = r
    · rw [q, hr] at n; cases n
    · rw [s a o' hq q] at n; cases n
section
variable {P : Program} {w : World} {K : PySem.W.Frag} {mg : Str → Option Value} {base : Heap} {C CL CT : Addr} {dz fz : Str}
theorem sc_pl : FnScope ["reader", "kind", "before", "length", "stops"] ["reader", "kind", "before"] (defScope s_read_line_pieces) := ⟨rfl, rfl, rfl, by decide +kernel, rfl, by decide +kernel, by decide +kernel⟩
theorem ok_pl {f : Addr} {fd : FuncData} (F : Fun K "read_line" "read_line" s_read_line_pieces f fd) (R : RdE P w K mg base C CT dz) (ML : Mkr P w K mg base 1 CL "Line" ["self", "length", "stops"] (spLI CL))
    (D1 : Def P w K mg base 5 "read_length_pieces" ["reader", "before"] (spLen K C CT)) (D2 : Def P w K mg base 8 "read_stops" ["reader", "kind"] (spStk K C CT)) : FnOk P w K mg base (CX1 P w) 9 f fd ["reader", "kind", "before"] (spPl K C CL CT) := by
  refine F.okx sc_pl (fun vs H Q E h => ?_) (fun cdv A outer s H vs Q E hr h => ?_)
  · obtain ⟨r, ta, cs, e, rest, kd, b, rfl, _⟩ := h
    rfl
  · obtain ⟨r, ta, cs, e, rest, kd, b, rfl, Rr, hcs, k⟩ := h
    refine ⟨_, (pss_cons (ps_if (pt_sees R hr out_cx (pv 0) pe_str (oks (by decide +kernel))) (pss_cons (ps_skip R hr out_cx (pv 0) pe_str (oks (by decide +kernel)))
      (pss_one (ps_ret (ML.call hr out_cx (pa_cons pe_int (pa_cons (pe_lst pa_nil) pa_nil)))))) pss_nil)
      (pss_cons (ps_set (i := 3) sc_pl.nd rfl (Or.inl rfl) (D1.call hr out_cx (pa_cons (pv 0) (pa_cons (pv 2) pa_nil))))
      (pss_cons (ps_set (i := 4) sc_pl.nd rfl (Or.inl rfl) (D2.call hr out_cx (pa_cons (pv 0) (pa_cons (pv 1) pa_nil))))
      (pss_cons (ps_skip R hr out_cx (pv 0) pe_str (oks (by decide +kernel)))
      (pss_one (ps_ret (ML.call hr out_cx (pa_cons (pv 3) (pa_cons (pv 4) pa_nil))))))))), ?_⟩
    unfold mPl at k
    refine ⟨_, rfl, r, ta, cs, e, rest, rfl, Rr, fun H1 s1 => ?_⟩
    have R1 := Rr.same s1
    cases h1 : see "|" rest with
    | true =>
      rw [if_pos h1] at k
      refine iteT ⟨_, rfl, r, ta, cs, e, rest, rfl, R1, ?_⟩
      cases hs : sk ("|\n" : Str).cps.toList rest with
      | none => simp only [hs] at k; exact got_none hs k
      | some x =>
        obtain ⟨_, t⟩ := x
        simp only [hs] at k
        refine got_some hs fun H2 R2 s2 => ⟨Nat.zero_le _, fun sa nsa x dx nx nd hne => ⟨x, dx, sa, 0, rfl, upd_same, fun H3 h3 s3 => ⟨rfl, ?_⟩⟩⟩
        have s02 : Sb r H H2 := s1.sb.trans s2
        obtain ⟨dr, p, ir⟩ := R2.ins
        have sv : Same H2 (upd H2 sa (.lst [])) := Same.upd nsa
        have sm : Same (upd H2 sa (.lst [])) H3 := fresh_same nx nd s3 Sb.refl
        refine k H3 x dx sa ((R2.same sv).same sm) (s02.trans (sv.trans sm).sb) (sb_new s02 ir nsa) h3 ⟨[], sm _ _ upd_same, .nil⟩
    | false =>
      rw [if_neg (by rw [h1]; decide)] at k
      refine iteF ⟨_, rfl, _, rfl, r, ta, cs, e, rest, b, rfl, R1, ?_⟩
      cases hl : mLn b rest with
      | none => simp only [hl] at k; exact got_none rfl k
      | some x =>
        obtain ⟨n, t⟩ := x
        simp only [hl] at k
        refine got_some rfl fun H2 R2 s2 => ⟨_, rfl, _, rfl, r, ta, cs, e, t, kd, rfl, R2, hcs, ?_⟩
        have s02 : Sb r H H2 := s1.sb.trans s2
        obtain ⟨dr2, p2, ir2⟩ := R2.ins
        cases hm : mSt kd t with
        | none => simp only [hm] at k; exact gots_none rfl k
        | some x =>
          obtain ⟨l, u⟩ := x
          simp only [hm] at k
          refine gots_some rfl fun H3 sa R3 s3 nsa L3 => ⟨_, rfl, r, ta, cs, e, u, rfl, R3, ?_⟩
          obtain ⟨dr3, p3, ir3⟩ := R3.ins
          cases hs : sk ("\n" : Str).cps.toList u with
          | none => simp only [hs] at k; exact got_none rfl k
          | some x =>
            obtain ⟨_, v⟩ := x
            simp only [hs] at k
            refine got_some rfl fun H4 R4 s4 => ⟨_, rfl, _, rfl, fun x dx nx nd hne => ⟨x, dx, sa, n, rfl, upd_same, fun H5 h5 s5 => ⟨rfl, ?_⟩⟩⟩
            have L4 := L3.sb s4 ir3
            have sm : Same H4 H5 := fresh_same nx nd s5 Sb.refl
            exact k H5 x dx sa (R4.same sm) (((s02.trans s3).trans s4).trans sm.sb) (sb_new s02 ir2 nsa) h5 ((Same.kp sm).lt L4)
end
theorem mLn_len {b n : Nat} {l t : List UInt8} (h : mLn b l = some (n, t)) : t.length < l.length := by
  unfold mLn at h
  split at h
  · split at h
    · cases h
    · cases hs : sk (" " : Str).cps.toList l with
      | none => rw [hs] at h; cases h
      | some x =>
        obtain ⟨_, y⟩ := x
        rw [hs] at h
        cases h
        have : t.length + 1 = l.length := sk_len hs
        omega
  · cases hp : pk zL l with
    | none => rw [hp] at h; cases h
    | some x =>
      obtain ⟨i, y⟩ := x
      have h1 := (pk_len hp).1
      simp only [hp] at h
      split at h
      · cases hs : sk ("." : Str).cps.toList y with
        | none => rw [hs] at h; cases h
        | some x =>
          obtain ⟨_, u⟩ := x
          have h2 : u.length + 1 = y.length := sk_len hs
          simp only [hs] at h
          cases hs2 : sk (" " : Str).cps.toList u with
          | none => rw [hs2] at h; cases h
          | some x =>
            obtain ⟨_, v⟩ := x
            have h3 : v.length + 1 = u.length := sk_len hs2
            simp only [hs2] at h
            split at h
            · cases h
            · cases h; omega
      · cases hs2 : sk (" " : Str).cps.toList y with
        | none => rw [hs2] at h; cases h
        | some x =>
          obtain ⟨_, v⟩ := x
          have h3 : v.length + 1 = y.length := sk_len hs2
          simp only [hs2] at h
          split at h
          · cases h
          · cases h; omega
theorem mBs_len {m : List UInt8 → Option (Nat × List UInt8)} (hm : ∀ {l t n}, m l = some (n, t) → t.length < l.length) : ∀ {f : Nat} {acc s : List Stop} {l t : List UInt8}, mBs m f acc l = some (s, t) → t.length ≤ l.length
  | 0, _, _, _, _, h => by rw [mBs] at h; cases h
  | f + 1, acc, s, l, t, h => by
    rw [mBs] at h
    split at h
    · cases hs : sk (" " : Str).cps.toList l with
      | none => rw [hs] at h; cases h
      | some x =>
        obtain ⟨_, y⟩ := x
        have h2 : y.length + 1 = l.length := sk_len hs
        simp only [hs] at h
        cases hq : m y with
        | none => rw [hq] at h; cases h
        | some x =>
          obtain ⟨b, u⟩ := x
          have h3 := hm hq
          simp only [hq] at h
          split at h
          · have := mBs_len hm h; omega
          · cases h
    · cases h; exact Nat.le_refl _
theorem mGl_len : ∀ {f : Nat} {acc s : List Stop} {l t : List UInt8}, mGl f acc l = some (s, t) → t.length ≤ l.length
  | 0, _, _, _, _, h => by rw [mGl] at h; cases h
  | f + 1, acc, s, l, t, h => by
    rw [mGl] at h
    cases hq : mGS l with
    | none => rw [hq] at h; cases h
    | some x =>
      obtain ⟨b, u⟩ := x
      have h3 := mGS_len hq
      simp only [hq] at h
      split at h
      · split at h
        · cases hs : sk (" " : Str).cps.toList u with
          | none => rw [hs] at h; cases h
          | some x =>
            obtain ⟨_, y⟩ := x
            have h2 : y.length + 1 = u.length := sk_len hs
            simp only [hs] at h
            have := mGl_len h
            omega
        · cases h; omega
      · cases h
theorem mSt_len {kd : Nat} {l t : List UInt8} {s : List Stop} (h : mSt kd l = some (s, t)) : t.length ≤ l.length := by
  unfold mSt at h
  split at h
  · unfold mFr at h
    cases hn : mNeck zF [1, 2, 3, 4, 5, 6] l with
    | none => rw [hn] at h; cases h
    | some x =>
      obtain ⟨q, y⟩ := x
      have h1 := (mNeck_len hn).1
      simp only [hn] at h
      have := mBs_len mFB_len h
      omega
  · split at h
    · unfold mIt at h
      cases hn : mNeck zI [6, 5, 4, 3, 2, 1] l with
      | none => rw [hn] at h; cases h
      | some x =>
        obtain ⟨q, y⟩ := x
        have h1 := (mNeck_len hn).1
        simp only [hn] at h
        have := mBs_len mBN_len h
        omega
    · unfold mGr at h
      split at h
      · cases hs : sk ("." : Str).cps.toList l with
        | none => rw [hs] at h; cases h
        | some x =>
          obtain ⟨_, y⟩ := x
          have h2 : y.length + 1 = l.length := sk_len hs
          simp only [hs] at h
          cases h
          omega
      · exact mGl_len h
theorem mPl_len {kd b : Nat} {l t : List UInt8} {p : Ln} (h : mPl kd b l = some (p, t)) : t.length < l.length := by
  unfold mPl at h
  split at h
  · cases hs : sk ("|\n" : Str).cps.toList l with
    | none => rw [hs] at h; cases h
    | some x =>
      obtain ⟨_, y⟩ := x
      have h2 : y.length + 2 = l.length := sk_len hs
      simp only [hs] at h
      cases h
      omega
  · cases hn : mLn b l with
    | none => rw [hn] at h; cases h
    | some x =>
      obtain ⟨n, y⟩ := x
      have h1 := mLn_len hn
      simp only [hn] at h
      cases hm : mSt kd y with
      | none => rw [hm] at h; cases h
      | some x =>
        obtain ⟨st, u⟩ := x
        have h2 := mSt_len hm
        simp only [hm] at h
        cases hs : sk ("\n" : Str).cps.toList u with
        | none => rw [hs] at h; cases h
        | some x =>
          obtain ⟨_, v⟩ := x
          have h3 : v.length + 1 = u.length := sk_len hs
          simp only [hs] at h
          cases h
          omega
end Lt
end
section
set_option Elab.async false
set_option linter.all false
set_option maxRecDepth 100000
set_option maxHeartbeats 400000
namespace Lt
open PySem PySem.Spec PyProof.Rows L2
def GotC (K : PySem.W.Frag) (CL CT : Addr) (H : Hp) (Q : VK) (E : XK) : Option (List Ln) → Prop
  | some ps => ∀ H' al, Same H H' → LnsA K CL H' al ps → Q (.ref al) H'
  | none => ∀ z : Int, E (.ref CT) none (xH [("place", .int z)])
theorem gotc_n {K : PySem.W.Frag} {CL CT : Addr} {H : Hp} {Q : VK} {E : XK} {res : Option (List Ln)} (k : GotC K CL CT H Q E res) (h : res = none) : ∀ z : Int, E (.ref CT) none (xH [("place", .int z)]) := by
  rw [h] at k; exact k
theorem gotc_s {K : PySem.W.Frag} {CL CT : Addr} {H : Hp} {Q : VK} {E : XK} {res : Option (List Ln)} {ps : List Ln} (k : GotC K CL CT H Q E res) (h : res = some ps) : ∀ H' al, Same H H' → LnsA K CL H' al ps → Q (.ref al) H' := by
  rw [h] at k; exact k
def spRP (K : PySem.W.Frag) (CL CT : Addr) : Sp := fun vs H Q E => ∃ (ta : Addr) (cs : List UInt8), vs = [.ref ta] ∧ SqL K H ta (cs.map cV) ∧ cs.length ≤ 100000 ∧ GotC K CL CT H Q E (mPc cs)
theorem lnf_ib (n : Int) (sa : Addr) : (lnf n sa).lookup ("is_bar" : Str) = none := lnf_no _ _ (by decide +kernel) (by decide +kernel)
def WPc (K : PySem.W.Frag) (C CL : Addr) (ta r al : Addr) (cs : List UInt8) (kd : Nat) (H : Hp) (M : Option (List Ln)) (m : Nat) (σ : L2.St) (H' : Hp) : Prop :=
  ∃ (rest : List UInt8) (acc : List Ln) (len g : Nat) (r5 : Option V), σ = [some (.ref ta), some (.ref r), some (.int (kd : Nat)), some (.ref al), some (.int (len : Nat)), r5] ∧ Same H H' ∧ Rd K C H' r ta cs cs.length rest ∧ LnsA K CL H' al acc ∧ acc.length ≤ 512 ∧
    M = mLs kd g acc len rest ∧ rest.length < g ∧ m = rest.length
section
variable {P : Program} {w : World} {K : PySem.W.Frag} {mg : Str → Option Value} {base : Heap} {C CL CT : Addr} {dz fz : Str}
theorem sc_pc : FnScope ["text", "reader", "kind", "lines", "length", "line"] ["text"] (defScope s_read_piece) := ⟨rfl, rfl, rfl, by decide +kernel, rfl, by decide +kernel, by decide +kernel⟩
theorem ok_pc {f : Addr} {fd : FuncData} (F : Fun K "read_piece" "read_piece" s_read_piece f fd) (B : Blt mg) (R : RdE P w K mg base C CT dz) (T : LnC K CL) (gm : GI mg "MOST_LINES" 512) (MB : Mth P w K mg base 1 CL "is_bar" ["self"] (spBar CL))
    (D1 : Def P w K mg base 5 "read_kind" ["reader"] (spOne K C CT (mKd kws 0) int_)) (D2 : Def P w K mg base 9 "read_line_pieces" ["reader", "kind", "before"] (spPl K C CL CT)) : FnOk P w K mg base (CX1 P w) 10 f fd ["text"] (spRP K CL CT) := by
  refine F.okx sc_pc (fun vs H Q E h => ?_) (fun cdv A outer s H vs Q E hr h => ?_)
  · obtain ⟨ta, cs, rfl, _⟩ := h
    rfl
  · obtain ⟨ta, cs, rfl, tx, hcs, k⟩ := h
    refine ⟨_, (pss_cons (ps_set (i := 1) sc_pc.nd rfl (Or.inl rfl) (R.mkr.call hr out_cx (pa_cons (pv 0) (pa_cons pe_int (pa_cons (pe_callB call_len_seq (by rfl) B.len PySem.boot_len (pa_cons (pv 0) pa_nil)) pa_nil)))))
      (pss_cons (ps_set (i := 2) sc_pc.nd rfl (Or.inl rfl) (pe_par D1 hr out_cx (pv 1)))
      (pss_cons (ps_set (i := 3) sc_pc.nd rfl (Or.inl rfl) (pe_lst pa_nil))
      (pss_cons (ps_set (i := 4) sc_pc.nd rfl (Or.inl rfl) pe_int)
      (pss_cons (ps_while PassesOwn.leaving (pt_not (pt_ended R hr out_cx (pv 1)))
        (pss_cons (ps_if (pt_cmpR op_eq (pe_callB call_len_seq (by rfl) B.len PySem.boot_len (pa_cons (pv 3) pa_nil)) (pe_gi gm) (nomark _)) (pss_one (ps_fault R.X1 hr out_cx rfl (pe_place R (pv 1)))) pss_nil)
      (pss_cons (ps_set (i := 5) sc_pc.nd rfl (Or.inl rfl) (D2.call hr out_cx (pa_cons (pv 1) (pa_cons (pv 2) (pa_cons (pv 4) pa_nil)))))
      (pss_cons (ps_if (pt_not (pt_val (MB.call0 (pv 5) hr out_cx))) (pss_one (ps_set (i := 4) sc_pc.nd rfl (Or.inl rfl) (pe_fld (pv 5) rfl))) pss_nil)
      (pss_one (ps_expr (pe_bm PySem.F.plainAttrs_list PySem.F.slot_list_append PySem.F.type_list_append mt_append (pv 3) (pa_cons (pv 5) pa_nil))))))))
      (pss_cons (ps_if (pt_cmpR op_eq (pv 4) pe_int (nomark _)) (pss_one (ps_fault R.X1 hr out_cx rfl (pe_callB call_len_seq (by rfl) B.len PySem.boot_len (pa_cons (pv 0) pa_nil)))) pss_nil)
      (pss_one (ps_ret (pv 3))))))))), ?_⟩
    refine ⟨V.ref ta, rfl, V.ref ta, rfl, ta, _, rfl, .inl tx, fun r dr nr nd hne => ⟨r, dr, ta, 0, _, rfl, upd_same, fun H1 h1 s1 => ⟨rfl, ?_⟩⟩⟩
    have sm1 : Same H H1 := fresh_same nr nd s1 Sb.refl
    have fin : ∀ {H2 : Hp}, Sb r H1 H2 → Same H H2 := fun s2 => fresh_same nr nd s1 s2
    have R1 : Rd K C H1 r ta cs cs.length cs := by
      refine ⟨⟨dr, 0, ?_, ?_, Nat.zero_le _⟩, sm1.seq tx, Nat.le_refl _⟩
      · rw [h1, List.length_map]; rfl
      · rw [List.take_length]; rfl
    unfold mPc at k
    refine ⟨V.ref r, rfl, r, ta, cs, cs.length, cs, rfl, R1, ?_⟩
    cases hl : mKd kws 0 cs with
    | none => exact got_none hl (gotc_n k (by rw [hl]))
    | some x =>
      obtain ⟨kd, t⟩ := x
      simp only [hl] at k
      refine got_some hl fun H2 R2 s2 => ⟨Nat.zero_le _, fun al nal => ?_⟩
      have sm2 := fin s2
      obtain ⟨M, hM⟩ : ∃ M, M = mLs kd (t.length + 1) [] 0 t := ⟨_, rfl⟩
      rw [← hM] at k
      have sv : Same H2 (upd H2 al (.lst [])) := Same.upd nal
      have nal0 : H al = none := by
        cases hq : H al with
        | none => rfl
        | some o => rw [sm2 al o hq] at nal; cases nal
      have ttx : ta ≠ al ∨ KTx K ta (cs.map cV) := tx_new tx nal0
      have nrb : ∀ {H' : Hp} {b : Addr} {o : HO}, H b = some o → b ≠ r := fun e => ne_of_none e nr
      refine ⟨WPc K C CL ta r al cs kd H M, ⟨t.length, t, [], 0, t.length + 1, none, rfl, sm2.trans sv, R2.same sv, ⟨[], upd_same, .nil⟩, by simp, hM, by omega, rfl⟩, ?_⟩
      rintro m σ H3 ⟨rest, acc, len, g, r5, rfl, s3, R3, L3, hacc, em, hg, rfl⟩
      obtain ⟨g, rfl⟩ : ∃ g', g = g' + 1 := ⟨g - 1, by omega⟩
      rw [mLs] at em
      refine ⟨V.ref r, rfl, r, ta, cs, cs.length, rest, rfl, R3, ?_⟩
      rcases Bool.eq_false_or_eq_true rest.isEmpty with he | he
      · rw [if_pos he] at em
        refine iteD (c := !rest.isEmpty) (by rw [he]; rfl) ⟨_, rfl, rfl, _, rfl, ite2 (fun h0 => ?_) (fun h0 => ?_)⟩
        · have e0 : len = 0 := by
            have q := of_decide_eq_true h0
            injection q with q
            omega
          rw [if_pos e0] at em
          exact ⟨V.ref ta, rfl, ta, _, rfl, .inl (s3.seq tx), _, rfl, gotc_n k em _⟩
        · have e0 : ¬ len = 0 := fun q => h0 (decide_eq_true (by rw [q]; rfl))
          rw [if_neg e0] at em
          exact ⟨V.ref al, rfl, gotc_s k em H3 al s3 L3⟩
      · rw [if_neg (by rw [he]; decide)] at em
        refine iteC (c := !rest.isEmpty) (by rw [he]; rfl) ?_
        obtain ⟨as, a1, a2⟩ := id L3
        have la : as.length = acc.length := Paired.length a2
        refine ⟨_, fun _ _ q => q, V.ref al, rfl, al, _, rfl, .inl (SqL.of a1), rfl, _, rfl, ite2 (fun h0 => ?_) (fun h0 => ?_)⟩
        · have e0 : acc.length = 512 := by
            have q := of_decide_eq_true h0
            injection q with q
            rw [List.length_map] at q
            omega
          rw [if_pos e0] at em
          exact ⟨V.ref r, rfl, r, ta, cs, cs.length, rest, rfl, R3, fun z => ⟨z, rfl, gotc_n k em z⟩⟩
        · have e0 : ¬ acc.length = 512 := fun q => h0 (decide_eq_true (by rw [List.length_map, la, q]; rfl))
          rw [if_neg e0] at em
          refine ⟨V.ref r, rfl, V.int (kd : Nat), rfl, V.int (len : Nat), rfl, r, ta, cs, cs.length, rest, kd, len, rfl, R3, hcs, ?_⟩
          obtain ⟨dr3, p3, ir3⟩ := R3.ins
          cases hm : mPl kd len rest with
          | none => simp only [hm] at em; exact gotp_none rfl (gotc_n k em)
          | some x =>
            obtain ⟨⟨n, st⟩, u⟩ := x
            simp only [hm] at em
            have hlt := mPl_len hm
            refine gotp_some rfl fun H4 x dx sa R4 s4 nsa h4 Lx => ?_
            have L4 := L3.sb s4 ir3
            obtain ⟨as4, b1, b2⟩ := id L4
            have lb : as4.length = acc.length := Paired.length b2
            have nsal : sa ≠ al := fun q => by rw [q, a1] at nsa; cases nsa
            have s04 : Same H H4 := fun b o e => s4 b o (s3 b o e) (ne_of_none e nr)
            have tail : ∀ len' : Nat, M = mLs kd g (acc ++ [(n, st)]) len' u → (tDrop (tBM K "list" rAppend (tVar 3) (tCons (tVar 5) tNil))) { nx := fun σ' H' => ∃ m', m' < rest.length ∧ WPc K C CL ta r al cs kd H M m' σ' H', rt := Q } [some (.ref ta), some (.ref r), some (.int (kd : Nat)), some (.ref al), some (.int (len' : Nat)), some (.ref x)] H4 := by
              intro len' em'
              refine ⟨V.ref al, rfl, .inl ⟨rfl, _, SqL.of b1⟩, V.ref x, rfl, al, _, _, rfl, rfl, b1, ?_, ?_⟩
              · rw [List.length_map, lb, sizeLine_eq]; omega
              · have su : Sb al H4 (upd H4 al (.lst (as4.map V.ref ++ [.ref x]))) := fun b o eb hb => by rw [upd_ne hb]; exact eb
                refine ⟨u.length, hlt, u, acc ++ [(n, st)], len', g, _, rfl, ?_, R4.app b1 ttx su, ⟨as4 ++ [x], by rw [upd_same, List.map_append]; rfl, ?_⟩, ?_, em', by omega, rfl⟩
                · exact fun b o e => su b o (s04 b o e) (ne_of_none e nal0)
                · exact paired_snoc (F := fun x p => LnB K CL al _ x p) (LnB.app (q := (n, st)) ⟨dx, sa, nsal, h4, Lx⟩ su b1) (paired_mono b2 fun _ _ q => q.app su b1)
                · rw [List.length_append]; simp; omega
            refine ⟨V.ref x, rfl, x, dx, _, rfl, h4, lnf_ib _ _, x, dx, sa, (n : Nat), rfl, h4, _, rfl, ?_⟩
            by_cases hn : n = 0
            · rw [if_pos hn] at em
              refine iteD (c := !decide (((n : Nat) : Int) = 0)) (by rw [hn]; rfl) (tail len em)
            · rw [if_neg hn] at em
              refine iteC (c := !decide (((n : Nat) : Int) = 0)) (by rw [decide_eq_false (by omega)]; rfl) ⟨V.ref x, rfl, x, CL, dx, _, _, rfl, h4, T.cl, T.nl, lnf_l _ _, tail n em⟩
end
end Lt
end
section
set_option Elab.async false
set_option linter.all false
set_option maxRecDepth 100000
set_option maxHeartbeats 400000
namespace Lt
open PySem PySem.Spec PyProof.Rows L2
def plc (fr co ba : List (List Int)) (s : Stop) : Bool := if s.course ≤ co.length then decide (s.fret ≤ fr.length) else decide (s.course ≤ co.length + ba.length) && decide (s.fret = 0)
def mMis (pl : Stop → Bool) : Nat → List Ln → Option (Nat × Nat)
  | _, [] => none
  | i, (_, st) :: r => match st.find? fun s => !pl s with
    | some s => some (i, s.course)
    | none => mMis pl (i + 1) r
def mfs (l c : Int) : List (Str × V) := [("answer", .int (-3)), ("line", .int l), ("course", .int c)]
def GotF (CM : Addr) (H : Hp) (Q : VK) (E : XK) : Option (Nat × Nat) → Prop
  | none => ∀ H', Same H H' → Q .non H'
  | some (l, c) => E (.ref CM) none (xH (mfs (l : Nat) (c : Nat)))
def spChk (K : PySem.W.Frag) (CI CL CM : Addr) : Sp := fun vs H Q E => ∃ (ia af ac ab al : Addr) (fr co ba : List (List Int)) (ps : List Ln), vs = [.ref ia, .ref al] ∧ InA K CI H ia af ac ab fr co ba ∧ LnsA K CL H al ps ∧ GotF CM H Q E (mMis (plc fr co ba) 0 ps)
def spCnt (K : PySem.W.Frag) (CL : Addr) : Sp := fun vs H Q _ => ∃ (al : Addr) (ps : List Ln), vs = [.ref al] ∧ LnsA K CL H al ps ∧ ps.length ≤ 1000 ∧ ∀ H', Same H H' → Q (.int (ps.map fun p => (p.2.length : Int)).sum) H'
def spSz (K : PySem.W.Frag) (C2 : Addr) : Sp := fun vs H Q E => ∃ (ia ta : Addr) (xs ys : List V), vs = [.ref ia, .ref ta] ∧ SqL K H ia xs ∧ SqL K H ta ys ∧ (if 4096 < xs.length ∨ 65536 < ys.length then E (.ref C2) none (xH [("answer", .int (-2))]) else Q .non H)
theorem ifs_hp (af ac ab : Addr) : (ifs af ac ab).lookup ("has_place" : Str) = none := ifs_no _ _ _ (by decide +kernel) (by decide +kernel) (by decide +kernel)
theorem gotf_n {CM : Addr} {H : Hp} {Q : VK} {E : XK} {res : Option (Nat × Nat)} (k : GotF CM H Q E res) (h : res = none) : ∀ H', Same H H' → Q .non H' := by rw [h] at k; exact k
theorem mMis_skip {pl : Stop → Bool} : ∀ {ps : List Ln} {i j : Nat}, j ≤ ps.length → (∀ (m : Nat) (p : Ln), m < j → ps[m]? = some p → (p.2.find? fun s => !pl s) = none) → mMis pl i ps = mMis pl (i + j) (ps.drop j)
  | ps, i, 0, _, _ => by rw [List.drop_zero]; rfl
  | [], i, j + 1, h, _ => by simp at h
  | (n, st) :: ps, i, j + 1, h, hq => by
    have h0 := hq 0 (n, st) (by omega) rfl
    rw [mMis, h0]
    have := mMis_skip (pl := pl) (ps := ps) (i := i + 1) (j := j) (by simpa using h) fun m p hm hp => hq (m + 1) p (by omega) (by simpa using hp)
    rw [List.drop_succ_cons, show i + (j + 1) = i + 1 + j by omega]
    exact this
theorem call_len_seqK {X : Cx} (K : PySem.W.Frag) (h : X.K = K := by rfl) : CallR X (.builtin "len") (fun xs H Q => ∃ p ys, xs = [.ref p] ∧ (SqL K H p ys ∨ SqT K H p ys) ∧ Q (.int ys.length) H) := h ▸ call_len_seq
theorem pe_fldK {X : Cx} {e : Expr} {ta : TE} {fld : Str} {pos : Pos} (K : PySem.W.Frag) (he : PE X e ta) (h : X.K = K := by rfl) (hb : attributeBase e fld X.env (eval e X.env) = eval e X.env := by rfl) : PE X (.Attribute e fld pos) (tFld K ta fld) := h ▸ pe_fld he hb
section
variable {P : Program} {w : World} {K : PySem.W.Frag} {mg : Str → Option Value} {base : Heap} {C CI CL CM CT : Addr} {dz fz : Str}
theorem sc_ck : FnScope ["instrument", "lines", "number", "line", "stop"] ["instrument", "lines"] (defScope s_check_fit) := ⟨rfl, rfl, rfl, by decide +kernel, rfl, by decide +kernel, by decide +kernel⟩
theorem ok_ck {f : Addr} {fd : FuncData} (F : Fun K "check_fit" "check_fit" s_check_fit f fd) (B : Blt mg) (T : InC K CI) (TL : LnC K CL) (MH : Mth P w K mg base 2 CI "has_place" ["self", "course", "fret"] (spHP K CI)) (XM : XMr P w K mg base 2 CM "Misfit" ["self", "line", "course"] (spMf CM)) :
    FnOk P w K mg base (CX1 P w) 4 f fd ["instrument", "lines"] (spChk K CI CL CM) := by
  refine F.okx sc_ck (fun vs H Q E h => ?_) (fun cdv A outer s H vs Q E hr h => ?_)
  · obtain ⟨ia, af, ac, ab, al, fr, co, ba, ps, rfl, _⟩ := h
    rfl
  · obtain ⟨ia, af, ac, ab, al, fr, co, ba, ps, rfl, I, L, k⟩ := h
    refine ⟨_, (pss_one (ps_for PassesOwn.leaving rfl (pi_enum (by rfl) B.enum (pa_cons (pv 1) pa_nil)) (pg_tup rfl (pgs_cons (pg_name (i := 2) sc_ck.nd rfl (Or.inl rfl)) (pgs_cons (pg_name (i := 3) sc_ck.nd rfl (Or.inl rfl)) pgs_nil)))
        (pss_one (ps_for PassesOwn.leaving rfl (pi_list (pe_fld (pv 3) rfl)) (pg_name (i := 4) sc_ck.nd rfl (Or.inl rfl))
          (pss_one (ps_if (pt_not (pt_val (MH.call (pv 0) hr out_cx (pa_cons (pe_ix (ix_tupK K) (pv 4) pe_int (fun _ _ => rfl)) (pa_cons (pe_ix (ix_tupK K) (pv 4) pe_int (fun _ _ => rfl)) pa_nil)))))
            (pss_one (ps_raise out_cx rfl (XM.call hr.u out_cx (pa_cons (pv 2) (pa_cons (pe_ix (ix_tupK K) (pv 4) pe_int (fun _ _ => rfl)) pa_nil))))) pss_nil)))))), ?_⟩
    obtain ⟨as, a1, a2⟩ := id L
    have la : as.length = ps.length := Paired.length a2
    obtain ⟨M, hM⟩ : ∃ M, M = mMis (plc fr co ba) 0 ps := ⟨_, rfl⟩
    rw [← hM] at k
    obtain ⟨dx, i1⟩ := I.at_
    refine ⟨V.ref al, rfl, al, _, rfl, SqL.of a1, for_any (n := ps.length) (fun i σ H' => Same H H' ∧ (∃ r2 r3 r4, σ = [some (.ref ia), some (.ref al), r2, r3, r4]) ∧ ∀ (m : Nat) (p : Ln), m < i → ps[m]? = some p → (p.2.find? fun s => !plc fr co ba s) = none) ⟨Same.refl _, ⟨none, none, none, rfl⟩, fun m p hm => by omega⟩ ?_ ?_ ?_ ?_⟩
    · rintro i σ H' hi ⟨s1, _⟩
      exact ⟨_, .ref (as[i]'(by omega)), SqL.of (s1 _ _ a1), by rw [List.getElem?_map, List.getElem?_eq_getElem (by omega)]; rfl⟩
    · rintro σ H' ⟨s1, _⟩
      exact ⟨_, SqL.of (s1 _ _ a1), by rw [List.length_map, la]; exact Nat.le_refl _⟩
    · rintro i v σ H1 H2 hi ⟨s1, ⟨r2, r3, r4, rfl⟩, hall⟩ ⟨T', xv, rfl, nT, rfl, hxv⟩
      have hxv' := hxv _ (SqL.of (s1 _ _ a1))
      rw [List.getElem?_map] at hxv'
      cases ea : as[i]? with
      | none => rw [ea] at hxv'; cases hxv'
      | some x =>
        rw [ea] at hxv'
        cases hxv'
        obtain ⟨p, hp, dl, sa, _, hx, Ls⟩ := paired_at a2 ea
        obtain ⟨n, st⟩ := p
        have s2 : Same H (upd H1 T' (.tup [.int (i : Nat), .ref x])) := s1.trans (Same.upd nT)
        have hx2 := s2 _ _ hx
        have Ls2 := (Same.kp s2).lt Ls
        obtain ⟨bs, b1, b2⟩ := id Ls2
        have lb : bs.length = st.length := by rw [Paired.length b2, List.length_map]
        have hlt : i < ps.length := hi
        have eM : M = mMis (plc fr co ba) i ((n, st) :: ps.drop (i + 1)) := by
          rw [hM, mMis_skip (i := 0) (j := i) (by omega) hall, Nat.zero_add, List.drop_eq_getElem_cons hlt, (List.getElem?_eq_some_iff.mp hp).2]
        refine ⟨T', _, rfl, SqT.of upd_same, rfl, _, _, rfl, _, _, rfl, rfl, ?_⟩
        refine ⟨V.ref x, rfl, x, CL, dl, _, _, rfl, hx2, TL.cl, TL.ns, lnf_s _ _, sa, rfl, ⟨_, SqL.of b1⟩, for_list (K := K) (a := sa) (xs := bs.map V.ref) (fun j σ H' => Same (upd H1 T' (.tup [.int (i : Nat), .ref x])) H' ∧ (∃ r4, σ = [some (.ref ia), some (.ref al), some (.int (i : Nat)), some (.ref x), r4]) ∧ ∀ s ∈ st.take j, plc fr co ba s = true) ⟨Same.refl _, ⟨_, rfl⟩, by simp⟩ ?_ ?_ ?_⟩
        · rintro j σ H' _ ⟨s3, _⟩
          exact SqL.of (s3 _ _ b1)
        · rintro j y σ H3 hj ⟨s3, ⟨r4, rfl⟩, ha⟩
          rw [List.getElem?_map] at hj
          cases eb : bs[j]? with
          | none => rw [eb] at hj; cases hj
          | some b =>
            rw [eb] at hj
            cases hj
            obtain ⟨q, hq, hb⟩ := paired_at b2 eb
            rw [List.getElem?_map] at hq
            cases es : st[j]? with
            | none => rw [es] at hq; cases hq
            | some s =>
              rw [es] at hq
              cases hq
              have s23 := s2.trans s3
              have I3 := I.kp (Same.kp s23)
              have i3 := s23 _ _ i1
              have hb3 := s3.tup hb
              refine ⟨V.ref ia, rfl, ia, dx, _, rfl, i3, ifs_hp _ _ _, V.ref b, rfl, b, _, 0, V.int (s.course : Nat), rfl, rfl, hb3, rfl, V.ref b, rfl, b, _, 1, V.int (s.fret : Nat), rfl, rfl, hb3, rfl, ia, af, ac, ab, fr, co, ba, (s.course : Nat), (s.fret : Nat), rfl, I3, _, rfl, ?_⟩
              have ep : (if ((s.course : Nat) : Int) ≤ co.length then decide (((s.fret : Nat) : Int) ≤ fr.length) else decide (((s.course : Nat) : Int) ≤ ((co.length + ba.length : Nat) : Int)) && decide (((s.fret : Nat) : Int) = 0)) = plc fr co ba s := by
                unfold plc
                by_cases hc : s.course ≤ co.length
                · rw [if_pos hc, if_pos (by omega), decide_eq_decide]; omega
                · rw [if_neg hc, if_neg (by omega)]
                  congr 1
                  · rw [decide_eq_decide]; omega
                  · rw [decide_eq_decide]; omega
              rw [ep]
              cases hpl : plc fr co ba s with
              | true =>
                refine iteF ⟨s3, ⟨_, rfl⟩, fun s' hs' => ?_⟩
                rw [List.take_add_one, es] at hs'
                rcases List.mem_append.mp hs' with hs' | hs'
                · exact ha s' hs'
                · have : s' = s := by simpa using hs'
                  rw [this]; exact hpl
              | false =>
                have ef : (st.find? fun s => !plc fr co ba s) = some s := by
                  have hj' : j < st.length := (List.getElem?_eq_some_iff.mp es).1
                  have ed : st = st.take j ++ s :: st.drop (j + 1) := by
                    rw [← (List.getElem?_eq_some_iff.mp es).2, ← List.drop_eq_getElem_cons hj', List.take_append_drop]
                  rw [ed, List.find?_append]
                  have e0 : ((st.take j).find? fun s => !plc fr co ba s) = none := by
                    rw [List.find?_eq_none]
                    intro s' hs'
                    rw [ha s' hs']
                    decide
                  rw [e0, Option.none_or, List.find?_cons_of_pos (by rw [hpl]; rfl)]
                rw [eM, mMis, ef] at k
                refine iteT ⟨V.int (i : Nat), rfl, V.ref b, rfl, b, _, 0, V.int (s.course : Nat), rfl, rfl, hb3, rfl, (by show 2 ≤ 100; decide), fun a ha' => ⟨a, (i : Nat), (s.course : Nat), rfl, upd_same, fun H4 ⟨⟨d, dn, d0, e1, e2⟩, _⟩ => ⟨rfl, a, CM, _, rfl, ⟨d, dn, e1, e2⟩, XM.2.1, k⟩⟩⟩
        · rintro σ H3 ⟨s3, ⟨r4, rfl⟩, ha⟩
          refine ⟨s2.trans s3, ⟨_, _, _, rfl⟩, fun m q hm hq => ?_⟩
          by_cases hmi : m = i
          · subst hmi
            rw [hp] at hq
            cases hq
            rw [List.length_map, lb, List.take_length] at ha
            rw [List.find?_eq_none]
            intro s' hs'
            rw [ha s' hs']
            decide
          · exact hall m q (by omega) hq
    · rintro σ H1 ⟨s1, ⟨r2, r3, r4, rfl⟩, hall⟩
      refine gotf_n k ?_ H1 s1
      rw [hM, mMis_skip (i := 0) (j := ps.length) (Nat.le_refl _) hall, List.drop_length]
      rfl
theorem sc_cnt : FnScope ["lines", "line"] ["lines"] (defScope s_count_notes) := ⟨rfl, rfl, rfl, by decide +kernel, rfl, by decide +kernel, by decide +kernel⟩
theorem blk_cnt : BlkOk ["lines", "line"] (defScope s_count_notes) (lcScope (rhs ((defBody s_count_notes).getD 0 (.Pass ⟨0, 0, 0, 0⟩)))) [("line", 1)] := ⟨rfl, by decide +kernel, by decide +kernel, by decide +kernel, by decide +kernel⟩
theorem boot_sum' : bootBuiltins "sum" = some (.builtin "sum") := by decide +kernel
theorem ok_cnt {f : Addr} {fd : FuncData} (F : Fun K "count_notes" "count_notes" s_count_notes f fd) (B : Blt mg) (TL : LnC K CL) : FnOk P w K mg base (CX1 P w) 1 f fd ["lines"] (spCnt K CL) := by
  refine F.okx sc_cnt (fun vs H Q E h => ?_) (fun cdv A outer s H vs Q E hr h => ?_)
  · obtain ⟨al, ps, rfl, _⟩ := h
    rfl
  · obtain ⟨al, ps, rfl, L, hl, k⟩ := h
    refine ⟨_, (pss_one (ps_ret (pe_callB (cr_sum rfl) (by rfl) B.sum boot_sum' (pa_cons (pe_lcN (own := [("line", 1)]) rfl sc_cnt.nd (pi_list (pv 0)) blk_cnt (fun _ _ _ _ _ => pg_name (i := 1) sc_cnt.nd rfl (Or.inl rfl)) (fun _ _ _ _ _ => pts_nil)
        (fun _ _ _ _ _ => pe_callB (call_len_seqK K) (by rfl) B.len PySem.boot_len (pa_cons (pe_fldK K (pv 1)) pa_nil))) pa_nil)))), ?_⟩
    obtain ⟨as, a1, a2⟩ := id L
    have la : as.length = ps.length := Paired.length a2
    refine ⟨V.ref al, rfl, al, rfl, ⟨_, SqL.of a1⟩, fun D nD => lc_any (n := ps.length) (fun i H' => H' = upd H D (.lst (((ps.take i).map fun p => (p.2.length : Int)).map V.int))) (by simp) (fun i H' hi e => ?_) (fun H' e => ?_) ?_ ?_⟩
    · subst e
      have n : al ≠ D := ne_of_none a1 nD
      exact ⟨_, .ref (as[i]'(by omega)), SqL.of (by rw [upd_ne n]; exact a1), by rw [List.getElem?_map, List.getElem?_eq_getElem (by omega)]; rfl⟩
    · subst e
      have n : al ≠ D := ne_of_none a1 nD
      exact ⟨_, SqL.of (by rw [upd_ne n]; exact a1), by rw [List.length_map, la]; exact Nat.le_refl _⟩
    · rintro i v H1 H2 hi rfl ⟨rfl, hy⟩
      have n : al ≠ D := ne_of_none a1 nD
      have s1 : Same H (upd H D (.lst (((ps.take i).map fun p => (p.2.length : Int)).map V.int))) := Same.upd nD
      have hv := hy _ (SqL.of (s1 _ _ a1))
      rw [List.getElem?_map] at hv
      cases ea : as[i]? with
      | none => rw [ea] at hv; cases hv
      | some x =>
        rw [ea] at hv
        cases hv
        obtain ⟨p, hp, dl, sa, _, hx, Ls⟩ := paired_at a2 ea
        obtain ⟨y1, q1, l1⟩ := ((Same.kp s1).lt Ls).len
        rw [List.length_map] at l1
        refine ⟨rfl, ?_⟩
        refine ⟨V.ref x, rfl, x, CL, dl, _, _, rfl, s1 _ _ hx, TL.cl, TL.ns, lnf_s _ _, sa, y1, rfl, .inl q1, _, upd_same, ?_, ?_⟩
        · rw [List.length_map, List.length_map, List.length_take, sizeLine_eq]; omega
        · funext b
          by_cases hb : b = D
          · subst hb
            rw [upd_same, upd_same, List.take_add_one, hp, List.map_append, List.map_append, l1]
            rfl
          · rw [upd_ne hb, upd_ne hb, upd_ne hb]
    · rintro H1 rfl
      rw [List.take_length]
      exact ⟨D, _, rfl, SqL.of upd_same, k _ (Same.upd nD)⟩
theorem sc_sz : FnScope ["i", "t"] ["i", "t"] (defScope s_check_sizes) := ⟨rfl, rfl, rfl, by decide +kernel, rfl, by decide +kernel, by decide +kernel⟩
theorem ok_sz {C2 : Addr} {f : Addr} {fd : FuncData} (F : Fun K "check_sizes" "check_sizes" s_check_sizes f fd) (B : Blt mg) (g1 : GI mg "MOST_INSTRUMENT_BYTES" 4096) (g2 : GI mg "MOST_PIECE_BYTES" 65536) (X2 : XMr P w K mg base 2 C2 "TooLong" ["self"] (spR0 C2 (-2))) :
    FnOk P w K mg base (CX1 P w) 4 f fd ["i", "t"] (spSz K C2) := by
  refine F.okx sc_sz (fun vs H Q E h => ?_) (fun cdv A outer s H vs Q E hr h => ?_)
  · obtain ⟨ia, ta, xs, ys, rfl, _⟩ := h
    rfl
  · obtain ⟨ia, ta, xs, ys, rfl, hx, hy, k⟩ := h
    refine ⟨_, (pss_one (ps_if (pw_or (pt_cmpR op_gt (pe_callB call_len_seq (by rfl) B.len PySem.boot_len (pa_cons (pv 0) pa_nil)) (pe_gi g1) (nomark _)) (pw_or1 (pt_cmpR op_gt (pe_callB call_len_seq (by rfl) B.len PySem.boot_len (pa_cons (pv 1) pa_nil)) (pe_gi g2) (nomark _)))).pt
        (pss_one (ps_raise out_cx rfl (X2.call0 hr.u out_cx))) pss_nil)), ?_⟩
    have fail : (4096 < xs.length ∨ 65536 < ys.length) → ∀ H', (tRaise K E (tXMake C2 (spR0 C2 (-2)) E tNil)) { nx := fun _ H' => Q .non H', rt := Q } [some (.ref ia), some (.ref ta)] H' := fun hq H' => by
      rw [if_pos hq] at k
      refine ⟨by show 0 ≤ 100; decide, fun a ha => ⟨a, rfl, upd_same, fun H4 ⟨⟨d, dn, d0, e1, e2⟩, _⟩ => ⟨rfl, a, C2, _, rfl, ⟨d, dn, e1, e2⟩, X2.2.1, k⟩⟩⟩
    refine ⟨V.ref ia, rfl, ia, xs, rfl, .inl hx, _, _, rfl, rfl, _, rfl, ite2 (fun h0 => ?_) (fun h0 => ?_)⟩
    · have q : 4096 < xs.length := by have : (4096 : Int) < (xs.length : Int) := by simpa using h0
                                      omega
      exact iteT (fail (.inl q) _)
    · have q : ¬ 4096 < xs.length := by have : ¬ (4096 : Int) < (xs.length : Int) := by simpa using h0
                                        omega
      refine ⟨V.ref ta, rfl, ta, ys, rfl, .inl hy, _, _, rfl, rfl, _, rfl, ite2 (fun h1 => ?_) (fun h1 => ?_)⟩
      · have q2 : 65536 < ys.length := by have : (65536 : Int) < (ys.length : Int) := by simpa using h1
                                          omega
        exact fail (.inr q2) _
      · have q2 : ¬ 65536 < ys.length := by have : ¬ (65536 : Int) < (ys.length : Int) := by simpa using h1
                                            omega
        rw [if_neg (by rintro (z | z); exact q z; exact q2 z)] at k
        exact k
end
end Lt
end
section
set_option Elab.async false
set_option linter.all false
set_option maxRecDepth 100000
set_option maxHeartbeats 400000
namespace L2
open PySem PySem.Spec PyProof.Rows
/-- except C: suite, which may raise -/
theorem ph_consO {X : Cx} {x : Str} {Ch : Addr} {np pos : Pos} {b0 : Stmt} {suite : List Stmt} {rest : List ExceptHandler} {tb : Addr → TS} {tr : TH} (hg : Gl X x) (hm : X.mg x = some (.ref Ch)) (hs : ∀ a, X.Ok → PSs (X.hd a) (b0 :: suite) (tb a)) (hr : PH X rest tr) (hd : (x == ("__debug__" : Str)) = false := by decide) :
    PH X (.ExceptHandler (some (.Name x np)) none (b0 :: suite) pos :: rest) (tHand X.K Ch tb tr) := by
  intro pins s σ H D a C fs cx I n h
  exact ph_cons hg hm (fun a => hs a I.ok) hr hd pins s σ H D a C fs cx I n h
end L2
namespace Lt
open PySem PySem.Spec PyProof.Rows L2
theorem xH_inj {fs gs : List (Str × V)} (h : xH fs = xH gs) : fs = gs := by
  have := congrFun h 0
  unfold xH at this
  simp at this
  exact this
def GotN2 (K : PySem.W.Frag) (CI C6 : Addr) (H : Hp) (Q : VK) (E : XK) : Option St3 → Prop
  | some (fr, co, ba) => ∀ H' ia af ac ab, Same H H' → InA K CI H' ia af ac ab fr co ba → Q (.ref ia) H'
  | none => ∀ b : Addr, E (.ref C6) (some b) (xH [("answer", .int (-6))])
def spIO (K : PySem.W.Frag) (CI C6 : Addr) (dz fz : Str) : Sp := fun vs H Q E => ∃ (ta : Addr) (cs : List UInt8), vs = [.ref ta] ∧ SqL K H ta (cs.map cV) ∧ GotN2 K CI C6 H Q E (mInst dz fz cs)
def GotC2 (K : PySem.W.Frag) (CL C8 : Addr) (H : Hp) (Q : VK) (E : XK) : Option (List Ln) → Prop
  | some ps => ∀ H' al, Same H H' → LnsA K CL H' al ps → Q (.ref al) H'
  | none => ∀ b : Addr, E (.ref C8) (some b) (xH [("answer", .int (-8))])
def spPO (K : PySem.W.Frag) (CL C8 : Addr) : Sp := fun vs H Q E => ∃ (ta : Addr) (cs : List UInt8), vs = [.ref ta] ∧ SqL K H ta (cs.map cV) ∧ cs.length ≤ 100000 ∧ GotC2 K CL C8 H Q E (mPc cs)
theorem pe_xfldK {X : Cx} {e : Expr} {ta : TE} {fld : Str} {pos : Pos} (K : PySem.W.Frag) (he : PE X e ta) (h : X.K = K := by rfl) (hb : attributeBase e fld X.env (eval e X.env) = eval e X.env := by rfl) : PE X (.Attribute e fld pos) (tXFld K ta fld) := h ▸ pe_xfld he hb
section
variable {P : Program} {w : World} {K : PySem.W.Frag} {mg : Str → Option Value} {base : Heap} {C CI CL CM CT C6 C8 : Addr} {dz fz : Str}
theorem sc_io : FnScope ["text"] ["text"] (defScope s_instrument_of) := ⟨rfl, rfl, rfl, by decide +kernel, rfl, by decide +kernel, by decide +kernel⟩
theorem ok_io {f : Addr} {fd : FuncData} (F : Fun K "instrument_of" "instrument_of" s_instrument_of f fd) (hmT : mg "TextFault" = some (.ref CT)) (hx : PySem.W.exmOne K (.ref CT) (.ref CT) = some true) (D1 : Def P w K mg base 12 "read_instrument" ["text"] (spRIn K CI CT dz fz))
    (X6 : XMr P w K mg base 2 C6 "NoInstrument" ["self"] (spR0 C6 (-6))) : FnOk P w K mg base (CX1 P w) 13 f fd ["text"] (spIO K CI C6 dz fz) := by
  refine F.okx sc_io (fun vs H Q E h => ?_) (fun cdv A outer s H vs Q E hr h => ?_)
  · obtain ⟨ta, cs, rfl, _⟩ := h
    rfl
  · obtain ⟨ta, cs, rfl, tx, k⟩ := h
    refine ⟨_, (pss_one (ps_try (Eb := fun v cx _ => v = .ref CT ∧ cx = none ∧ mInst dz fz cs = none) rfl rfl (fun pn E' o => (pss_one (ps_ret (D1.call hr o (pa_cons (pv 0) pa_nil)))))
        (ph_consO (by rfl) hmT (fun a ok => (pss_one (ps_raiseFrom (b := a) (Out.hd out_cx ok rfl rfl) rfl (X6.call0 (hr.u.mark _) (Out.hd out_cx ok rfl rfl))))) ph_nil))), ?_⟩
    refine ⟨⟨V.ref ta, rfl, ta, cs, rfl, tx, ?_⟩, fun a C' fs cx σ' H1 nt eb hl => ?_⟩
    · cases hm : mInst dz fz cs with
      | none => exact fun z => ⟨rfl, rfl, rfl⟩
      | some x =>
        obtain ⟨fr, co, ba⟩ := x
        rw [hm] at k
        exact k
    · obtain ⟨eC, rfl, hm⟩ := eb
      have eC' : C' = CT := by injection eC
      subst eC'
      refine ⟨true, hx, fun _ H2 n2 => ?_, fun q => by cases q⟩
      obtain ⟨T, dd, n1, n3, n4, ea, ed, et⟩ := n2
      refine ⟨by show 0 ≤ 100; decide, fun a' ha' => ⟨a', rfl, upd_same, fun H4 ⟨⟨d, dn, d0, e1, e2⟩, kp⟩ => ⟨rfl, a', C6, _, rfl, ⟨d, dn, e1, e2⟩, X6.2.1, ?_, ⟨C', _, _, kp a _ (by rw [upd_ne (ne_of_none ea ha')]; exact ea) (ne_of_none ea ha')⟩, ?_⟩⟩⟩
      · exact Ne.symm (ne_of_none ea ha')
      · rw [hm] at k
        exact k a
theorem sc_po : FnScope ["text"] ["text"] (defScope s_piece_of) := ⟨rfl, rfl, rfl, by decide +kernel, rfl, by decide +kernel, by decide +kernel⟩
theorem ok_po {f : Addr} {fd : FuncData} (F : Fun K "piece_of" "piece_of" s_piece_of f fd) (hmT : mg "TextFault" = some (.ref CT)) (hx : PySem.W.exmOne K (.ref CT) (.ref CT) = some true) (D1 : Def P w K mg base 10 "read_piece" ["text"] (spRP K CL CT))
    (X8 : XMr P w K mg base 2 C8 "NoPiece" ["self"] (spR0 C8 (-8))) : FnOk P w K mg base (CX1 P w) 13 f fd ["text"] (spPO K CL C8) := by
  refine F.okx sc_po (fun vs H Q E h => ?_) (fun cdv A outer s H vs Q E hr h => ?_)
  · obtain ⟨ta, cs, rfl, _⟩ := h
    rfl
  · obtain ⟨ta, cs, rfl, tx, hcs, k⟩ := h
    refine ⟨_, (pss_one (ps_try (Eb := fun v cx _ => v = .ref CT ∧ cx = none ∧ mPc cs = none) rfl rfl (fun pn E' o => (pss_one (ps_ret (D1.call hr o (pa_cons (pv 0) pa_nil)))))
        (ph_consO (by rfl) hmT (fun a ok => (pss_one (ps_raiseFrom (b := a) (Out.hd out_cx ok rfl rfl) rfl (X8.call0 (hr.u.mark _) (Out.hd out_cx ok rfl rfl))))) ph_nil))), ?_⟩
    refine ⟨⟨V.ref ta, rfl, ta, cs, rfl, tx, hcs, ?_⟩, fun a C' fs cx σ' H1 nt eb hl => ?_⟩
    · cases hm : mPc cs with
      | none => exact fun z => ⟨rfl, rfl, rfl⟩
      | some x =>
        rw [hm] at k
        exact k
    · obtain ⟨eC, rfl, hm⟩ := eb
      have eC' : C' = CT := by injection eC
      subst eC'
      refine ⟨true, hx, fun _ H2 n2 => ?_, fun q => by cases q⟩
      obtain ⟨T, dd, n1, n3, n4, ea, ed, et⟩ := n2
      refine ⟨by show 0 ≤ 100; decide, fun a' ha' => ⟨a', rfl, upd_same, fun H4 ⟨⟨d, dn, d0, e1, e2⟩, kp⟩ => ⟨rfl, a', C8, _, rfl, ⟨d, dn, e1, e2⟩, X8.2.1, ?_, ⟨C', _, _, kp a _ (by rw [upd_ne (ne_of_none ea ha')]; exact ea) (ne_of_none ea ha')⟩, ?_⟩⟩⟩
      · exact Ne.symm (ne_of_none ea ha')
      · rw [hm] at k
        exact k a
theorem mLs_512 {kd : Nat} : ∀ {f : Nat} {acc ps : List Ln} {len : Nat} {l : List UInt8}, acc.length ≤ 512 → mLs kd f acc len l = some ps → ps.length ≤ 512
  | 0, _, _, _, _, _, h => by rw [mLs] at h; cases h
  | f + 1, acc, ps, len, l, ha, h => by
    rw [mLs] at h
    split at h
    · split at h
      · cases h
      · cases h; exact ha
    · split at h
      · cases h
      · cases hm : mPl kd len l with
        | none => rw [hm] at h; cases h
        | some x =>
          obtain ⟨⟨n, st⟩, t⟩ := x
          simp only [hm] at h
          exact mLs_512 (by rw [List.length_append]; simp; omega) h
theorem mPc_512 {cs : List UInt8} {ps : List Ln} (h : mPc cs = some ps) : ps.length ≤ 512 := by
  unfold mPc at h
  cases hk : mKd kws 0 cs with
  | none => rw [hk] at h; cases h
  | some x =>
    obtain ⟨kd, t⟩ := x
    simp only [hk] at h
    exact mLs_512 (by simp) h
end
end Lt
end
section
set_option Elab.async false
set_option linter.all false
set_option maxRecDepth 100000
set_option maxHeartbeats 400000
namespace Lt
open PySem PySem.Spec PyProof.Rows L2
def tbf (ia al : Addr) : List (Str × V) := [("instrument", .ref ia), ("lines", .ref al)]
theorem tbf_i (ia al : Addr) : (tbf ia al).lookup ("instrument" : Str) = some (.ref ia) := rfl
theorem tbf_l (ia al : Addr) : (tbf ia al).lookup ("lines" : Str) = some (.ref al) := rfl
structure TbC (K : PySem.W.Frag) (CB : Addr) : Prop where
  cl : Cls K CB
  ni : NoAttr K CB "instrument"
  nl : NoAttr K CB "lines"
/-- the tablature at x -/
structure TbA (K : PySem.W.Frag) (CI CL CB : Addr) (H : Hp) (x : Addr) (s : St3) (ps : List Ln) : Prop where
  ex : ∃ dx ia af ac ab al, H x = some (.ins CB dx (tbf ia al)) ∧ InA K CI H ia af ac ab s.1 s.2.1 s.2.2 ∧ LnsA K CL H al ps
  le : ps.length ≤ 512
theorem TbA.same {K : PySem.W.Frag} {CI CL CB : Addr} {H H' : Hp} {x : Addr} {s : St3} {ps : List Ln} (T : TbA K CI CL CB H x s ps) (e : Same H H') : TbA K CI CL CB H' x s ps :=
  let ⟨⟨dx, ia, af, ac, ab, al, h1, h2, h3⟩, l⟩ := T; ⟨⟨dx, ia, af, ac, ab, al, e _ _ h1, h2.kp (Same.kp e), h3.same e⟩, l⟩
def spTI (CB : Addr) : Sp := fun vs H Q _ => ∃ (x dx ia al : Addr), vs = [.ref x, .ref ia, .ref al] ∧ H x = some (.ins CB dx []) ∧ ∀ H', H' x = some (.ins CB dx (tbf ia al)) → Sb x H H' → Q .non H'
/-- a refusal that flies -/
def Rfl (cl : Int → Addr) (E : XK) (z : Int) : Prop := ∀ cx, E (.ref (cl z)) cx (xH [("answer", .int z)])
def mTb (dz fz : Str) (ci ct : List UInt8) : Except Int (St3 × List Ln) := match mInst dz fz ci with
  | none => .error (-6)
  | some s => match mPc ct with
    | none => .error (-8)
    | some ps => .ok (s, ps)
def mTbl (dz fz : Str) (ci ct : List UInt8) : Except Int (St3 × List Ln) := if 4096 < ci.length ∨ 65536 < ct.length then .error (-2) else mTb dz fz ci ct
def GotB (K : PySem.W.Frag) (CI CL CB : Addr) (cl : Int → Addr) (H : Hp) (Q : VK) (E : XK) : Except Int (St3 × List Ln) → Prop
  | .ok (s, ps) => ∀ H' x, Same H H' → TbA K CI CL CB H' x s ps → Q (.ref x) H'
  | .error z => Rfl cl E z
theorem gotb_e {K : PySem.W.Frag} {CI CL CB : Addr} {cl : Int → Addr} {H : Hp} {Q : VK} {E : XK} {r : Except Int (St3 × List Ln)} {z : Int} (k : GotB K CI CL CB cl H Q E r) (h : r = .error z) : Rfl cl E z := by rw [h] at k; exact k
def spTb (K : PySem.W.Frag) (CI CL CB : Addr) (cl : Int → Addr) (m : List UInt8 → List UInt8 → Except Int (St3 × List Ln)) : Sp := fun vs H Q E => ∃ (ia ta : Addr) (ci ct : List UInt8), vs = [.ref ia, .ref ta] ∧ SqL K H ia (ci.map cV) ∧ SqL K H ta (ct.map cV) ∧ ct.length ≤ 100000 ∧ GotB K CI CL CB cl H Q E (m ci ct)
section
variable {P : Program} {w : World} {K : PySem.W.Frag} {mg : Str → Option Value} {base : Heap} {CI CL CB : Addr} {cl : Int → Addr} {dz fz : Str}
theorem sc_tbi : FnScope ["self", "instrument", "lines"] ["self", "instrument", "lines"] (defScope s_Tablature_init) := ⟨rfl, rfl, rfl, by decide +kernel, rfl, by decide +kernel, by decide +kernel⟩
theorem ok_tbi {f : Addr} {fd : FuncData} (F : Fun K "__init__" "Tablature.__init__" s_Tablature_init f fd) (T : TbC K CB) : FnOk P w K mg base (CX1 P w) 1 f fd ["self", "instrument", "lines"] (spTI CB) := by
  refine F.okx sc_tbi (fun vs H Q E h => ?_) (fun cdv A outer s H vs Q E hr h => ?_)
  · obtain ⟨x, dx, ia, al, rfl, _⟩ := h
    rfl
  · obtain ⟨x, dx, ia, al, rfl, hx, k⟩ := h
    refine ⟨_, (pss_cons (ps_fld (pv 0) (pv 1) rfl)
      (pss_one (ps_fld (pv 0) (pv 2) rfl))), ?_⟩
    refine ⟨_, rfl, _, rfl, x, CB, dx, [], rfl, hx, T.cl, T.ni, (by decide), ?_⟩
    refine ⟨_, rfl, _, rfl, x, CB, dx, _, rfl, upd_same, T.cl, T.nl, (by show 1 < 1000; decide), ?_⟩
    exact k _ upd_same fun b o e hb => by rw [upd_ne hb, upd_ne hb]; exact e
theorem sc_tbo : FnScope ["i", "t", "instrument"] ["i", "t"] (defScope s_tablature_of) := ⟨rfl, rfl, rfl, by decide +kernel, rfl, by decide +kernel, by decide +kernel⟩
theorem ok_tbo {f : Addr} {fd : FuncData} (F : Fun K "tablature_of" "tablature_of" s_tablature_of f fd) (M : Mkr P w K mg base 1 CB "Tablature" ["self", "instrument", "lines"] (spTI CB))
    (D2 : Def P w K mg base 13 "instrument_of" ["text"] (spIO K CI (cl (-6)) dz fz)) (D3 : Def P w K mg base 13 "piece_of" ["text"] (spPO K CL (cl (-8)))) : FnOk P w K mg base (CX1 P w) 14 f fd ["i", "t"] (spTb K CI CL CB cl (mTb dz fz)) := by
  refine F.okx sc_tbo (fun vs H Q E h => ?_) (fun cdv A outer s H vs Q E hr h => ?_)
  · obtain ⟨ia, ta, ci, ct, rfl, _⟩ := h
    rfl
  · obtain ⟨ia, ta, ci, ct, rfl, hi, ht, hct, k⟩ := h
    refine ⟨_, (pss_cons (ps_set (i := 2) sc_tbo.nd rfl (Or.inl rfl) (D2.call hr out_cx (pa_cons (pv 0) pa_nil)))
      (pss_one (ps_ret (M.call hr out_cx (pa_cons (pv 2) (pa_cons (D3.call hr out_cx (pa_cons (pv 1) pa_nil)) pa_nil)))))), ?_⟩
    refine ⟨V.ref ia, rfl, ia, ci, rfl, hi, ?_⟩
    unfold mTb at k
    cases hm : mInst dz fz ci with
    | none => exact fun b => gotb_e k (by rw [hm]) _
    | some x =>
      obtain ⟨fr, co, ba⟩ := x
      simp only [hm] at k
      intro H1 xa af ac ab s1 I1
      refine ⟨V.ref xa, rfl, V.ref ta, rfl, ta, ct, rfl, s1.seq ht, hct, ?_⟩
      cases hp : mPc ct with
      | none => exact fun b => gotb_e k (by rw [hp]) _
      | some ps =>
        simp only [hp] at k
        intro H2 al s2 L2 x dx nx nd hne
        refine ⟨x, dx, xa, al, rfl, upd_same, fun H3 h3 s3 => ⟨rfl, ?_⟩⟩
        have s23 : Same H2 H3 := fresh_same nx nd s3 Sb.refl
        exact k H3 x ((s1.trans s2).trans s23) ⟨⟨dx, xa, af, ac, ab, al, h3, (I1.kp (Same.kp s2)).kp (Same.kp s23), L2.same s23⟩, mPc_512 hp⟩
theorem sc_rtb : FnScope ["i", "t"] ["i", "t"] (defScope s_read_tablature) := ⟨rfl, rfl, rfl, by decide +kernel, rfl, by decide +kernel, by decide +kernel⟩
theorem ok_rtb {f : Addr} {fd : FuncData} (F : Fun K "read_tablature" "read_tablature" s_read_tablature f fd) (D1 : Def P w K mg base 4 "check_sizes" ["i", "t"] (spSz K (cl (-2)))) (D2 : Def P w K mg base 14 "tablature_of" ["i", "t"] (spTb K CI CL CB cl (mTb dz fz))) :
    FnOk P w K mg base (CX1 P w) 15 f fd ["i", "t"] (spTb K CI CL CB cl (mTbl dz fz)) := by
  refine F.okx sc_rtb (fun vs H Q E h => ?_) (fun cdv A outer s H vs Q E hr h => ?_)
  · obtain ⟨ia, ta, ci, ct, rfl, _⟩ := h
    rfl
  · obtain ⟨ia, ta, ci, ct, rfl, hi, ht, hct, k⟩ := h
    refine ⟨_, (pss_cons (ps_expr (D1.call hr out_cx (pa_cons (pv 0) (pa_cons (pv 1) pa_nil))))
      (pss_one (ps_ret (D2.call hr out_cx (pa_cons (pv 0) (pa_cons (pv 1) pa_nil)))))), ?_⟩
    refine ⟨V.ref ia, rfl, V.ref ta, rfl, ia, ta, _, _, rfl, hi, ht, ?_⟩
    rw [List.length_map, List.length_map]
    unfold mTbl at k
    by_cases hl : 4096 < ci.length ∨ 65536 < ct.length
    · rw [if_pos hl] at k ⊢
      exact gotb_e k rfl _
    · rw [if_neg hl] at k ⊢
      exact ⟨V.ref ia, rfl, V.ref ta, rfl, ia, ta, ci, ct, rfl, hi, ht, hct, k⟩
end
/-- which refusals there are -/
structure RfC (K : PySem.W.Frag) (CR : Addr) (cl : Int → Addr) (Z : List Int) : Prop where
  r : ∀ z ∈ Z, PySem.W.exmOne K (.ref (cl z)) (.ref CR) = some true
  x : ∀ z ∈ Z, XCls K (cl z)
  a : ∀ z ∈ Z, NoAttr K (cl z) "answer"
/-- what flies out of a call's body -/
def EbR (cl : Int → Addr) (Z : List Int) (ans : List Int) : XK := fun v _ Hx => ∃ z fs, v = .ref (cl z) ∧ z ∈ Z ∧ Hx = xH fs ∧ fs.lookup ("answer" : Str) = some (V.int z) ∧ ans = [z]
theorem ebr {cl : Int → Addr} {Z : List Int} {ans : List Int} {z : Int} (hz : z ∈ Z) (h : ans = [z]) : Rfl cl (EbR cl Z ans) z := fun _ => ⟨z, _, rfl, hz, rfl, rfl, h⟩
end Lt
end
section
set_option Elab.async false
set_option linter.all false
set_option maxRecDepth 100000
set_option maxHeartbeats 400000
namespace Lt
open PySem PySem.Spec PyProof.Rows L2
/-- return [refusal.answer] -/
theorem ret_ans {K : PySem.W.Frag} {σ' : L2.St} {j : Nat} {a C : Addr} {fs : List (Str × V)} {cx : Option Addr} {fl : Value} {H2 : Hp} {z : Int} {D : Ends} {ans : List Int} (hl : j < σ'.length) (n2 : Noted H2 a C fs cx fl) (x : XCls K C) (na : NoAttr K C "answer") (l : fs.lookup ("answer" : Str) = some (.int z))
    (ha : ans = [z]) (k : ∀ H' l, H' l = some (.lst (ans.map V.int)) → D.rt (.ref l) H') : (tRet (tLst (tCons (tXFld K (tVar j) "answer") tNil))) D (σ'.set j (some (.ref a))) H2 := by
  obtain ⟨T, dd, n1, n3, n4, eo, ed, et⟩ := n2
  have e5 : (σ'.set j (some (V.ref a)))[j]? = some (some (V.ref a)) := by rw [List.getElem?_set_self hl]
  refine ⟨V.ref a, e5, a, C, dd, _, _, _, _, rfl, eo, ed, x, na, l, (by rw [sizeLine_eq]; show 1 ≤ 16777216; decide), fun p hp => ?_⟩
  refine k _ p ?_
  rw [upd_same, ha]
  rfl
def ansF (dz fz : Str) (ci ct : List UInt8) : List Int := match mTbl dz fz ci ct with
  | .error z => [z]
  | .ok (s, ps) => match mMis (plc s.1 s.2.1 s.2.2) 0 ps with
      | some (l, c) => [-3, (l : Int), (c : Int)]
      | none => [(ps.map fun p => (p.2.length : Int)).sum]
def spFits (K : PySem.W.Frag) (dz fz : Str) : Sp := fun vs H Q _ => ∃ (ia ta : Addr) (ci ct : List UInt8), vs = [.ref ia, .ref ta] ∧ SqL K H ia (ci.map cV) ∧ SqL K H ta (ct.map cV) ∧ ct.length ≤ 100000 ∧ ∀ H' l, H' l = some (.lst ((ansF dz fz ci ct).map V.int)) → Q (.ref l) H'
structure RfM (K : PySem.W.Frag) (CM : Addr) (cl : Int → Addr) (Z : List Int) : Prop where
  m1 : PySem.W.exmOne K (.ref CM) (.ref CM) = some true
  m : ∀ z ∈ Z, PySem.W.exmOne K (.ref (cl z)) (.ref CM) = some false
  xm : XCls K CM
  am : NoAttr K CM "answer"
  lm : NoAttr K CM "line"
  cm : NoAttr K CM "course"
def EbF (CM : Addr) (cl : Int → Addr) (Z : List Int) (ans : List Int) : XK := fun v cx Hx => (∃ l c : Int, v = .ref CM ∧ Hx = xH (mfs l c) ∧ ans = [-3, l, c]) ∨ EbR cl Z ans v cx Hx
theorem mTbl_z {dz fz : Str} {ci ct : List UInt8} {z : Int} (h : mTbl dz fz ci ct = .error z) : z ∈ ([-2, -6, -8] : List Int) := by
  unfold mTbl mTb at h
  split at h
  · cases h; simp
  · split at h
    · cases h; simp
    · split at h
      · cases h; simp
      · cases h
section
variable {P : Program} {w : World} {K : PySem.W.Frag} {mg : Str → Option Value} {base : Heap} {CI CL CB CM CR : Addr} {cl : Int → Addr} {dz fz : Str}
theorem sc_fits : FnScope ["i", "t", "tablature", "misfit", "refusal"] ["i", "t"] (defScope s_fits) := ⟨rfl, rfl, rfl, by decide +kernel, rfl, by decide +kernel, by decide +kernel⟩
theorem ok_fits {f : Addr} {fd : FuncData} (F : Fun K "fits" "fits" s_fits f fd) (T : TbC K CB) (hmM : mg "Misfit" = some (.ref CM)) (hmR : mg "Refusal" = some (.ref CR)) (RC : RfC K CR cl [-2, -6, -8]) (RM : RfM K CM cl [-2, -6, -8])
    (D1 : Def P w K mg base 15 "read_tablature" ["i", "t"] (spTb K CI CL CB cl (mTbl dz fz))) (D4 : Def P w K mg base 4 "check_fit" ["instrument", "lines"] (spChk K CI CL CM)) (D5 : Def P w K mg base 1 "count_notes" ["lines"] (spCnt K CL)) :
    FnOk P w K mg base (CX1 P w) 16 f fd ["i", "t"] (spFits K dz fz) := by
  refine F.okx sc_fits (fun vs H Q E h => ?_) (fun cdv A outer s H vs Q E hr h => ?_)
  · obtain ⟨ia, ta, ci, ct, rfl, _⟩ := h
    rfl
  · obtain ⟨ia, ta, ci, ct, rfl, hi, ht, hct, k⟩ := h
    refine ⟨_, (pss_cons (ps_try (Eb := EbF CM cl [-2, -6, -8] (ansF dz fz ci ct)) rfl rfl (fun pn E' o => (pss_cons (ps_set (i := 2) sc_fits.nd rfl (Or.inl rfl) (D1.call hr o (pa_cons (pv 0) (pa_cons (pv 1) pa_nil))))
      (pss_one (ps_expr (D4.call hr o (pa_cons (pe_fldK K (pv 2)) (pa_cons (pe_fldK K (pv 2)) pa_nil)))))))
        (ph_consAs (i := 3) (by rfl) hmM sc_fits.nd rfl rfl (fun a E' => (pss_one (ps_ret (pe_lst (pa_cons (pe_xfldK K (pv 3)) (pa_cons (pe_xfldK K (pv 3)) (pa_cons (pe_xfldK K (pv 3)) pa_nil)))))))
          (ph_consAs (i := 4) (by rfl) hmR sc_fits.nd rfl rfl (fun a E' => (pss_one (ps_ret (pe_lst (pa_cons (pe_xfldK K (pv 4)) pa_nil))))) ph_nil)))
      (pss_one (ps_ret (pe_lst (pa_cons (D5.call hr out_cx (pa_cons (pe_fld (pv 2) rfl) pa_nil)) pa_nil))))), ?_⟩
    refine ⟨⟨V.ref ia, rfl, V.ref ta, rfl, ia, ta, _, _, rfl, hi, ht, hct, ?_⟩, fun a C' fs cx σ' H1 nt eb hl => ?_⟩
    · unfold ansF at k ⊢
      cases hm : mTbl dz fz ci ct with
      | error z =>
        exact fun _ => .inr (ebr (mTbl_z hm) rfl _)
      | ok r =>
        obtain ⟨⟨fr, co, ba⟩, ps⟩ := r
        simp only [hm] at k ⊢
        intro H2 x s2 ⟨⟨dx, xa, af, ac, ab, al, h1, I1, L2⟩, le⟩
        refine ⟨V.ref x, rfl, x, CB, dx, _, _, rfl, h1, T.cl, T.ni, tbf_i _ _, V.ref x, rfl, x, CB, dx, _, _, rfl, h1, T.cl, T.nl, tbf_l _ _, xa, af, ac, ab, al, fr, co, ba, ps, rfl, I1, L2, ?_⟩
        cases hf : mMis (plc fr co ba) 0 ps with
        | some y =>
          obtain ⟨l, c⟩ := y
          exact .inl ⟨l, c, rfl, rfl, rfl⟩
        | none =>
          simp only [hf] at k ⊢
          intro H3 s3
          refine ⟨V.ref x, rfl, x, CB, dx, _, _, rfl, s3 _ _ h1, T.cl, T.nl, tbf_l _ _, al, ps, rfl, L2.same s3, by omega, fun H4 s4 => ⟨by rw [sizeLine_eq]; show 1 ≤ 16777216; decide, fun l hl => k _ l upd_same⟩⟩
    · rcases eb with ⟨l, c, ev, ex, ea⟩ | ⟨z, fs', ev, hz, ex, el, ea⟩
      · have eC : C' = CM := by injection ev
        subst eC
        have efs : fs = mfs l c := xH_inj ex
        subst efs
        refine ⟨true, RM.m1, fun _ H2 n2 => ?_, fun q => by cases q⟩
        obtain ⟨T, dd, n1, n3, n4, eo, ed, et⟩ := n2
        have e4 : (σ'.set 3 (some (V.ref a)))[3]? = some (some (V.ref a)) := by rw [List.getElem?_set_self (by rw [hl]; show 3 < 5; decide)]
        refine ⟨V.ref a, e4, a, C', dd, _, _, _, _, rfl, eo, ed, RM.xm, RM.am, rfl, V.ref a, e4, a, C', dd, _, _, _, _, rfl, eo, ed, RM.xm, RM.lm, rfl, V.ref a, e4, a, C', dd, _, _, _, _, rfl, eo, ed, RM.xm, RM.cm, rfl, (by rw [sizeLine_eq]; show 3 ≤ 16777216; decide), fun p hp => ?_⟩
        refine k _ p ?_
        rw [upd_same, ea]
        rfl
      · have eC : C' = cl z := by injection ev
        have efs : fs = fs' := xH_inj ex
        subst efs eC
        exact ⟨false, RM.m z hz, (fun q => by cases q), fun _ => ⟨true, RC.r z hz, fun _ H2 n2 => ret_ans (by rw [hl]; show 4 < 5; decide) n2 (RC.x z hz) (RC.a z hz) el ea k, fun q => by cases q⟩⟩
end
end Lt
end
section
set_option Elab.async false
set_option linter.all false
set_option maxRecDepth 100000
set_option maxHeartbeats 400000
namespace Lt
def MomP (p : LuteTab.Piece) : Prop := ∀ n l, LuteTab.Line.moment n l ∈ p → 0 < n
end Lt
end
section
set_option Elab.async false
set_option linter.all false
set_option maxRecDepth 100000
set_option maxHeartbeats 400000
end
section
set_option Elab.async false
set_option linter.all false
set_option maxRecDepth 100000
set_option maxHeartbeats 400000
namespace Lt
def InK (t : Lute.Inst) : Prop := (∀ x ∈ t.frets, 0 < x.d) ∧ (∀ x ∈ t.courses, 0 < x.d) ∧ ∀ x ∈ t.basses, 0 < x.d
end Lt
end
section
set_option Elab.async false
set_option linter.all false
set_option maxRecDepth 100000
set_option maxHeartbeats 400000
namespace Lt
open PySem PySem.Spec PyProof.Rows L2
def ro (x : Iv) : List Int := LuteD.rowOf x
theorem ro_eq (x : Iv) : ro x = [x.a, x.b, x.c, x.e, (x.d : Int)] := rfl
theorem ro_un : ro Lute.unison = un5 := rfl
theorem gcd5 (a b c e d : Int) : gcdAll [a, b, c, e, d] = Nat.gcd d.natAbs (Nat.gcd a.natAbs (Nat.gcd b.natAbs (Nat.gcd c.natAbs e.natAbs))) := by
  unfold gcdAll gcdFrom
  simp only [List.foldl, Int.gcd, Int.natAbs_natCast, Nat.gcd_zero_left, Int.natAbs_zero]
  rw [Nat.gcd_comm _ d.natAbs, Nat.gcd_assoc, Nat.gcd_assoc]
theorem gcd_ro (x : Iv) : gcdAll (ro x) = x.common := by
  rw [ro_eq, gcd5]
  rfl
theorem within_iff (z : Int) : Lute.within z = decide (z.natAbs ≤ 99) := by
  unfold Lute.within Lute.MOST
  rw [Bool.eq_iff_iff]
  simp
  omega
theorem iv_ok (x : Iv) : isIv (ro x) = x.ok := by
  unfold isIv Lute.Iv.ok
  rw [gcd_ro]
  show ((([x.a, x.b, x.c, x.e] : List Int).all fun p => decide (p.natAbs ≤ 99)) && (decide ((1 : Int) ≤ (x.d : Int)) && decide ((x.d : Int) ≤ 24) && decide (x.common = 1))) = _
  simp only [List.all, within_iff, Bool.and_true]
  have e1 : decide ((1 : Int) ≤ (x.d : Int)) = decide (1 ≤ x.d) := by rw [decide_eq_decide]; omega
  have e2 : decide ((x.d : Int) ≤ 24) = decide (x.d ≤ Lute.PARTS) := by rw [decide_eq_decide]; show _ ↔ x.d ≤ 24; omega
  have e3 : decide (x.common = 1) = (x.common == 1) := rfl
  rw [e1, e2, e3]
  simp only [Bool.and_assoc]
theorem up_ro (x y : Iv) : uponL (ro x) (ro y) = ro (x.plus y) := by
  have e : nums (ro x) (ro y) = ro ⟨x.a * y.d + y.a * x.d, x.b * y.d + y.b * x.d, x.c * y.d + y.c * x.d, x.e * y.d + y.e * x.d, x.d * y.d⟩ := by
    rw [ro_eq, ro_eq, ro_eq]
    unfold nums
    show [numK _ _ 0, numK _ _ 1, numK _ _ 2, numK _ _ 3] ++ _ = _
    simp only [numK, List.getD_cons_zero, List.getD_cons_succ, List.cons_append, List.nil_append]
    congr 5
    all_goals simp
  unfold uponL
  rw [e, gcd_ro]
  unfold Lute.Iv.plus Lute.Iv.low
  simp only [ro_eq, List.map]
  congr 5
theorem lt_ro (x y : Iv) (hx : 0 < x.d) (hy : 0 < y.d) : narrowL (ro x) (ro y) = x.lt y := by
  unfold Lute.Iv.lt Lute.Iv.less Lute.Iv.plus
  have hg : ∀ z : Iv, 0 < z.d → 0 < z.common := fun z hz => Nat.gcd_pos_of_pos_left _ hz
  show _ = (Lute.Iv.low _).down
  rw [down_low _ (hg _ (Nat.mul_pos hx hy))]
  unfold Lute.Iv.down Lute.Iv.below Lute.Iv.above Lute.Iv.back narrowL
  have pA : ∀ k (p : Int), pw (ro x) (ro y) k = p → True := fun _ _ _ => True.intro
  have e0 : pw (ro x) (ro y) 0 = y.a * x.d - x.a * y.d := rfl
  have e1 : pw (ro x) (ro y) 1 = y.b * x.d - x.b * y.d := rfl
  have e2 : pw (ro x) (ro y) 2 = y.c * x.d - x.c * y.d := rfl
  have e3 : pw (ro x) (ro y) 3 = y.e * x.d - x.e * y.d := rfl
  have eA : prodA (ro x) (ro y) 4 = ((2 ^ (y.a * x.d - x.a * y.d).toNat * 3 ^ (y.b * x.d - x.b * y.d).toNat * 5 ^ (y.c * x.d - x.c * y.d).toNat * 7 ^ (y.e * x.d - x.e * y.d).toNat : Nat) : Int) := by
    have st : ∀ (q z b : Int) (p : Nat), (p : Int) = b → (if 0 < z then q * b ^ z.toNat else q) = q * ((p ^ z.toNat : Nat) : Int) := fun q z b p hb => by
      by_cases h : 0 < z
      · rw [if_pos h, ← hb, Int.natCast_pow]
      · have : z.toNat = 0 := by omega
        rw [if_neg h, this, Nat.pow_zero]; simp
    simp only [prodA, e0, e1, e2, e3]
    rw [st _ _ (prm.getD 0 0) 2 rfl, st _ _ (prm.getD 1 0) 3 rfl, st _ _ (prm.getD 2 0) 5 rfl, st _ _ (prm.getD 3 0) 7 rfl]
    simp only [Int.natCast_mul, Int.one_mul]
  have eB : prodB (ro x) (ro y) 4 = ((2 ^ (x.a * y.d - y.a * x.d).toNat * 3 ^ (x.b * y.d - y.b * x.d).toNat * 5 ^ (x.c * y.d - y.c * x.d).toNat * 7 ^ (x.e * y.d - y.e * x.d).toNat : Nat) : Int) := by
    have st : ∀ (q z v b : Int) (p : Nat), (p : Int) = b → v = -z → (if 0 < z then q else q * b ^ (-z).toNat) = q * ((p ^ v.toNat : Nat) : Int) := fun q z v b p hb hv => by
      subst hv
      by_cases h : 0 < z
      · have : (-z).toNat = 0 := by omega
        rw [if_pos h, this, Nat.pow_zero]; simp
      · rw [if_neg h, ← hb, Int.natCast_pow]
    simp only [prodB, e0, e1, e2, e3]
    rw [st _ _ (x.a * y.d - y.a * x.d) (prm.getD 0 0) 2 rfl (by omega), st _ _ (x.b * y.d - y.b * x.d) (prm.getD 1 0) 3 rfl (by omega), st _ _ (x.c * y.d - y.c * x.d) (prm.getD 2 0) 5 rfl (by omega), st _ _ (x.e * y.d - y.e * x.d) (prm.getD 3 0) 7 rfl (by omega)]
    simp only [Int.natCast_mul, Int.one_mul]
  rw [eA, eB, decide_eq_decide, Int.ofNat_lt]
  have n : ∀ u v p q : Int, u * q + -v * p = u * q - v * p := fun u v p q => by rw [Int.neg_mul]; omega
  have m : ∀ u v p q : Int, -(u * q + -v * p) = v * p - u * q := fun u v p q => by rw [Int.neg_mul]; omega
  simp only [m]
  simp only [n]
end Lt
end
section
set_option Elab.async false
set_option linter.all false
set_option maxRecDepth 100000
set_option maxHeartbeats 400000
namespace Lt
open PySem PySem.Spec PyProof.Rows L2
def fg {α : Type} : Except Nat (α × Nat × List UInt8) → Option (α × List UInt8)
  | .ok (a, _, t) => some (a, t)
  | .error _ => none
def fe {α : Type} : Except Nat α → Option α
  | .ok a => some a
  | .error _ => none
def dz0 : Str := "0123456789"
def fz0 : Str := "2357"
theorem all8 {p : UInt8 → Prop} (h : ∀ n, n < 256 → p (UInt8.ofNat n)) (c : UInt8) : p c := by
  have := h c.toNat (UInt8.toNat_lt c)
  rwa [UInt8.ofNat_toNat] at this
theorem idx_digit (c : UInt8) : idxI dz0.cps.toList ((c.toNat : Nat) : Int) = Lute.digit c := all8 (p := fun c => idxI dz0.cps.toList ((c.toNat : Nat) : Int) = Lute.digit c) (by decide +kernel) c
theorem idx_fac (c : UInt8) : idxI fz0.cps.toList ((c.toNat : Nat) : Int) = [(50 : UInt8), 51, 53, 55].idxOf? c := all8 (p := fun c => idxI fz0.cps.toList ((c.toNat : Nat) : Int) = [(50 : UInt8), 51, 53, 55].idxOf? c) (by decide +kernel) c
theorem u8_eq (c x : UInt8) : (c.toNat = x.toNat) ↔ c = x := UInt8.toNat_inj
theorem see_c {z : Str} {x : UInt8} (hz : z.cps.toList = [x.toNat]) (c : UInt8) (t : List UInt8) : see z (c :: t) = decide (c = x) := by
  show (idxI z.cps.toList ((c.toNat : Nat) : Int)).isSome = _
  rw [hz, idx_one]
  by_cases h : c = x
  · rw [if_pos (by rw [h]), decide_eq_true h]; rfl
  · rw [if_neg (fun q => h ((u8_eq c x).mp q)), decide_eq_false h]; rfl
theorem see_nil (z : Str) : see z [] = false := rfl
theorem sk_want : ∀ (bs : List UInt8) (p : Nat) (l : List UInt8), fg (Lute.want bs p l) = sk (bs.map (·.toNat)) l
  | [], p, l => rfl
  | x :: bs, p, [] => rfl
  | x :: bs, p, c :: t => by
    rw [Lute.want, List.map_cons, sk]
    by_cases h : c = x
    · rw [if_pos h, if_pos (by rw [h]), sk_want]
    · rw [if_neg h, if_neg (fun q => h ((u8_eq c x).mp q))]; rfl
theorem sk_c {z : Str} {x : UInt8} (hz : z.cps.toList = [x.toNat]) (c : UInt8) (t : List UInt8) : sk z.cps.toList (c :: t) = if c = x then some ((), t) else none := by
  rw [hz, sk]
  by_cases h : c = x
  · rw [if_pos h, if_pos (by rw [h])]; rfl
  · rw [if_neg h, if_neg (fun q => h ((u8_eq c x).mp q))]
theorem wn_more (most : Nat) : ∀ (l : List UInt8) (count v p : Nat), v ≠ 0 → count ≤ most → wnGo dz0 most count v l = fg (Lute.moreDigits (most - count) v p l)
  | [], count, v, p, hv, hc => by rw [wnGo, Lute.moreDigits]; rfl
  | c :: t, count, v, p, hv, hc => by
    rw [wnGo, idx_digit, Lute.moreDigits.eq_def]
    cases hd : Lute.digit c with
    | none => simp only [hd]; rfl
    | some d =>
      simp only [hd]
      by_cases hq : count = most
      · rw [if_pos (.inl hq), hq, Nat.sub_self]; rfl
      · rw [if_neg (by rintro (q | q); exact hq q; exact hv q)]
        obtain ⟨m, hm⟩ : ∃ m, most - count = m + 1 := ⟨most - count - 1, by omega⟩
        rw [hm]
        have := wn_more most t (count + 1) (10 * v + d) (p + 1) (by omega) (by omega)
        rw [this, show most - (count + 1) = m by omega]
theorem wn_number (p : Nat) (l : List UInt8) : wn dz0 4 l = fg (Lute.number p l) := by
  cases l with
  | nil => rfl
  | cons c t =>
    unfold wn
    rw [pk_cons, idx_digit, Lute.number.eq_def]
    dsimp only
    cases hd : Lute.digit c with
    | none => rfl
    | some d =>
      show wnGo dz0 4 1 d t = _
      cases d with
      | zero =>
        cases t with
        | nil => rfl
        | cons y u =>
          rw [wnGo, idx_digit]
          cases hy : Lute.digit y with
          | none => simp [hy, fg]
          | some e => simp [hy, fg]
      | succ d => exact wn_more 4 t 1 (d + 1) (p + 1) (by omega) (by omega)
theorem wn_long (p : Nat) (l : List UInt8) : (if see "0" l = true then none else wn dz0 7 l) = fg (Lute.longNumber p l) := by
  cases l with
  | nil => rfl
  | cons c t =>
    rw [see_c (z := "0") (x := 48) rfl]
    unfold wn
    rw [pk_cons, idx_digit, Lute.longNumber]
    cases hd : Lute.digit c with
    | none =>
      by_cases h : c = 48
      · subst h; exact absurd hd (by decide)
      · rw [if_neg (by simp [h])]; rfl
    | some d =>
      have h48 : c = 48 ↔ d = 0 := by
        unfold Lute.digit at hd
        split at hd
        · cases hd
          rename_i h
          have h1 : 48 ≤ c.toNat := h.1
          rw [← u8_eq]
          show c.toNat = 48 ↔ _
          omega
        · cases hd
      cases d with
      | zero => rw [if_pos (by simp [h48.mpr rfl])]; rfl
      | succ d =>
        rw [if_neg (by simp; intro q; exact absurd (h48.mp q) (by omega))]
        exact wn_more 7 t 1 (d + 1) (p + 1) (by omega) (by omega)
theorem sg_signed (p : Nat) (l : List UInt8) : mSg dz0 l = fg (Lute.signed p l) := by
  cases l with
  | nil => rfl
  | cons c t =>
    unfold mSg
    rw [see_c (z := "-") (x := 45) rfl, Lute.signed.eq_def]
    dsimp only
    by_cases h : c = 45
    · rw [if_pos (by simp [h]), if_pos h, sk_c (z := "-") (x := 45) rfl, if_pos h]
      show (if see "0" t = true then none else match wn dz0 4 t with
        | none => none
        | some (n, u) => some (-(n : Int), u)) = _
      cases t with
      | nil => rfl
      | cons y u =>
        rw [see_c (z := "0") (x := 48) rfl]
        by_cases h2 : y = 48
        · subst h2; rfl
        · rw [if_neg (by simp [h2])]
          have e : (match (y :: u : List UInt8) with
            | 48 :: _ => Except.error (p + 1)
            | _ => match Lute.number (p + 1) (y :: u) with
              | .error e => .error e
              | .ok (n, q, v) => .ok (-((n : Nat) : Int), q, v)) = (match Lute.number (p + 1) (y :: u) with
              | .error e => (.error e : Lute.Rd Int)
              | .ok (n, q, v) => .ok (-((n : Nat) : Int), q, v)) := by
            split
            · rename_i q; cases q; exact absurd rfl h2
            · rfl
          refine Eq.trans ?_ (congrArg fg e).symm
          rw [wn_number (p + 1)]
          cases Lute.number (p + 1) (y :: u) with
          | error e => rfl
          | ok x => obtain ⟨n, q, v⟩ := x; rfl
    · rw [if_neg (by simp [h]), if_neg h, wn_number p]
      cases Lute.number p (c :: t) with
      | error e => rfl
      | ok x => obtain ⟨n, q, v⟩ := x; rfl
end Lt
end
section
set_option Elab.async false
set_option linter.all false
set_option maxRecDepth 100000
set_option maxHeartbeats 400000
namespace Lt
open PySem PySem.Spec PyProof.Rows L2
def powF : Except Nat ((Nat × Option (Int × Nat)) × Nat × List UInt8) → Option (List Int × List UInt8)
  | .error _ => none
  | .ok ((_, none), _, _) => none
  | .ok ((_, some (n, d)), _, u) => some ([n, (d : Int)], u)
theorem pw_fac (p k : Nat) (c : UInt8) (r : List UInt8) (hk : [(50 : UInt8), 51, 53, 55].idxOf? c = some k) : mPw dz0 r = powF (Lute.factorAt p (c :: r)) := by
  rw [Lute.factorAt.eq_def]
  dsimp only
  rw [hk]
  dsimp only
  cases r with
  | nil => rfl
  | cons y u =>
    unfold mPw
    rw [see_c (z := "^") (x := 94) rfl]
    by_cases h : y = 94
    · subst h
      rw [if_pos (by simp), sk_c (z := "^") (x := 94) rfl, if_pos rfl]
      show (match mSg dz0 u with
        | none => none
        | some (n, u) => _) = powF (match Lute.signed (p + 1 + 1) u with
        | .error e => .error e
        | .ok (n, q, v) => match v with
          | 47 :: w => (match Lute.number (q + 1) w with
            | .error e => .error e
            | .ok (d, z, t) => .ok ((k, if 2 ≤ d ∧ Nat.gcd n.natAbs d = 1 then some (n, d) else none), z, t))
          | _ => .ok ((k, if n = 0 ∨ n = 1 then none else some (n, 1)), q, v))
      rw [sg_signed (p + 1 + 1)]
      cases hs : Lute.signed (p + 1 + 1) u with
      | error e => rfl
      | ok x =>
        obtain ⟨n, q, v⟩ := x
        show (if see "/" v = true then _ else _) = _
        cases v with
        | nil =>
          rw [if_neg (by decide)]
          show _ = powF (.ok ((k, if n = 0 ∨ n = 1 then none else some (n, 1)), q, []))
          by_cases hn : n = 0 ∨ n = 1
          · rw [if_pos hn, if_pos hn]; rfl
          · rw [if_neg hn, if_neg hn]; rfl
        | cons z w =>
          rw [see_c (z := "/") (x := 47) rfl]
          by_cases h2 : z = 47
          · subst h2
            rw [if_pos (by simp), sk_c (z := "/") (x := 47) rfl, if_pos rfl]
            show (match wn dz0 4 w with
              | none => none
              | some (d, y) => _) = powF (match Lute.number (q + 1) w with
                | .error e => .error e
                | .ok (d, z, t) => .ok ((k, if 2 ≤ d ∧ Nat.gcd n.natAbs d = 1 then some (n, d) else none), z, t))
            rw [wn_number (q + 1)]
            cases hw : Lute.number (q + 1) w with
            | error e => rfl
            | ok x =>
              obtain ⟨d, z', t⟩ := x
              show (if d < 2 ∨ 1 < Int.gcd n d then none else some ([n, (d : Int)], t)) = powF (.ok ((k, if 2 ≤ d ∧ Nat.gcd n.natAbs d = 1 then some (n, d) else none), z', t))
              have eg : Int.gcd n d = Nat.gcd n.natAbs d := rfl
              by_cases hc : 2 ≤ d ∧ Nat.gcd n.natAbs d = 1
              · rw [if_pos hc, if_neg (by rw [eg]; omega)]; rfl
              · rw [if_neg hc]
                have hp : 0 < d → 0 < Nat.gcd n.natAbs d := fun hd => Nat.gcd_pos_of_pos_right _ hd
                rw [if_pos (by rw [eg]; by_cases h3 : d < 2; exact .inl h3; right; have := hp (by omega); omega)]; rfl
          · rw [if_neg (by simp [h2])]
            have e : (match (z :: w : List UInt8) with
              | 47 :: w => (match Lute.number (q + 1) w with
                | .error e => .error e
                | .ok (d, z, t) => .ok ((k, if 2 ≤ d ∧ Nat.gcd n.natAbs d = 1 then some (n, d) else none), z, t))
              | _ => .ok ((k, if n = 0 ∨ n = 1 then none else some (n, 1)), q, z :: w)) = (.ok ((k, if n = 0 ∨ n = 1 then none else some (n, 1)), q, z :: w) : Lute.Rd (Nat × Option (Int × Nat))) := by
              split
              · rename_i q; cases q; exact absurd rfl h2
              · rfl
            refine Eq.trans ?_ (congrArg powF e).symm
            by_cases hn : n = 0 ∨ n = 1
            · rw [if_pos hn, if_pos hn]; rfl
            · rw [if_neg hn, if_neg hn]; rfl
    · rw [if_neg (by simp [h])]
      split
      · rename_i q; cases q; exact absurd rfl h
      · rfl
def chk : Option (List Int × List UInt8) → Option (List Int)
  | none => none
  | some (y, _) => if isIv y = true then some y else none
theorem fac_ro (k : Nat) (n : Int) (d : Nat) (hk : k < 4) : facL k n (d : Int) = ro (Lute.powerOf k n d) := by
  match k, hk with
  | 0, _ => rfl
  | 1, _ => rfl
  | 2, _ => rfl
  | 3, _ => rfl
theorem factorAt_k {p : Nat} {c : UInt8} {r : List UInt8} {k : Nat} {w : Option (Int × Nat)} {q : Nat} {u : List UInt8} (h : Lute.factorAt p (c :: r) = .ok ((k, w), q, u)) : [(50 : UInt8), 51, 53, 55].idxOf? c = some k := by
  rw [Lute.factorAt.eq_def] at h
  dsimp only at h
  cases hk : [(50 : UInt8), 51, 53, 55].idxOf? c with
  | none => rw [hk] at h; cases h
  | some j =>
    rw [hk] at h
    dsimp only at h
    split at h
    · split at h
      · cases h
      · split at h
        · split at h
          · cases h
          · cases h; rfl
        · cases h; rfl
    · cases h; rfl
theorem mFc_eq : ∀ (f least p : Nat) (x : Iv) (l : List UInt8), chk (mFc dz0 fz0 f least (ro x) l) = (fe (Lute.factorsAt f least x p l)).map ro
  | 0, least, p, x, l => rfl
  | f + 1, least, p, x, l => by
    rw [mFc, Lute.factorsAt]
    cases l with
    | nil => rfl
    | cons c r =>
      rw [pk_cons, idx_fac]
      cases hk : [(50 : UInt8), 51, 53, 55].idxOf? c with
      | none =>
        have e : Lute.factorAt p (c :: r) = .error p := by
          rw [Lute.factorAt.eq_def]
          dsimp only
          rw [hk]
        rw [e]
        rfl
      | some k =>
        show chk (match mPw dz0 r with
          | none => none
          | some (x_1, u) => _) = _
        have hk4 : k < 4 := by
          have := (List.idxOf?_eq_some_iff.mp hk).1
          simpa using this
        rw [pw_fac p k c r hk]
        cases hfa : Lute.factorAt p (c :: r) with
        | error e => rfl
        | ok y =>
          obtain ⟨⟨k', w⟩, q, u⟩ := y
          have ek : k' = k := by have := factorAt_k hfa; rw [hk] at this; exact (Option.some.inj this).symm
          subst ek
          cases w with
          | none =>
            dsimp only
            by_cases hl : k' < least
            · rw [if_pos hl]; rfl
            · rw [if_neg hl]; rfl
          | some nd =>
            obtain ⟨n, d⟩ := nd
            show chk (if k' < least then none else _) = _
            dsimp only
            by_cases hl : k' < least
            · rw [if_pos hl, if_pos hl]; rfl
            · rw [if_neg hl, if_neg hl]
              have e1 : uponL (facL k' (([n, (d : Int)] : List Int).getD 0 0) (([n, (d : Int)] : List Int).getD 1 0)) (ro x) = ro (x.plus (Lute.powerOf k' n d)) := by
                show uponL (facL k' n (d : Int)) (ro x) = _
                rw [fac_ro k' n d hk4, up_ro, plus_comm]
              rw [e1]
              cases u with
              | nil =>
                show (if isIv (ro (x.plus (Lute.powerOf k' n d))) = true then some (ro (x.plus (Lute.powerOf k' n d))) else none) = (fe (if (x.plus (Lute.powerOf k' n d)).ok = true then Except.ok (x.plus (Lute.powerOf k' n d)) else Except.error q)).map ro
                rw [iv_ok]
                by_cases hy : (x.plus (Lute.powerOf k' n d)).ok = true
                · rw [if_pos hy, if_pos hy]; rfl
                · rw [if_neg hy, if_neg hy]; rfl
              | cons z v =>
                rw [if_neg (by simp), sk_c (z := " ") (x := 32) rfl]
                dsimp only
                by_cases hz : z = 32
                · rw [if_pos hz, if_pos hz]
                  exact mFc_eq f (k' + 1) (q + 1) _ v
                · rw [if_neg hz, if_neg hz]; rfl
theorem mIv_eq (l : List UInt8) : mIv dz0 fz0 l = (fe (Lute.read l)).map ro := by
  have e2 : ∀ l, (match mFcs dz0 fz0 l with
      | none => none
      | some (x, _) => if isIv x = true then some x else none) = (fe (Lute.factorsAt (l.length + 1) 0 Lute.unison 0 l)).map ro := fun l => by
    have := mFc_eq (l.length + 1) 0 0 Lute.unison l
    rw [ro_un] at this
    rw [← this]
    unfold mFcs
    cases mFc dz0 fz0 (l.length + 1) 0 un5 l with
    | none => rfl
    | some y => obtain ⟨y, t⟩ := y; rfl
  unfold mIv
  cases l with
  | nil => exact e2 []
  | cons c r =>
    rw [see_c (z := "1") (x := 49) rfl]
    by_cases h : c = 49
    · subst h
      rw [if_pos (by simp)]
      unfold mUn
      rw [sk_c (z := "1") (x := 49) rfl, if_pos rfl]
      cases r with
      | nil => rfl
      | cons y u => rfl
    · rw [if_neg (by simp [h])]
      refine (e2 (c :: r)).trans ?_
      have : Lute.read (c :: r) = Lute.factorsAt ((c :: r).length + 1) 0 Lute.unison 0 (c :: r) := by
        unfold Lute.read
        split
        · rename_i q; cases q; exact absurd rfl h
        · rfl
      rw [this]
end Lt
end
section
set_option Elab.async false
set_option linter.all false
set_option maxRecDepth 100000
set_option maxHeartbeats 400000
namespace Lt
open PySem PySem.Spec PyProof.Rows L2
theorem read_d {b : List UInt8} {x : Iv} (h : Lute.read b = .ok x) : 0 < x.d := by
  have e : mIv dz0 fz0 b = some (ro x) := by rw [mIv_eq, h]; rfl
  have := (mIv_sm e).2.2.1
  rw [ro_eq] at this
  have h2 : (1 : Int) ≤ (x.d : Int) := this
  omega
/-- a blank, an interval, the line's end -/
def mIvL (g : List Int → Bool) (l : List UInt8) : Option (List Int × List UInt8) := match sk (" " : Str).cps.toList l with
  | none => none
  | some (_, t) => match mRest dz0 fz0 t with
    | none => none
    | some (x, u) => if g x = true then (match sk ("\n" : Str).cps.toList u with
      | none => none
      | some (_, v) => some (x, v)) else none
def rx : Option (Iv × List UInt8) → Option (List Int × List UInt8)
  | none => none
  | some (x, t) => some (ro x, t)
theorem ivL_eq (g : List Int → Bool) (fine : Iv → Bool) (h : ∀ x : Iv, 0 < x.d → g (ro x) = fine x) (p : Nat) (l : List UInt8) : mIvL g l = rx (fg (Lute.ivLine fine p l)) := by
  unfold mIvL Lute.ivLine
  have e1 : sk (" " : Str).cps.toList l = fg (Lute.want [32] p l) := (sk_want [32] p l).symm
  rw [e1]
  cases hw : Lute.want [32] p l with
  | error e => rfl
  | ok y =>
    obtain ⟨_, q, u⟩ := y
    show (match mRest dz0 fz0 u with
      | none => none
      | some (x, u) => _) = rx (fg (match Lute.read (u.takeWhile fun (c : UInt8) => c != 10) with
      | .error e => .error (q + e)
      | .ok x => if fine x = false then .error q else match Lute.want [10] (q + (u.takeWhile fun (c : UInt8) => c != 10).length) (u.drop (u.takeWhile fun (c : UInt8) => c != 10).length) with
        | .error e => .error e
        | .ok (_, z, v) => .ok (x, z, v)))
    have e2 : u.takeWhile lf = u.takeWhile fun (c : UInt8) => c != 10 := rfl
    unfold mRest
    rw [e2, mIv_eq]
    generalize hb : (u.takeWhile fun (c : UInt8) => c != 10) = b
    cases hr : Lute.read b with
    | error e => rfl
    | ok x =>
      show (if g (ro x) = true then _ else _) = _
      rw [h x (read_d hr)]
      cases hf : fine x with
      | false =>
        dsimp only
        rw [if_pos hf]
        rfl
      | true =>
        rw [if_pos rfl]
        dsimp only
        rw [if_neg (by rw [hf]; decide)]
        have e3 : sk ("\n" : Str).cps.toList (u.drop b.length) = fg (Lute.want [10] (q + b.length) (u.drop b.length)) := (sk_want [10] _ _).symm
        rw [e3]
        cases Lute.want [10] (q + b.length) (u.drop b.length) with
        | error e => rfl
        | ok y => obtain ⟨_, z, v⟩ := y; rfl
/-- a line's word, its number so far, its interval -/
def mLn3 (z : Str) (m : Bool) (g : List Int → Bool) (put : List Int → St3) (l : List UInt8) : Option (St3 × List UInt8) := match sk z.cps.toList l with
  | none => none
  | some (_, t) => if m = true then (match mIvL g t with
    | none => none
    | some (x, v) => some (put x, v)) else none
theorem ln_step {z : Str} {m : Bool} {g : List Int → Bool} {put : List Int → St3} {l : List UInt8} :
    (match (match mSW z m l with
      | none => none
      | some (_, t) => match mRest dz0 fz0 t with
        | none => none
        | some (x, u) => if g x = true then some (put x, u) else none : Option (St3 × List UInt8)) with
    | none => none
    | some (s', t) => match sk ("\n" : Str).cps.toList t with
      | none => none
      | some (_, u) => some (s', u)) = mLn3 z m g put l := by
  unfold mLn3 mSW mIvL
  cases sk z.cps.toList l with
  | none => rfl
  | some y =>
    obtain ⟨_, t⟩ := y
    cases m with
    | false => rfl
    | true =>
      simp only [if_true]
      cases sk (" " : Str).cps.toList t with
      | none => rfl
      | some y =>
        obtain ⟨_, t⟩ := y
        simp only
        cases mRest dz0 fz0 t with
        | none => rfl
        | some y =>
          obtain ⟨x, u⟩ := y
          simp only
          cases hg : g x with
          | false => rfl
          | true =>
            simp only [if_true]
            cases sk ("\n" : Str).cps.toList u with
            | none => rfl
            | some y => obtain ⟨_, v⟩ := y; rfl
theorem lineI_f {fr co ba : List (List Int)} {l : List UInt8} (h : see "f" l = true ∧ co.length = 0) : mLineI dz0 fz0 (fr, co, ba) l = mLn3 "fret" (decide (fr.length < 15)) (fun x => narrowL (fr.getLastD un5) x) (fun x => (fr ++ [x], co, ba)) l := by
  unfold mLineI
  rw [mPart, if_pos h, mFret, ← ln_step]
  all_goals rfl
theorem lineI_c {fr co ba : List (List Int)} {l : List UInt8} (h1 : ¬ (see "f" l = true ∧ co.length = 0)) (h : see "c" l = true ∧ ba.length = 0) : mLineI dz0 fz0 (fr, co, ba) l = mLn3 "course" (decide (co.length + ba.length < 14)) (fun x => fr.all fun f => isIv (uponL f x)) (fun x => (fr, co ++ [x], ba)) l := by
  unfold mLineI
  rw [mPart, if_neg h1, if_pos h, mCourse, ← ln_step]
  all_goals rfl
theorem lineI_b {fr co ba : List (List Int)} {l : List UInt8} (h1 : ¬ (see "f" l = true ∧ co.length = 0)) (h2 : ¬ (see "c" l = true ∧ ba.length = 0)) (h : see "b" l = true ∧ 0 < co.length) : mLineI dz0 fz0 (fr, co, ba) l = mLn3 "bass" (decide (co.length + ba.length < 14)) (fun x => true) (fun x => (fr, co, ba ++ [x])) l := by
  unfold mLineI
  rw [mPart, if_neg h1, if_neg h2, if_pos h, mBass, ← ln_step]
  simp only [if_true]
  all_goals rfl
theorem lineI_n {fr co ba : List (List Int)} {l : List UInt8} (h1 : ¬ (see "f" l = true ∧ co.length = 0)) (h2 : ¬ (see "c" l = true ∧ ba.length = 0)) (h3 : ¬ (see "b" l = true ∧ 0 < co.length)) : mLineI dz0 fz0 (fr, co, ba) l = none := by
  unfold mLineI
  rw [mPart, if_neg h1, if_neg h2, if_neg h3]
/-- what the specification says of such a line -/
def sLn (bs : List UInt8) (m : Bool) (fine : Iv → Bool) (put : Iv → Lute.Inst) (k : Lute.Inst → Nat → List UInt8 → Except Nat Lute.Inst) (p : Nat) (l : List UInt8) : Except Nat Lute.Inst := match Lute.want bs p l with
  | .error e => .error e
  | .ok (_, q, u) => if m = true then .error p else match Lute.ivLine fine q u with
    | .error e => .error e
    | .ok (x, q, u) => k (put x) q u
def fr3 (t : Lute.Inst) : St3 := (t.frets.map ro, t.courses.map ro, t.basses.map ro)
theorem want_lt : ∀ {bs : List UInt8} {p q : Nat} {l u : List UInt8}, Lute.want bs p l = .ok ((), q, u) → u.length + bs.length = l.length
  | [], p, q, l, u, h => by rw [Lute.want] at h; cases h; rfl
  | x :: bs, p, q, [], u, h => by rw [Lute.want] at h; cases h
  | x :: bs, p, q, c :: l, u, h => by
    rw [Lute.want] at h
    split at h
    · have := want_lt h
      simp only [List.length_cons]
      omega
    · cases h
theorem ivLine_d {fine : Iv → Bool} {p q : Nat} {l u : List UInt8} {x : Iv} (h : Lute.ivLine fine p l = .ok (x, q, u)) : 0 < x.d ∧ u.length ≤ l.length := by
  unfold Lute.ivLine at h
  cases hw : Lute.want [32] p l with
  | error e => rw [hw] at h; cases h
  | ok y =>
    obtain ⟨_, q', t⟩ := y
    have h1 := want_lt hw
    rw [hw] at h
    dsimp only at h
    cases hr : Lute.read (t.takeWhile fun (c : UInt8) => c != 10) with
    | error e => rw [hr] at h; cases h
    | ok y =>
      rw [hr] at h
      dsimp only at h
      split at h
      · cases h
      · split at h
        · cases h
        · rename_i hw2
          cases h
          have h2 := want_lt hw2
          rw [List.length_drop] at h2
          exact ⟨read_d hr, by omega⟩
theorem line_eq {z : Str} {bs : List UInt8} {m m' : Bool} {g : List Int → Bool} {fine : Iv → Bool} {put : List Int → St3} {put' : Iv → Lute.Inst} {k : Lute.Inst → Nat → List UInt8 → Except Nat Lute.Inst} {F : St3 → List UInt8 → Option St3} {p : Nat} {l : List UInt8}
    (hz : z.cps.toList = bs.map (·.toNat)) (hm : m' = !m) (hg : ∀ x : Iv, 0 < x.d → g (ro x) = fine x) (hp : ∀ x, put (ro x) = fr3 (put' x)) (hk : ∀ x q u, 0 < x.d → u.length + bs.length ≤ l.length → F (put (ro x)) u = (fe (k (put' x) q u)).map fr3) :
    (match mLn3 z m g put l with
      | none => none
      | some (s, t) => F s t) = (fe (sLn bs m' fine put' k p l)).map fr3 := by
  unfold mLn3 sLn
  have e1 : sk z.cps.toList l = fg (Lute.want bs p l) := by rw [hz]; exact (sk_want bs p l).symm
  rw [e1]
  cases hw : Lute.want bs p l with
  | error e => rfl
  | ok y =>
    obtain ⟨_, q, u⟩ := y
    have hl := want_lt hw
    subst hm
    cases m with
    | false => rfl
    | true =>
      show (match (match mIvL g u with
        | none => none
        | some (x, v) => some (put x, v) : Option (St3 × List UInt8)) with
        | none => none
        | some (s, t) => F s t) = (fe (match Lute.ivLine fine q u with
        | .error e => .error e
        | .ok (x, q, u) => k (put' x) q u)).map fr3
      rw [ivL_eq g fine hg q u]
      cases hv : Lute.ivLine fine q u with
      | error e => rfl
      | ok y =>
        obtain ⟨x, q2, v⟩ := y
        have hd := ivLine_d hv
        exact hk x q2 v hd.1 (by omega)
theorem lastD_ro : ∀ (l : List Iv), (l.map ro).getLastD un5 = ro (l.getLastD Lute.unison) := fun l => by
  rw [List.getLastD_eq_getLast?, List.getLastD_eq_getLast?, List.getLast?_map]
  cases l.getLast? <;> rfl
theorem lastD_d {l : List Iv} (h : ∀ x ∈ l, 0 < x.d) : 0 < (l.getLastD Lute.unison).d := by
  rw [List.getLastD_eq_getLast?]
  cases hl : l.getLast? with
  | none => decide
  | some x => exact h x (List.mem_of_getLast? hl)
theorem all_ro (l : List Iv) (x : Iv) : ((l.map ro).all fun f => isIv (uponL f (ro x))) = Lute.soundsAll l x := by
  unfold Lute.soundsAll
  rw [List.all_map]
  congr 1
  funext f
  show isIv (uponL (ro f) (ro x)) = _
  rw [up_ro, plus_comm, iv_ok]
theorem isE {α : Type} (l : List α) : l.isEmpty = true ↔ l.length = 0 := by cases l <;> simp
theorem mLines_eq : ∀ (f p : Nat) (t : Lute.Inst) (l : List UInt8), l.length < f → InK t → mLines dz0 fz0 f (fr3 t) l = (fe (Lute.linesAt f t p l)).map fr3
  | 0, p, t, l, h, _ => by omega
  | f + 1, p, t, [], h, hi => by
    show mLines dz0 fz0 (f + 1) (t.frets.map ro, t.courses.map ro, t.basses.map ro) [] = _
    rw [mLines_s, Lute.linesAt]
    by_cases hc : t.courses.isEmpty = true
    · rw [if_pos hc, if_neg (by rw [List.length_map]; exact fun q => q.2 ((isE _).mp hc)), lineI_n (by rw [see_nil]; rintro ⟨q, _⟩; cases q) (by rw [see_nil]; rintro ⟨q, _⟩; cases q) (by rw [see_nil]; rintro ⟨q, _⟩; cases q)]
      rfl
    · rw [if_neg hc, if_pos ⟨rfl, by rw [List.length_map]; exact fun q => hc ((isE _).mpr q)⟩]
      rfl
  | f + 1, p, t, c :: r, h, hi => by
    show mLines dz0 fz0 (f + 1) (t.frets.map ro, t.courses.map ro, t.basses.map ro) (c :: r) = _
    rw [mLines_s, Lute.linesAt, if_neg (by rintro ⟨q, _⟩; cases q)]
    have hlen : r.length < f := by simpa using h
    have ih : ∀ (t' : Lute.Inst) (q : Nat) (u : List UInt8), InK t' → u.length < f → mLines dz0 fz0 f (fr3 t') u = (fe (Lute.linesAt f t' q u)).map fr3 := fun t' q u h1 h2 => mLines_eq f q t' u h2 h1
    have c1 : (see "f" (c :: r) = true ∧ (t.courses.map ro).length = 0) ↔ (c = 102 ∧ t.courses.isEmpty = true) := by rw [see_c (z := "f") (x := 102) rfl, List.length_map, isE]; simp
    have c2 : (see "c" (c :: r) = true ∧ (t.basses.map ro).length = 0) ↔ (c = 99 ∧ t.basses.isEmpty = true) := by rw [see_c (z := "c") (x := 99) rfl, List.length_map, isE]; simp
    have c3 : (see "b" (c :: r) = true ∧ 0 < (t.courses.map ro).length) ↔ (c = 98 ∧ t.courses.isEmpty = false) := by
      rw [see_c (z := "b") (x := 98) rfl, List.length_map]
      cases t.courses <;> simp
    by_cases k1 : c = 102 ∧ t.courses.isEmpty = true
    · rw [if_pos k1, lineI_f (c1.mpr k1)]
      have := line_eq (z := "fret") (bs := Lute.ascii "fret") (m := decide ((t.frets.map ro).length < 15)) (m' := decide (Lute.FRETS ≤ t.frets.length)) (g := fun x => narrowL ((t.frets.map ro).getLastD un5) x) (fine := fun (x : Iv) => (t.frets.getLastD Lute.unison).lt x)
        (put := fun x => (t.frets.map ro ++ [x], t.courses.map ro, t.basses.map ro)) (put' := fun x => { t with frets := t.frets ++ [x] }) (k := fun t' q u => Lute.linesAt f t' q u) (F := fun s t => mLines dz0 fz0 f s t) (p := p) (l := c :: r) (by decide +kernel)
        (by rw [List.length_map, ← decide_not, decide_eq_decide]; show 15 ≤ _ ↔ _; omega) (fun x hx => by rw [lastD_ro]; exact lt_ro _ _ (lastD_d hi.1) hx) (fun x => by show _ = fr3 _; unfold fr3; simp)
        (fun x q u hx hu => by
          have e : (t.frets.map ro ++ [ro x], t.courses.map ro, t.basses.map ro) = fr3 { t with frets := t.frets ++ [x] } := by unfold fr3; simp
          show mLines dz0 fz0 f (t.frets.map ro ++ [ro x], t.courses.map ro, t.basses.map ro) u = _
          rw [e]
          refine ih _ q u ⟨fun y hy => ?_, hi.2.1, hi.2.2⟩ ?_
          · rcases List.mem_append.mp hy with hy | hy
            · exact hi.1 y hy
            · rw [List.mem_singleton.mp hy]; exact hx
          · have hb : (Lute.ascii "fret").length = 4 := by decide +kernel
            rw [hb] at hu; simp at hu; omega)
      refine Eq.trans this ?_
      unfold sLn
      cases Lute.want (Lute.ascii "fret") p (c :: r) with
      | error e => rfl
      | ok y =>
        obtain ⟨_, q, u⟩ := y
        dsimp only
        by_cases hF : Lute.FRETS ≤ t.frets.length
        · rw [if_pos (by simpa using hF), if_pos hF]
        · rw [if_neg (by simpa using hF), if_neg hF]; rfl
    · rw [if_neg k1]
      by_cases k2 : c = 99 ∧ t.basses.isEmpty = true
      · rw [if_pos k2, lineI_c (fun q => k1 (c1.mp q)) (c2.mpr k2)]
        have := line_eq (z := "course") (bs := Lute.ascii "course") (m := decide ((t.courses.map ro).length + (t.basses.map ro).length < 14)) (m' := decide (Lute.COURSES ≤ t.opens.length)) (g := fun x => (t.frets.map ro).all fun f => isIv (uponL f x)) (fine := Lute.soundsAll t.frets)
          (put := fun x => (t.frets.map ro, t.courses.map ro ++ [x], t.basses.map ro)) (put' := fun x => { t with courses := t.courses ++ [x] }) (k := fun t' q u => Lute.linesAt f t' q u) (F := fun s t => mLines dz0 fz0 f s t) (p := p) (l := c :: r) (by decide +kernel)
          (by rw [List.length_map, List.length_map, ← decide_not, decide_eq_decide]; unfold Lute.Inst.opens; rw [List.length_append]; show 14 ≤ _ ↔ _; omega) (fun x hx => all_ro _ _) (fun x => by show _ = fr3 _; unfold fr3; simp)
          (fun x q u hx hu => by
            have e : (t.frets.map ro, t.courses.map ro ++ [ro x], t.basses.map ro) = fr3 { t with courses := t.courses ++ [x] } := by unfold fr3; simp
            show mLines dz0 fz0 f (t.frets.map ro, t.courses.map ro ++ [ro x], t.basses.map ro) u = _
            rw [e]
            refine ih _ q u ⟨hi.1, fun y hy => ?_, hi.2.2⟩ ?_
            · rcases List.mem_append.mp hy with hy | hy
              · exact hi.2.1 y hy
              · rw [List.mem_singleton.mp hy]; exact hx
            · have hb : (Lute.ascii "course").length = 6 := by decide +kernel
              rw [hb] at hu; simp at hu; omega)
        refine Eq.trans this ?_
        unfold sLn
        cases Lute.want (Lute.ascii "course") p (c :: r) with
        | error e => rfl
        | ok y =>
          obtain ⟨_, q, u⟩ := y
          dsimp only
          by_cases hF : Lute.COURSES ≤ t.opens.length
          · rw [if_pos (by simpa using hF), if_pos hF]
          · rw [if_neg (by simpa using hF), if_neg hF]; rfl
      · rw [if_neg k2]
        by_cases k3 : c = 98 ∧ t.courses.isEmpty = false
        · rw [if_pos k3, lineI_b (fun q => k1 (c1.mp q)) (fun q => k2 (c2.mp q)) (c3.mpr k3)]
          have := line_eq (z := "bass") (bs := Lute.ascii "bass") (m := decide ((t.courses.map ro).length + (t.basses.map ro).length < 14)) (m' := decide (Lute.COURSES ≤ t.opens.length)) (g := fun x => true) (fine := fun _ => true)
            (put := fun x => (t.frets.map ro, t.courses.map ro, t.basses.map ro ++ [x])) (put' := fun x => { t with basses := t.basses ++ [x] }) (k := fun t' q u => Lute.linesAt f t' q u) (F := fun s t => mLines dz0 fz0 f s t) (p := p) (l := c :: r) (by decide +kernel)
            (by rw [List.length_map, List.length_map, ← decide_not, decide_eq_decide]; unfold Lute.Inst.opens; rw [List.length_append]; show 14 ≤ _ ↔ _; omega) (fun x hx => rfl) (fun x => by show _ = fr3 _; unfold fr3; simp)
            (fun x q u hx hu => by
              have e : (t.frets.map ro, t.courses.map ro, t.basses.map ro ++ [ro x]) = fr3 { t with basses := t.basses ++ [x] } := by unfold fr3; simp
              show mLines dz0 fz0 f (t.frets.map ro, t.courses.map ro, t.basses.map ro ++ [ro x]) u = _
              rw [e]
              refine ih _ q u ⟨hi.1, hi.2.1, fun y hy => ?_⟩ ?_
              · rcases List.mem_append.mp hy with hy | hy
                · exact hi.2.2 y hy
                · rw [List.mem_singleton.mp hy]; exact hx
              · have hb : (Lute.ascii "bass").length = 4 := by decide +kernel
                rw [hb] at hu; simp at hu; omega)
          refine Eq.trans this ?_
          unfold sLn
          cases Lute.want (Lute.ascii "bass") p (c :: r) with
          | error e => rfl
          | ok y =>
            obtain ⟨_, q, u⟩ := y
            dsimp only
            by_cases hF : Lute.COURSES ≤ t.opens.length
            · rw [if_pos (by simpa using hF), if_pos hF]
            · rw [if_neg (by simpa using hF), if_neg hF]; rfl
        · rw [if_neg k3, lineI_n (fun q => k1 (c1.mp q)) (fun q => k2 (c2.mp q)) (fun q => k3 (c3.mp q))]
          rfl
theorem mInst_eq (cs : List UInt8) : mInst dz0 fz0 cs = (fe (Lute.readInst cs)).map fr3 := by
  unfold mInst mLen Lute.readInst
  have e1 : sk ("length " : Str).cps.toList cs = fg (Lute.want (Lute.ascii "length ") 0 cs) := by
    rw [show ("length " : Str).cps.toList = (Lute.ascii "length ").map (·.toNat) by decide +kernel]
    exact (sk_want _ 0 cs).symm
  rw [e1]
  cases Lute.want (Lute.ascii "length ") 0 cs with
  | error e => rfl
  | ok y =>
    obtain ⟨_, p, u⟩ := y
    show (match (if see "0" u = true then none else match wn dz0 7 u with
      | none => none
      | some (n, u) => if n < 10000 ∨ 200000 < n then none else sk ("\n" : Str).cps.toList u : Option (Unit × List UInt8)) with
      | none => none
      | some (_, t) => mLines dz0 fz0 (t.length + 1) ([], [], []) t) = (fe (match Lute.longNumber p u with
      | .error e => .error e
      | .ok (n, q, v) => if n < Lute.SHORT ∨ Lute.LONG < n then .error p else match Lute.want [10] q v with
        | .error e => .error e
        | .ok (_, q, v) => Lute.linesAt (v.length + 1) ⟨n, [], [], []⟩ q v)).map fr3
    have e2 : (if see "0" u = true then none else match wn dz0 7 u with
      | none => none
      | some (n, u) => if n < 10000 ∨ 200000 < n then none else sk ("\n" : Str).cps.toList u : Option (Unit × List UInt8)) = match fg (Lute.longNumber p u) with
      | none => none
      | some (n, u) => if n < 10000 ∨ 200000 < n then none else sk ("\n" : Str).cps.toList u := by
      rw [← wn_long p u]
      by_cases h0 : see "0" u = true
      · rw [if_pos h0, if_pos h0]
      · rw [if_neg h0, if_neg h0]
    rw [e2]
    cases Lute.longNumber p u with
    | error e => rfl
    | ok y =>
      obtain ⟨n, q, v⟩ := y
      show (match (if n < 10000 ∨ 200000 < n then none else sk ("\n" : Str).cps.toList v : Option (Unit × List UInt8)) with
        | none => none
        | some (_, t) => mLines dz0 fz0 (t.length + 1) ([], [], []) t) = (fe (if n < Lute.SHORT ∨ Lute.LONG < n then .error p else _)).map fr3
      by_cases hn : n < 10000 ∨ 200000 < n
      · rw [if_pos hn, if_pos (show n < Lute.SHORT ∨ Lute.LONG < n from hn)]; rfl
      · rw [if_neg hn, if_neg (show ¬ (n < Lute.SHORT ∨ Lute.LONG < n) from hn)]
        have e3 : sk ("\n" : Str).cps.toList v = fg (Lute.want [10] q v) := (sk_want [10] q v).symm
        rw [e3]
        cases Lute.want [10] q v with
        | error e => rfl
        | ok y =>
          obtain ⟨_, q2, v2⟩ := y
          exact mLines_eq (v2.length + 1) q2 ⟨n, [], [], []⟩ v2 (by omega) ⟨by simp, by simp, by simp⟩
end Lt
end
section
set_option Elab.async false
set_option linter.all false
set_option maxRecDepth 100000
set_option maxHeartbeats 400000
namespace Lt
open PySem PySem.Spec PyProof.Rows L2
theorem skT_want : ∀ (bs : List UInt8) (p : Nat) (l : List UInt8), fg (LuteTab.want bs p l) = sk (bs.map (·.toNat)) l
  | [], p, l => rfl
  | x :: bs, p, [] => rfl
  | x :: bs, p, c :: t => by
    rw [LuteTab.want, List.map_cons, sk]
    by_cases h : c = x
    · rw [if_pos h, if_pos (by rw [h]), skT_want]
    · rw [if_neg h, if_neg (fun q => h ((u8_eq c x).mp q))]; rfl
theorem idx_F (c : UInt8) : idxI (zF ++ ".").cps.toList ((c.toNat : Nat) : Int) = if c = 46 then some 16 else LuteTab.letters.idxOf? c := all8 (p := fun c => idxI (zF ++ ".").cps.toList ((c.toNat : Nat) : Int) = if c = 46 then some 16 else LuteTab.letters.idxOf? c) (by decide +kernel) c
theorem idx_I (c : UInt8) : idxI (zI ++ ".").cps.toList ((c.toNat : Nat) : Int) = if c = 46 then some 16 else LuteTab.figures.idxOf? c := all8 (p := fun c => idxI (zI ++ ".").cps.toList ((c.toNat : Nat) : Int) = if c = 46 then some 16 else LuteTab.figures.idxOf? c) (by decide +kernel) c
theorem idx_P (c : UInt8) : idxI zP.cps.toList ((c.toNat : Nat) : Int) = LuteTab.capitals.idxOf? c := all8 (p := fun c => idxI zP.cps.toList ((c.toNat : Nat) : Int) = LuteTab.capitals.idxOf? c) (by decide +kernel) c
theorem idx_X (c : UInt8) : idxI zX.cps.toList ((c.toNat : Nat) : Int) = LuteTab.crossings.idxOf? c := all8 (p := fun c => idxI zX.cps.toList ((c.toNat : Nat) : Int) = LuteTab.crossings.idxOf? c) (by decide +kernel) c
theorem idx_L (c : UInt8) : idxI zL.cps.toList ((c.toNat : Nat) : Int) = [(120 : UInt8), 116, 115, 101, 113, 104, 119].idxOf? c := all8 (p := fun c => idxI zL.cps.toList ((c.toNat : Nat) : Int) = [(120 : UInt8), 116, 115, 101, 113, 104, 119].idxOf? c) (by decide +kernel) c
theorem idx_4567 (c : UInt8) : idxI ("4567" : Str).cps.toList ((c.toNat : Nat) : Int) = if 52 ≤ c ∧ c ≤ 55 then some (c.toNat - 52) else none := all8 (p := fun c => idxI ("4567" : Str).cps.toList ((c.toNat : Nat) : Int) = if 52 ≤ c ∧ c ≤ 55 then some (c.toNat - 52) else none) (by decide +kernel) c
theorem idx_789 (c : UInt8) : idxI ("789" : Str).cps.toList ((c.toNat : Nat) : Int) = if 55 ≤ c ∧ c ≤ 57 then some (c.toNat - 55) else none := all8 (p := fun c => idxI ("789" : Str).cps.toList ((c.toNat : Nat) : Int) = if 55 ≤ c ∧ c ≤ 57 then some (c.toNat - 55) else none) (by decide +kernel) c
theorem idx_01234 (c : UInt8) : idxI ("01234" : Str).cps.toList ((c.toNat : Nat) : Int) = if 48 ≤ c ∧ c ≤ 52 then some (c.toNat - 48) else none := all8 (p := fun c => idxI ("01234" : Str).cps.toList ((c.toNat : Nat) : Int) = if 48 ≤ c ∧ c ≤ 52 then some (c.toNat - 48) else none) (by decide +kernel) c
theorem idx_54321 (c : UInt8) : idxI ("54321" : Str).cps.toList ((c.toNat : Nat) : Int) = if 49 ≤ c ∧ c ≤ 53 then some (53 - c.toNat) else none := all8 (p := fun c => idxI ("54321" : Str).cps.toList ((c.toNat : Nat) : Int) = if 49 ≤ c ∧ c ≤ 53 then some (53 - c.toNat) else none) (by decide +kernel) c
theorem u8_le (c : UInt8) (n : Nat) (hn : n < 256) : (UInt8.ofNat n ≤ c ↔ n ≤ c.toNat) ∧ (c ≤ UInt8.ofNat n ↔ c.toNat ≤ n) := by
  have e : (UInt8.ofNat n).toNat = n := by rw [UInt8.toNat_ofNat']; omega
  constructor
  · rw [UInt8.le_iff_toNat_le, e]
  · rw [UInt8.le_iff_toNat_le, e]
theorem idxOf_lt {l : List UInt8} {c : UInt8} {i : Nat} (h : l.idxOf? c = some i) : i < l.length := (List.idxOf?_eq_some_iff.mp h).1
theorem neck_step {z : Str} {signs : List UInt8} (hz : z.length = 16) (hs : signs.length = 16) (hi : ∀ c : UInt8, idxI (z ++ ".").cps.toList ((c.toNat : Nat) : Int) = if c = 46 then some 16 else signs.idxOf? c) : ∀ (ns : List Nat) (p : Nat) (l : List UInt8), mNeck z ns l = fg (LuteTab.sixAt signs ns p l)
  | [], p, l => rfl
  | n :: ns, p, [] => rfl
  | n :: ns, p, c :: t => by
    rw [mNeck, LuteTab.sixAt, pk_cons, hi, LuteTab.fretAt]
    by_cases h : c = 46
    · rw [if_pos h, if_pos (show c = LuteTab.POINT from h)]
      show (match mNeck z ns t with
        | none => none
        | some (s, u) => some ((if 16 < z.length then ⟨n, 16⟩ :: s else s), u)) = fg (match LuteTab.sixAt signs ns (p + 1) t with
        | .error e => .error e
        | .ok (s, z, v) => .ok (s, z, v))
      rw [neck_step hz hs hi ns (p + 1) t]
      cases LuteTab.sixAt signs ns (p + 1) t with
      | error e => rfl
      | ok y =>
        obtain ⟨s, q, v⟩ := y
        show some ((if 16 < z.length then _ else s), v) = some (s, v)
        rw [if_neg (by omega)]
    · rw [if_neg h, if_neg (show ¬ c = LuteTab.POINT from h)]
      cases hx : signs.idxOf? c with
      | none => rfl
      | some f =>
        have hf := idxOf_lt hx
        show (match mNeck z ns t with
          | none => none
          | some (s, u) => some ((if f < z.length then ⟨n, f⟩ :: s else s), u)) = fg (match LuteTab.sixAt signs ns (p + 1) t with
          | .error e => .error e
          | .ok (s, z, v) => .ok (⟨n, f⟩ :: s, z, v))
        rw [neck_step hz hs hi ns (p + 1) t]
        cases LuteTab.sixAt signs ns (p + 1) t with
        | error e => rfl
        | ok y =>
          obtain ⟨s, q, v⟩ := y
          show some ((if f < z.length then _ else s), v) = some (⟨n, f⟩ :: s, v)
          rw [if_pos (by omega)]
theorem sl_eq : ∀ (l : List UInt8) (n p : Nat), n ≤ 3 → mSl (3 - n) l = fg (LuteTab.slashes n p l)
  | [], n, p, hn => by
    rw [LuteTab.slashes.eq_def]
    match n, hn with
    | 0, _ => rfl
    | 1, _ => rfl
    | 2, _ => rfl
    | 3, _ => rfl
  | c :: t, n, p, hn => by
    by_cases h1 : c = 47
    · subst h1
      have e : LuteTab.slashes n p (47 :: t) = if n < 3 then LuteTab.slashes (n + 1) (p + 1) t else .error p := by rw [LuteTab.slashes.eq_def]; rfl
      rw [e]
      by_cases h3 : n < 3
      · obtain ⟨m, hm⟩ : ∃ m, 3 - n = m + 1 := ⟨2 - n, by omega⟩
        rw [if_pos h3, hm, mSl, see_c (z := "/") (x := 47) rfl, if_pos (by simp), sk_c (z := "/") (x := 47) rfl, if_pos rfl]
        show mSl m t = _
        rw [show m = 3 - (n + 1) by omega]
        exact sl_eq t (n + 1) (p + 1) (by omega)
      · have : n = 3 := by omega
        subst this
        rw [if_neg h3, Nat.sub_self, mSl, sk_c (z := "a") (x := 97) rfl, if_neg (by decide)]
        rfl
    · have e : LuteTab.slashes n p (c :: t) = if c = 97 then .ok (7 + n, p + 1, t) else .error p := by
        by_cases h2 : c = 97
        · subst h2; rw [if_pos rfl, LuteTab.slashes.eq_def]; rfl
        · rw [if_neg h2, LuteTab.slashes.eq_def]
          split
          · rename_i q; cases q; exact absurd rfl h1
          · rename_i q; cases q; exact absurd rfl h2
          · rfl
      rw [e]
      have key : mSl (3 - n) (c :: t) = match sk ("a" : Str).cps.toList (c :: t) with
        | none => none
        | some (_, t) => some (7 + n, t) := by
        by_cases h3 : n < 3
        · obtain ⟨m, hm⟩ : ∃ m, 3 - n = m + 1 := ⟨2 - n, by omega⟩
          rw [hm, mSl, see_c (z := "/") (x := 47) rfl, if_neg (by simp [h1]), show 9 - m = 7 + n by omega]; all_goals rfl
        · have : n = 3 := by omega
          subst this
          rw [Nat.sub_self, mSl]; all_goals rfl
      rw [key, sk_c (z := "a") (x := 97) rfl]
      by_cases h2 : c = 97
      · rw [if_pos h2, if_pos h2]; rfl
      · rw [if_neg h2, if_neg h2]; rfl
theorem fb_eq (p : Nat) (l : List UInt8) : mFB l = fg (LuteTab.frenchBassAt p l) := by
  cases l with
  | nil => rfl
  | cons c t =>
    unfold mFB
    rw [LuteTab.frenchBassAt]
    have hs : see "4567" (c :: t) = (if 52 ≤ c ∧ c ≤ 55 then some (c.toNat - 52) else none : Option Nat).isSome := by
      show (idxI ("4567" : Str).cps.toList ((c.toNat : Nat) : Int)).isSome = _
      rw [idx_4567]
    rw [hs, pk_cons, idx_4567]
    by_cases h : 52 ≤ c ∧ c ≤ 55
    · have h1 : 52 ≤ c.toNat := (u8_le c 52 (by decide)).1.mp h.1
      rw [if_pos h, if_pos h]
      show some (7 + 4 + (c.toNat - 52), t) = some (c.toNat - 48 + 7, t)
      congr 2
      omega
    · rw [if_neg h, if_neg h]
      exact sl_eq (c :: t) 0 p (by omega)
theorem bn_eq (p : Nat) (l : List UInt8) : mBN l = fg (LuteTab.numberAt p l) := by
  cases l with
  | nil => rfl
  | cons c t =>
    unfold mBN
    rw [LuteTab.numberAt.eq_def, see_c (z := "1") (x := 49) rfl, pk_cons, idx_789]
    dsimp only
    by_cases h : c = 49
    · subst h
      rw [if_pos (by simp), if_neg (by decide), if_pos rfl, sk_c (z := "1") (x := 49) rfl, if_pos rfl]
      cases t with
      | nil => rfl
      | cons d u =>
        show (match pk "01234" (d :: u) with
          | none => none
          | some (n, u) => some (10 + n, u)) = fg (if 48 ≤ d ∧ d ≤ 52 then .ok (10 + (d.toNat - 48), p + 2, u) else .error (p + 1))
        rw [pk_cons, idx_01234]
        by_cases hd : 48 ≤ d ∧ d ≤ 52
        · rw [if_pos hd, if_pos hd]; rfl
        · rw [if_neg hd, if_neg hd]; rfl
    · rw [if_neg (by simp [h])]
      by_cases h7 : 55 ≤ c ∧ c ≤ 57
      · have h1 : 55 ≤ c.toNat := (u8_le c 55 (by decide)).1.mp h7.1
        rw [if_pos h7, if_pos h7]
        show some (7 + (c.toNat - 55), t) = some (c.toNat - 48, t)
        congr 2
        omega
      · rw [if_neg h7, if_neg h7, if_neg h]; rfl
theorem fb_7 {l t : List UInt8} {n : Nat} (h : mFB l = some (n, t)) : 7 ≤ n := by
  unfold mFB at h
  split at h
  · cases hp : pk "4567" l with
    | none => rw [hp] at h; cases h
    | some x => obtain ⟨i, y⟩ := x; rw [hp] at h; cases h; omega
  · have : ∀ {f : Nat} {l t : List UInt8} {n : Nat}, f ≤ 3 → mSl f l = some (n, t) → 7 ≤ n := by
      intro f
      induction f with
      | zero =>
        intro l t n _ h
        rw [mSl] at h
        split at h
        · cases h
        · cases h; omega
      | succ f ih =>
        intro l t n hf h
        rw [mSl] at h
        split at h
        · split at h
          · cases h
          · exact ih (by omega) h
        · split at h
          · cases h
          · cases h; omega
    exact this (by omega) h
theorem bn_7 {l t : List UInt8} {n : Nat} (h : mBN l = some (n, t)) : 7 ≤ n := by
  unfold mBN at h
  split at h
  · split at h
    · cases h
    · split at h
      · cases h
      · cases h; omega
  · split at h
    · cases h
    · cases h; omega
end Lt
end
section
set_option Elab.async false
set_option linter.all false
set_option maxRecDepth 100000
set_option maxHeartbeats 400000
namespace Lt
open PySem PySem.Spec PyProof.Rows L2
def thenNL : Option (List Stop × List UInt8) → Option (List Stop × List UInt8)
  | none => none
  | some (s, t) => match sk ("\n" : Str).cps.toList t with
    | none => none
    | some (_, u) => some (s, u)
/-- the last course is known -/
def LO (k : Nat) (acc : List Stop) (last : Nat) : Prop := ∀ s : Stop, k ≤ s.course → lastOk acc s = decide (last < s.course)
theorem lo_snoc (k : Nat) (acc : List Stop) (s : Stop) : LO k (acc ++ [s]) s.course := fun s' _ => by
  unfold lastOk
  rw [List.getLast?_append]
  rfl
theorem lo_nil (k : Nat) (hk : 1 ≤ k) : LO k [] 0 := fun s' h => by
  unfold lastOk
  exact (decide_eq_true (by omega)).symm
theorem lo_neck {acc : List Stop} (h : ∀ s ∈ acc, s.course ≤ 6) : LO 7 acc 6 := fun s' h' => by
  unfold lastOk
  cases hl : acc.getLast? with
  | none => exact (decide_eq_true (by omega)).symm
  | some x =>
    have := h x (List.mem_of_getLast? hl)
    show decide (x.course < s'.course) = decide (6 < s'.course)
    rw [decide_eq_decide]
    omega
theorem pre_cons (acc : List Stop) (s : Stop) (o : Option (List Stop × List UInt8)) : pre (acc ++ [s]) o = pre acc (match o with
    | none => none
    | some (l, t) => some (s :: l, t)) := by
  cases o with
  | none => rfl
  | some x => obtain ⟨l, t⟩ := x; simp [pre]
theorem bs_eq {m : List UInt8 → Option (Nat × List UInt8)} {rd : Nat → List UInt8 → LuteTab.Rd Nat} (hm : ∀ p l, m l = fg (rd p l)) (h7 : ∀ {l t n}, m l = some (n, t) → 7 ≤ n) (hl : ∀ {l t n}, m l = some (n, t) → t.length < l.length) :
    ∀ (f : Nat) (acc : List Stop) (last p : Nat) (l : List UInt8), l.length < f → LO 7 acc last → thenNL (mBs m f acc l) = pre acc (fg (LuteTab.bassesAt rd f last p l))
  | 0, _, _, _, l, h, _ => by omega
  | f + 1, acc, last, p, [], h, lo => by
    rw [mBs, LuteTab.bassesAt, see_nil, if_neg (by decide)]
    rfl
  | f + 1, acc, last, p, c :: r, h, lo => by
    rw [mBs, LuteTab.bassesAt, see_c (z := " ") (x := 32) rfl]
    by_cases h1 : c = 10
    · subst h1
      rw [if_neg (by decide), if_pos (show (10 : UInt8) = LuteTab.END from rfl)]
      show (match sk ("\n" : Str).cps.toList (10 :: r) with
        | none => none
        | some (_, u) => some (acc, u)) = _
      rw [sk_c (z := "\n") (x := 10) rfl, if_pos rfl]
      simp [pre, fg]
    · rw [if_neg (show ¬ c = LuteTab.END from h1)]
      by_cases h2 : c = 32
      · subst h2
        rw [if_pos (by simp), if_neg (by intro q; exact q rfl), sk_c (z := " ") (x := 32) rfl, if_pos rfl]
        show thenNL (match m r with
          | none => none
          | some (b, u) => if lastOk acc ⟨b, 0⟩ = true then mBs m f (acc ++ [⟨b, 0⟩]) u else none) = _
        have hr := hm (p + 1) r
        rw [hr]
        cases hrd : rd (p + 1) r with
        | error e => rfl
        | ok y =>
          obtain ⟨b, q, u⟩ := y
          have hmr : m r = some (b, u) := by rw [hr, hrd]; rfl
          have hb := h7 hmr
          have hlen := hl hmr
          show thenNL (if lastOk acc ⟨b, 0⟩ = true then mBs m f (acc ++ [⟨b, 0⟩]) u else none) = pre acc (fg (if b ≤ last then .error (p + 1) else match LuteTab.bassesAt rd f b q u with
            | .error e => .error e
            | .ok (l, z, v) => .ok (⟨b, 0⟩ :: l, z, v)))
          rw [lo ⟨b, 0⟩ hb]
          by_cases hlt : last < b
          · rw [if_pos (by simpa using hlt), if_neg (by omega)]
            have hrl : r.length < f := by simpa using h
            have ihh := bs_eq hm h7 hl f (acc ++ [(⟨b, 0⟩ : Stop)]) b q u (by omega) (lo_snoc 7 acc (⟨b, 0⟩ : Stop))
            rw [ihh, pre_cons]
            cases LuteTab.bassesAt rd f b q u with
            | error e => rfl
            | ok y => obtain ⟨l, z, v⟩ := y; rfl
          · rw [if_neg (by simpa using hlt), if_pos (by omega)]
            rfl
      · rw [if_neg (by simp [h2]), if_pos (show c ≠ LuteTab.BLANK from h2)]
        show (match sk ("\n" : Str).cps.toList (c :: r) with
          | none => none
          | some (_, u) => some (acc, u)) = _
        rw [sk_c (z := "\n") (x := 10) rfl, if_neg h1]
        rfl
theorem tm_eq (c : UInt8) (hc : (idxI zX.cps.toList ((c.toNat : Nat) : Int)).isSome = true) : ∀ (f j : Nat) (t : List UInt8), mTm ((c.toNat : Nat) : Int) f j t = some (j + LuteTab.again c f t, t.drop (LuteTab.again c f t))
  | 0, j, t => by rw [mTm, LuteTab.again]; rfl
  | f + 1, j, [] => by
    have : ¬ bt [] = ((c.toNat : Nat) : Int) := by
      show ¬ (256 : Int) = _
      have := UInt8.toNat_lt c
      omega
    have e0 : LuteTab.again c (f + 1) [] = 0 := rfl
    rw [mTm, if_neg this, e0]
    rfl
  | f + 1, j, x :: r => by
    rw [mTm, LuteTab.again]
    have e : (bt (x :: r) = ((c.toNat : Nat) : Int)) ↔ x = c := by
      rw [← u8_eq]
      show ((x.toNat : Nat) : Int) = _ ↔ _
      omega
    by_cases h : x = c
    · subst h
      rw [if_pos (e.mpr rfl), if_pos rfl, pk_cons]
      obtain ⟨i, hi⟩ := Option.isSome_iff_exists.mp hc
      rw [hi]
      show mTm ((x.toNat : Nat) : Int) f (j + 1) r = _
      rw [tm_eq x hc f (j + 1) r, List.drop_succ_cons]
      congr 2
      omega
    · rw [if_neg (fun q => h (e.mp q)), if_neg h]; rfl
theorem gs_eq (p : Nat) (l : List UInt8) : mGS l = fg (LuteTab.germanAt p l) := by
  cases l with
  | nil => rfl
  | cons c t =>
    unfold mGS
    rw [see_c (z := "-") (x := 45) rfl, LuteTab.germanAt.eq_def]
    dsimp only
    have hs5 : see "54321" (c :: t) = (if 49 ≤ c ∧ c ≤ 53 then some (53 - c.toNat) else none : Option Nat).isSome := by
      show (idxI ("54321" : Str).cps.toList ((c.toNat : Nat) : Int)).isSome = _
      rw [idx_54321]
    have hsP : see zP (c :: t) = (LuteTab.capitals.idxOf? c).isSome := by
      show (idxI zP.cps.toList ((c.toNat : Nat) : Int)).isSome = _
      rw [idx_P]
    by_cases h : c = 45
    · subst h
      rw [if_pos (by simp), if_neg (by decide), if_pos rfl, sk_c (z := "-") (x := 45) rfl, if_pos rfl]
      show (match mBN t with
        | none => none
        | some (n, u) => some ((⟨n, 0⟩ : Stop), u)) = _
      rw [bn_eq (p + 1)]
      cases LuteTab.numberAt (p + 1) t with
      | error e => rfl
      | ok y => obtain ⟨b, q, u⟩ := y; rfl
    · rw [if_neg (by simp [h]), hs5, pk_cons, idx_54321]
      by_cases h5 : 49 ≤ c ∧ c ≤ 53
      · have h1 : 49 ≤ c.toNat := (u8_le c 49 (by decide)).1.mp h5.1
        have h2 : c.toNat ≤ 53 := (u8_le c 53 (by decide)).2.mp h5.2
        rw [if_pos h5, if_pos h5]
        show some ((⟨1 + (53 - c.toNat), 0⟩ : Stop), t) = some (⟨6 - (c.toNat - 48), 0⟩, t)
        congr 3
        omega
      · rw [if_neg h5, if_neg h5, if_neg h, hsP, pk_cons, idx_P]
        cases hP : LuteTab.capitals.idxOf? c with
        | some f => rfl
        | none =>
          show mCr (c :: t) = _
          unfold mCr
          rw [pk_cons, idx_X]
          cases hX : LuteTab.crossings.idxOf? c with
          | none => rfl
          | some i =>
            show (match mTm ((c.toNat : Nat) : Int) 2 0 t with
              | none => none
              | some (j, u) => some ((⟨5 - i % 5, 1 + i / 5 + 5 * j⟩ : Stop), u)) = some (⟨5 - i % 5, 5 * LuteTab.again c 2 t + i / 5 + 1⟩, t.drop (LuteTab.again c 2 t))
            rw [tm_eq c (by rw [idx_X, hX]; rfl)]
            show some ((⟨5 - i % 5, 1 + i / 5 + 5 * (0 + LuteTab.again c 2 t)⟩ : Stop), _) = _
            congr 3
            omega
theorem gs_1 {l t : List UInt8} {s : Stop} (h : mGS l = some (s, t)) : 1 ≤ s.course := by
  unfold mGS at h
  split at h
  · split at h
    · cases h
    · split at h
      · cases h
      · rename_i hb
        cases h
        exact Nat.le_trans (by decide) (bn_7 hb)
  · split at h
    · split at h
      · cases h
      · cases h; show 1 ≤ 1 + _; omega
    · split at h
      · split at h
        · cases h
        · cases h; show 1 ≤ 6; omega
      · unfold mCr at h
        split at h
        · cases h
        · split at h
          · cases h
          · cases h; show 1 ≤ 5 - _; omega
theorem gl_eq : ∀ (f : Nat) (acc : List Stop) (last p : Nat) (l : List UInt8), l.length < f → LO 1 acc last → thenNL (mGl f acc l) = pre acc (fg (LuteTab.germanStops f last p l))
  | 0, _, _, _, l, h, _ => by omega
  | f + 1, acc, last, p, l, h, lo => by
    rw [mGl, LuteTab.germanStops]
    have hg := gs_eq p l
    rw [hg]
    cases hga : LuteTab.germanAt p l with
    | error e => rfl
    | ok y =>
      obtain ⟨s, q, u⟩ := y
      have hms : mGS l = some (s, u) := by rw [hg, hga]; rfl
      have h1 := gs_1 hms
      have hlen := mGS_len hms
      show thenNL (if lastOk acc s = true then (if see " " u = true then _ else some (acc ++ [s], u)) else none) = _
      dsimp only
      rw [lo s h1]
      by_cases hlt : last < s.course
      · rw [if_pos (by simpa using hlt), if_neg (show ¬ s.course ≤ last by omega)]
        cases u with
        | nil => rfl
        | cons c v =>
          rw [see_c (z := " ") (x := 32) rfl]
          dsimp only
          by_cases hc : c = 10
          · subst hc
            rw [if_neg (by decide), if_pos (show (10 : UInt8) = LuteTab.END from rfl)]
            show (match sk ("\n" : Str).cps.toList (10 :: v) with
              | none => none
              | some (_, u) => some (acc ++ [s], u)) = _
            rw [sk_c (z := "\n") (x := 10) rfl, if_pos rfl]
            rfl
          · rw [if_neg (show ¬ c = LuteTab.END from hc)]
            by_cases hb : c = 32
            · subst hb
              rw [if_pos (by simp), if_neg (by intro q; exact q rfl), sk_c (z := " ") (x := 32) rfl, if_pos rfl]
              show thenNL (mGl f (acc ++ [s]) v) = _
              have hv : v.length < f := by simp at hlen; omega
              rw [gl_eq f (acc ++ [s]) s.course (q + 1) v hv (lo_snoc 1 acc s), pre_cons]
              cases LuteTab.germanStops f s.course (q + 1) v with
              | error e => rfl
              | ok y => obtain ⟨l, z, w⟩ := y; rfl
            · rw [if_neg (by simp [hb]), if_pos (show c ≠ LuteTab.BLANK from hb)]
              show (match sk ("\n" : Str).cps.toList (c :: v) with
                | none => none
                | some (_, u) => some (acc ++ [s], u)) = _
              rw [sk_c (z := "\n") (x := 10) rfl, if_neg hc]
              rfl
      · rw [if_neg (by simpa using hlt), if_pos (show s.course ≤ last by omega)]
        rfl
theorem neck_le {z : Str} : ∀ {ns : List Nat} {l t : List UInt8} {s : List Stop}, (∀ n ∈ ns, 1 ≤ n ∧ n ≤ 6) → mNeck z ns l = some (s, t) → ∀ x ∈ s, 1 ≤ x.course ∧ x.course ≤ 6
  | [], l, t, s, _, h, x, hx => by rw [mNeck] at h; cases h; simp at hx
  | c :: ns, l, t, s, hn, h, x, hx => by
    rw [mNeck] at h
    cases hp : pk (z ++ ".") l with
    | none => rw [hp] at h; cases h
    | some y =>
      obtain ⟨i, y⟩ := y
      simp only [hp] at h
      cases hm : mNeck z ns y with
      | none => rw [hm] at h; cases h
      | some w =>
        obtain ⟨q, v⟩ := w
        simp only [hm] at h
        cases h
        have ih := neck_le (fun n hn' => hn n (List.mem_cons_of_mem _ hn')) hm
        split at hx
        · rcases List.mem_cons.mp hx with rfl | hx
          · exact hn c List.mem_cons_self
          · exact ih x hx
        · exact ih x hx
def kdN : LuteTab.Kind → Nat
  | .french => 0
  | .italian => 1
  | .german => 2
theorem pre_fg (acc : List Stop) (o : LuteTab.Rd (List Stop)) : pre acc (fg o) = fg (match o with
    | .error e => .error e
    | .ok (b, z, v) => .ok (acc ++ b, z, v)) := by
  cases o with
  | error e => rfl
  | ok y => obtain ⟨b, z, v⟩ := y; rfl
theorem st_eq (k : LuteTab.Kind) (p : Nat) (l : List UInt8) : thenNL (mSt (kdN k) l) = fg (LuteTab.stopsAt k p l) := by
  cases k with
  | french =>
    show thenNL (mFr l) = fg (match LuteTab.sixAt LuteTab.letters [1, 2, 3, 4, 5, 6] p l with
      | .error e => .error e
      | .ok (l, q, u) => match LuteTab.bassesAt LuteTab.frenchBassAt (u.length + 1) 6 q u with
        | .error e => .error e
        | .ok (b, z, v) => .ok (l ++ b, z, v))
    unfold mFr
    have hn := neck_step (z := zF) (signs := LuteTab.letters) (by decide +kernel) (by decide +kernel) idx_F [1, 2, 3, 4, 5, 6] p l
    rw [hn]
    cases hs : LuteTab.sixAt LuteTab.letters [1, 2, 3, 4, 5, 6] p l with
    | error e => rfl
    | ok y =>
      obtain ⟨s, q, u⟩ := y
      have hm : mNeck zF [1, 2, 3, 4, 5, 6] l = some (s, u) := by rw [hn, hs]; rfl
      have hle := neck_le (by intro n hn'; simp at hn'; omega) hm
      show thenNL (mBs mFB (u.length + 1) s u) = _
      rw [bs_eq fb_eq fb_7 mFB_len (u.length + 1) s 6 q u (by omega) (lo_neck fun x hx => (hle x hx).2), pre_fg]
      rfl
  | italian =>
    show thenNL (mIt l) = fg (match LuteTab.sixAt LuteTab.figures [6, 5, 4, 3, 2, 1] p l with
      | .error e => .error e
      | .ok (l, q, u) => match LuteTab.bassesAt LuteTab.numberAt (u.length + 1) 6 q u with
        | .error e => .error e
        | .ok (b, z, v) => .ok (l.reverse ++ b, z, v))
    unfold mIt
    have hn := neck_step (z := zI) (signs := LuteTab.figures) (by decide +kernel) (by decide +kernel) idx_I [6, 5, 4, 3, 2, 1] p l
    rw [hn]
    cases hs : LuteTab.sixAt LuteTab.figures [6, 5, 4, 3, 2, 1] p l with
    | error e => rfl
    | ok y =>
      obtain ⟨s, q, u⟩ := y
      have hm : mNeck zI [6, 5, 4, 3, 2, 1] l = some (s, u) := by rw [hn, hs]; rfl
      have hle := neck_le (by intro n hn'; simp at hn'; omega) hm
      show thenNL (mBs mBN (u.length + 1) s.reverse u) = _
      rw [bs_eq bn_eq bn_7 mBN_len (u.length + 1) s.reverse 6 q u (by omega) (lo_neck fun x hx => (hle x (List.mem_reverse.mp hx)).2), pre_fg]
      rfl
  | german =>
    show thenNL (mGr l) = fg (match l with
      | 46 :: r => (match LuteTab.want [LuteTab.END] (p + 1) r with
        | .error e => .error e
        | .ok (_, q, u) => .ok ([], q, u))
      | _ => LuteTab.germanStops (l.length + 1) 0 p l)
    unfold mGr
    cases l with
    | nil => exact (gl_eq 1 [] 0 p [] (by decide) (lo_nil 1 (by decide))).trans (pre_nil _)
    | cons c r =>
      rw [see_c (z := ".") (x := 46) rfl]
      by_cases h : c = 46
      · subst h
        rw [if_pos (by simp), sk_c (z := ".") (x := 46) rfl, if_pos rfl]
        show (match sk ("\n" : Str).cps.toList r with
          | none => none
          | some (_, u) => some ([], u)) = fg (match LuteTab.want [LuteTab.END] (p + 1) r with
          | .error e => .error e
          | .ok (_, q, u) => .ok ([], q, u))
        have e3 : sk ("\n" : Str).cps.toList r = fg (LuteTab.want [LuteTab.END] (p + 1) r) := (skT_want [10] _ _).symm
        rw [e3]
        cases LuteTab.want [LuteTab.END] (p + 1) r with
        | error e => rfl
        | ok y => obtain ⟨_, z, v⟩ := y; rfl
      · rw [if_neg (by simp [h])]
        have := (gl_eq ((c :: r).length + 1) [] 0 p (c :: r) (by omega) (lo_nil 1 (by decide))).trans (pre_nil _)
        rw [this]
        congr 1
        split
        · rename_i q; cases q; exact absurd rfl h
        · rfl
end Lt
end
section
set_option Elab.async false
set_option linter.all false
set_option maxRecDepth 100000
set_option maxHeartbeats 400000
namespace Lt
open PySem PySem.Spec PyProof.Rows L2
/-- a length's sign and its blank -/
def mLs2 (l : List UInt8) : Option (Nat × List UInt8) := match pk zL l with
  | none => none
  | some (i, t) => if 0 < i ∧ see "." t = true then (match sk ("." : Str).cps.toList t with
      | none => none
      | some (_, u) => match sk (" " : Str).cps.toList u with
        | none => none
        | some (_, v) => some (2 ^ i + 2 ^ i / 2, v))
    else match sk (" " : Str).cps.toList t with
      | none => none
      | some (_, v) => some (2 ^ i, v)
theorem len_eq (p : Nat) (l : List UInt8) : mLs2 l = fg (LuteTab.lengthAt p l) := by
  cases l with
  | nil => rfl
  | cons c r =>
    unfold mLs2
    rw [pk_cons, idx_L, LuteTab.lengthAt.eq_def]
    dsimp only
    cases hx : [(120 : UInt8), 116, 115, 101, 113, 104, 119].idxOf? c with
    | none => rfl
    | some i =>
      have hp : 0 < i → 2 ^ i / 2 = 2 ^ (i - 1) := fun h0 => by
        obtain ⟨j, rfl⟩ : ∃ j, i = j + 1 := ⟨i - 1, by omega⟩
        rw [Nat.pow_succ, Nat.mul_div_cancel _ (by decide)]
        rfl
      show (if 0 < i ∧ see "." r = true then _ else _) = fg (match r with
        | 46 :: 32 :: u => if i = 0 then .error (p + 1) else .ok (2 ^ i + 2 ^ (i - 1), p + 3, u)
        | 46 :: _ => if i = 0 then .error (p + 1) else .error (p + 2)
        | 32 :: u => .ok (2 ^ i, p + 2, u)
        | _ => .error (p + 1))
      cases r with
      | nil => rw [if_neg (by rw [see_nil]; rintro ⟨_, q⟩; cases q)]; rfl
      | cons y t =>
        rw [see_c (z := ".") (x := 46) rfl]
        by_cases h46 : y = 46
        · subst h46
          by_cases h0 : 0 < i
          · rw [if_pos ⟨h0, by simp⟩, sk_c (z := ".") (x := 46) rfl, if_pos rfl]
            cases t with
            | nil =>
              show _ = fg (if i = 0 then .error (p + 1) else .error (p + 2))
              rw [if_neg (by omega)]
              rfl
            | cons z u =>
              show (match sk (" " : Str).cps.toList (z :: u) with
                | none => none
                | some (_, v) => some (2 ^ i + 2 ^ i / 2, v)) = _
              rw [sk_c (z := " ") (x := 32) rfl]
              by_cases h32 : z = 32
              · subst h32
                rw [if_pos rfl]
                show some (2 ^ i + 2 ^ i / 2, u) = fg (if i = 0 then .error (p + 1) else .ok (2 ^ i + 2 ^ (i - 1), p + 3, u))
                rw [if_neg (by omega), hp h0]
                rfl
              · rw [if_neg h32]
                have e : (match (46 :: z :: u : List UInt8) with
                  | 46 :: 32 :: u => if i = 0 then .error (p + 1) else .ok (2 ^ i + 2 ^ (i - 1), p + 3, u)
                  | 46 :: _ => if i = 0 then .error (p + 1) else .error (p + 2)
                  | 32 :: u => .ok (2 ^ i, p + 2, u)
                  | _ => .error (p + 1)) = (if i = 0 then .error (p + 1) else .error (p + 2) : LuteTab.Rd Nat) := by
                  split
                  · rename_i q; cases q; exact absurd rfl h32
                  · rfl
                  · rename_i q; cases q
                  · rename_i q1 q2; exact absurd rfl (q1 (z :: u))
                rw [e, if_neg (by omega)]
                rfl
          · have : i = 0 := by omega
            subst this
            rw [if_neg (by simp), sk_c (z := " ") (x := 32) rfl, if_neg (by decide)]
            show none = fg _
            split
            · rfl
            · rfl
            · rename_i q; cases q
            · rfl
        · rw [if_neg (by simp [h46]), sk_c (z := " ") (x := 32) rfl]
          by_cases h32 : y = 32
          · subst h32
            rw [if_pos rfl]
            rfl
          · rw [if_neg h32]
            show none = fg _
            split
            · rename_i q; cases q; exact absurd rfl h46
            · rename_i q; cases q; exact absurd rfl h46
            · rename_i q; cases q; exact absurd rfl h32
            · rfl
theorem ls2_pos {l t : List UInt8} {n : Nat} (h : mLs2 l = some (n, t)) : 0 < n := by
  have hp : ∀ i : Nat, 0 < 2 ^ i := fun i => Nat.pow_pos (by decide)
  unfold mLs2 at h
  split at h
  · cases h
  · split at h
    · split at h
      · cases h
      · split at h
        · cases h
        · cases h; have := hp ‹_›; omega
    · split at h
      · cases h
      · cases h; exact hp _
theorem mLn_2 (before : Nat) (c : UInt8) (r : List UInt8) (h : ¬ c = 32) : mLn before (c :: r) = match mLs2 (c :: r) with
    | none => none
    | some (n, v) => if n = before then none else some (n, v) := by
  unfold mLn mLs2
  rw [see_c (z := " ") (x := 32) rfl, if_neg (by simp [h])]
  cases pk zL (c :: r) with
  | none => rfl
  | some y =>
    obtain ⟨i, t⟩ := y
    dsimp only
    by_cases h0 : 0 < i ∧ see "." t = true
    · rw [if_pos h0, if_pos h0]
      cases sk ("." : Str).cps.toList t with
      | none => rfl
      | some y =>
        obtain ⟨_, u⟩ := y
        dsimp only
        cases sk (" " : Str).cps.toList u with
        | none => rfl
        | some y => obtain ⟨_, v⟩ := y; rfl
    · rw [if_neg h0, if_neg h0]
      cases sk (" " : Str).cps.toList t with
      | none => rfl
      | some y => obtain ⟨_, v⟩ := y; rfl
theorem mLn_1 (before : Nat) (r : List UInt8) : mLn before (32 :: r) = if before = 0 then none else some (before, r) := by
  unfold mLn
  rw [see_c (z := " ") (x := 32) rfl, if_pos (by simp), sk_c (z := " ") (x := 32) rfl, if_pos rfl]
/-- the stops and the line's end, behind a length -/
def mMo (k : LuteTab.Kind) (n : Nat) (t : List UInt8) : Option (Ln × List UInt8) := match thenNL (mSt (kdN k) t) with
  | none => none
  | some (st, v) => some ((n, st), v)
theorem mPl_mo (k : LuteTab.Kind) (before : Nat) (l : List UInt8) (h : see "|" l = false) : mPl (kdN k) before l = match mLn before l with
    | none => none
    | some (n, t) => mMo k n t := by
  unfold mPl mMo
  rw [if_neg (by rw [h]; decide)]
  cases mLn before l with
  | none => rfl
  | some y =>
    obtain ⟨n, t⟩ := y
    dsimp only
    cases mSt (kdN k) t with
    | none => rfl
    | some y =>
      obtain ⟨st, u⟩ := y
      show (match sk ("\n" : Str).cps.toList u with
        | none => none
        | some (_, v) => some ((n, st), v)) = (match (match sk ("\n" : Str).cps.toList u with
        | none => none
        | some (_, u) => some (st, u) : Option (List Stop × List UInt8)) with
        | none => none
        | some (st, v) => some ((n, st), v))
      cases sk ("\n" : Str).cps.toList u with
      | none => rfl
      | some y => obtain ⟨_, v⟩ := y; rfl
theorem mPl_bar (kd before p : Nat) (r : List UInt8) : mPl kd before (124 :: r) = match fg (LuteTab.want [LuteTab.END] p r) with
    | none => none
    | some (_, t) => some ((0, []), t) := by
  unfold mPl
  rw [see_c (z := "|") (x := 124) rfl, if_pos (by simp)]
  have e : sk ("|\n" : Str).cps.toList (124 :: r) = fg (LuteTab.want [LuteTab.END] p r) := by
    rw [skT_want, show ("|\n" : Str).cps.toList = [124, 10] by decide +kernel, sk, if_pos (show UInt8.toNat 124 = 124 from rfl)]
    rfl
  rw [e]
  all_goals rfl
theorem stopsAt_len {k : LuteTab.Kind} {p q : Nat} {l v : List UInt8} {s : List Stop} (h : LuteTab.stopsAt k p l = .ok (s, q, v)) : v.length < l.length ∧ thenNL (mSt (kdN k) l) = some (s, v) := by
  have e := st_eq k p l
  rw [h] at e
  refine ⟨?_, e⟩
  cases hm : mSt (kdN k) l with
  | none => rw [hm] at e; cases e
  | some y =>
    obtain ⟨st, u⟩ := y
    rw [hm] at e
    have h1 := mSt_len hm
    replace e : (match sk ("\n" : Str).cps.toList u with
      | none => none
      | some (_, u) => some (st, u) : Option (List Stop × List UInt8)) = some (s, v) := e
    cases hs : sk ("\n" : Str).cps.toList u with
    | none => rw [hs] at e; cases e
    | some y =>
      obtain ⟨_, w⟩ := y
      have h2 : w.length + 1 = u.length := sk_len hs
      rw [hs] at e
      cases e
      omega
theorem mMo_eq (k : LuteTab.Kind) (n p : Nat) (t : List UInt8) : mMo k n t = match LuteTab.stopsAt k p t with
    | .error _ => none
    | .ok (l, _, u) => some ((n, l), u) := by
  unfold mMo
  rw [st_eq k p t]
  cases LuteTab.stopsAt k p t with
  | error e => rfl
  | ok y => obtain ⟨l, q, u⟩ := y; rfl
def app (acc : List Ln) : Option LuteTab.Piece → Option (List Ln)
  | none => none
  | some x => some (acc ++ x.map lnOf)
theorem app_snoc (acc : List Ln) (ln : LuteTab.Line) (o : Except Nat LuteTab.Piece) : app (acc ++ [lnOf ln]) (fe o) = app acc (fe (o.map fun (x : LuteTab.Piece) => ln :: x)) := by
  cases o with
  | error e => rfl
  | ok x => simp [app, fe, Except.map]
theorem lines_eq (k : LuteTab.Kind) : ∀ (f p last : Nat) (acc : List Ln) (l : List UInt8), l.length < f → acc.length ≤ 512 → mLs (kdN k) f acc last l = app acc (fe (LuteTab.linesAt k f last acc.length p l))
  | 0, p, last, acc, l, h, _ => by omega
  | f + 1, p, last, acc, [], h, _ => by
    rw [mLs, LuteTab.linesAt, if_pos (show ([] : List UInt8).isEmpty = true from rfl)]
    by_cases h0 : last = 0
    · rw [if_pos h0, if_pos h0]; rfl
    · rw [if_neg h0, if_neg h0]; simp [app, fe]
  | f + 1, p, last, acc, c :: r, h, ha => by
    rw [mLs, LuteTab.linesAt, if_neg (by simp)]
    have hrl : r.length < f := by simpa using h
    by_cases hm : LuteTab.LINES ≤ acc.length
    · have : acc.length = 512 := by have h2 : 512 ≤ acc.length := hm; omega
      rw [if_pos this, if_pos hm]; rfl
    · have hlt : acc.length < 512 := by have h2 : ¬ 512 ≤ acc.length := hm; omega
      rw [if_neg (by omega), if_neg hm]
      have step : ∀ (ln : LuteTab.Line) (last' q : Nat) (u : List UInt8), u.length < f → mLs (kdN k) f (acc ++ [lnOf ln]) last' u = app acc (fe ((LuteTab.linesAt k f last' (acc.length + 1) q u).map fun (x : LuteTab.Piece) => ln :: x)) := fun ln last' q u hu => by
        have := lines_eq k f q last' (acc ++ [lnOf ln]) u hu (by rw [List.length_append]; simp; omega)
        rw [this, app_snoc, List.length_append]
        rfl
      by_cases h124 : c = 124
      · subst h124
        rw [if_pos rfl, mPl_bar (kdN k) last (p + 1) r]
        cases hw : LuteTab.want [LuteTab.END] (p + 1) r with
        | error e => rfl
        | ok y =>
          obtain ⟨_, q, u⟩ := y
          have e1 : sk ([LuteTab.END].map (·.toNat)) r = some ((), u) := by rw [← skT_want _ (p + 1), hw]; rfl
          have h2 : u.length + 1 = r.length := sk_len e1
          show mLs (kdN k) f (acc ++ [(0, [])]) (if 0 = 0 then last else 0) u = _
          rw [if_pos rfl]
          exact step .bar last q u (by omega)
      · rw [if_neg h124]
        have hbar : see "|" (c :: r) = false := by rw [see_c (z := "|") (x := 124) rfl]; simp [h124]
        rw [mPl_mo k last (c :: r) hbar]
        by_cases h32 : c = 32
        · subst h32
          rw [if_pos (show (32 : UInt8) = LuteTab.BLANK from rfl), mLn_1]
          by_cases h0 : last = 0
          · rw [if_pos h0, if_pos h0]; rfl
          · rw [if_neg h0, if_neg h0]
            dsimp only
            rw [mMo_eq k last (p + 1) r]
            cases hs : LuteTab.stopsAt k (p + 1) r with
            | error e => rfl
            | ok y =>
              obtain ⟨l, q, u⟩ := y
              have := (stopsAt_len hs).1
              show mLs (kdN k) f (acc ++ [(last, l)]) (if last = 0 then last else last) u = _
              rw [if_neg h0]
              exact step (.moment last l) last q u (by omega)
        · rw [if_neg (show ¬ c = LuteTab.BLANK from h32), mLn_2 last c r h32]
          have hle := len_eq p (c :: r)
          rw [hle]
          cases hl : LuteTab.lengthAt p (c :: r) with
          | error e => rfl
          | ok y =>
            obtain ⟨n, q, u⟩ := y
            have hm2 : mLs2 (c :: r) = some (n, u) := by rw [hle, hl]; rfl
            have hn := ls2_pos hm2
            show (match (match (if n = last then none else some (n, u) : Option (Nat × List UInt8)) with
              | none => none
              | some (n, t) => mMo k n t : Option (Ln × List UInt8)) with
              | none => none
              | some ((n, st), t) => mLs (kdN k) f (acc ++ [(n, st)]) (if n = 0 then last else n) t) = app acc (fe (if n = last then .error p else match LuteTab.stopsAt k q u with
              | .error e => .error e
              | .ok (l, z, v) => (LuteTab.linesAt k f n (acc.length + 1) z v).map fun (x : LuteTab.Piece) => .moment n l :: x))
            by_cases hnl : n = last
            · rw [if_pos hnl, if_pos hnl]; rfl
            · rw [if_neg hnl, if_neg hnl]
              dsimp only
              rw [mMo_eq k n q u]
              have hul : u.length < (c :: r).length := by
                have : mLn (n + 1) (c :: r) = some (n, u) := by rw [mLn_2 _ c r h32, hm2]; show (if n = n + 1 then none else some (n, u)) = _; rw [if_neg (by omega)]
                exact mLn_len this
              cases hs : LuteTab.stopsAt k q u with
              | error e => rfl
              | ok y =>
                obtain ⟨l, z, v⟩ := y
                have hv := (stopsAt_len hs).1
                show mLs (kdN k) f (acc ++ [(n, l)]) (if n = 0 then last else n) v = _
                rw [if_neg (by omega)]
                exact step (.moment n l) n z v (by simp at hul; omega)
theorem kind_eq (cs : List UInt8) : mKd kws 0 cs = match LuteTab.kindAt cs with
    | .error _ => none
    | .ok (k, _, u) => some (kdN k, u) := by
  have w : ∀ (z : Str) (bs : List UInt8) (i : Nat) (k : LuteTab.Kind), z.cps.toList = (bs ++ [LuteTab.END]).map (·.toNat) → kdN k = i → (match sk z.cps.toList cs with
      | none => none
      | some (_, t) => some (i, t)) = match (match LuteTab.want (bs ++ [LuteTab.END]) 0 cs with
      | .error e => .error e
      | .ok (_, q, u) => .ok (k, q, u) : LuteTab.Rd LuteTab.Kind) with
      | .error _ => none
      | .ok (k, _, u) => some (kdN k, u) := fun z bs i k hz hk => by
    rw [hz, ← skT_want _ 0 cs]
    cases LuteTab.want (bs ++ [LuteTab.END]) 0 cs with
    | error e => rfl
    | ok y => obtain ⟨_, q, u⟩ := y; subst hk; rfl
  unfold kws
  rw [mKd, mKd, mKd, mKd]
  cases cs with
  | nil => rfl
  | cons c r =>
    rw [see_c (z := hd1 "french\n") (x := 102) (by decide +kernel), see_c (z := hd1 "italian\n") (x := 105) (by decide +kernel), see_c (z := hd1 "german\n") (x := 103) (by decide +kernel)]
    by_cases h1 : c = 102
    · subst h1
      rw [if_pos (by simp)]
      exact w "french\n" LuteTab.Kind.french.word 0 .french (by decide +kernel) rfl
    · rw [if_neg (by simp [h1])]
      by_cases h2 : c = 105
      · subst h2
        rw [if_pos (by simp)]
        exact w "italian\n" LuteTab.Kind.italian.word 1 .italian (by decide +kernel) rfl
      · rw [if_neg (by simp [h2])]
        by_cases h3 : c = 103
        · subst h3
          rw [if_pos (by simp)]
          exact w "german\n" LuteTab.Kind.german.word 2 .german (by decide +kernel) rfl
        · rw [if_neg (by simp [h3])]
          have e : LuteTab.kindAt (c :: r) = .error 0 := by
            unfold LuteTab.kindAt
            split
            · rename_i q; cases q; exact absurd rfl h1
            · rename_i q; cases q; exact absurd rfl h2
            · rename_i q; cases q; exact absurd rfl h3
            · rfl
          rw [e]
def pcOf : Except Nat (LuteTab.Kind × LuteTab.Piece) → Option (List Ln)
  | .error _ => none
  | .ok (_, p) => some (p.map lnOf)
theorem mPc_eq (cs : List UInt8) : mPc cs = pcOf (LuteTab.read cs) := by
  unfold mPc LuteTab.read
  rw [kind_eq]
  cases LuteTab.kindAt cs with
  | error e => rfl
  | ok y =>
    obtain ⟨k, q, u⟩ := y
    show mLs (kdN k) (u.length + 1) [] 0 u = pcOf ((LuteTab.linesAt k (u.length + 1) 0 0 q u).map fun (p : LuteTab.Piece) => (k, p))
    rw [lines_eq k (u.length + 1) q 0 [] u (by omega) (by simp)]
    show app [] (fe (LuteTab.linesAt k (u.length + 1) 0 0 q u)) = _
    cases LuteTab.linesAt k (u.length + 1) 0 0 q u with
    | error e => rfl
    | ok x => rfl
end Lt
end
section
set_option Elab.async false
set_option linter.all false
set_option maxRecDepth 100000
set_option maxHeartbeats 400000
namespace Lt
theorem six_sub {signs : List UInt8} : ∀ {ns : List Nat} {p q : Nat} {l u : List UInt8} {s : List Stop}, LuteTab.sixAt signs ns p l = .ok (s, q, u) → (s.map (·.course)).Sublist ns
  | [], p, q, l, u, s, h => by
    rw [LuteTab.sixAt] at h
    cases h
    exact List.Sublist.refl _
  | c :: ns, p, q, l, u, s, h => by
    rw [LuteTab.sixAt] at h
    split at h
    · cases h
    · split at h
      · cases h
      · rename_i h1
        have ih := six_sub h1
        cases h
        split
        · exact ih.cons_cons _
        · exact ih.cons _
/-- above k, rising -/
def Up (k : Nat) (l : List Stop) : Prop := Rise l ∧ ∀ s ∈ l, k < s.course
theorem up_cons {k : Nat} {s : Stop} {l : List Stop} (h : k < s.course) (u : Up s.course l) : Up k (s :: l) :=
  ⟨List.pairwise_cons.mpr ⟨u.2, u.1⟩, fun x hx => by
    rcases List.mem_cons.mp hx with rfl | hx
    · exact h
    · have := u.2 x hx; omega⟩
theorem up_nil (k : Nat) : Up k [] := ⟨List.Pairwise.nil, by simp⟩
theorem bs_up {rd : Nat → List UInt8 → LuteTab.Rd Nat} : ∀ {f last p q : Nat} {l u : List UInt8} {s : List Stop}, LuteTab.bassesAt rd f last p l = .ok (s, q, u) → Up last s
  | 0, last, p, q, l, u, s, h => by rw [LuteTab.bassesAt] at h; cases h
  | f + 1, last, p, q, [], u, s, h => by rw [LuteTab.bassesAt] at h; cases h
  | f + 1, last, p, q, c :: r, u, s, h => by
    rw [LuteTab.bassesAt] at h
    split at h
    · cases h; exact up_nil _
    · split at h
      · cases h
      · split at h
        · cases h
        · split at h
          · cases h
          · split at h
            · cases h
            · rename_i h1
              have ih := bs_up h1
              cases h
              exact up_cons (Nat.lt_of_not_le (by assumption)) ih
theorem gs_up : ∀ {f last p q : Nat} {l u : List UInt8} {s : List Stop}, LuteTab.germanStops f last p l = .ok (s, q, u) → Up last s
  | 0, last, p, q, l, u, s, h => by rw [LuteTab.germanStops] at h; cases h
  | f + 1, last, p, q, l, u, s, h => by
    rw [LuteTab.germanStops] at h
    split at h
    · cases h
    · split at h
      · cases h
      · split at h
        · cases h
        · split at h
          · cases h
            exact up_cons (by omega) (up_nil _)
          · split at h
            · cases h
            · split at h
              · cases h
              · rename_i h1
                have ih := gs_up h1
                cases h
                exact up_cons (by omega) ih
theorem st_up {k : LuteTab.Kind} {p q : Nat} {l u : List UInt8} {s : List Stop} (h : LuteTab.stopsAt k p l = .ok (s, q, u)) : Up 0 s := by
  have glue : ∀ {a b : List Stop}, Rise a → (∀ s ∈ a, 0 < s.course ∧ s.course ≤ 6) → Up 6 b → Up 0 (a ++ b) := fun {a b} ra ha hb =>
    ⟨List.pairwise_append.mpr ⟨ra, hb.1, fun x hx y hy => by have := ha x hx; have := hb.2 y hy; omega⟩, fun x hx => by
      rcases List.mem_append.mp hx with hx | hx
      · exact (ha x hx).1
      · have := hb.2 x hx; omega⟩
  unfold LuteTab.stopsAt at h
  cases k with
  | french =>
    simp only at h
    split at h
    · cases h
    · rename_i h1
      split at h
      · cases h
      · rename_i h2
        cases h
        have sb := six_sub h1
        refine glue ?_ (fun x hx => ?_) (bs_up h2)
        · exact List.pairwise_map.mp (List.Pairwise.sublist sb (by decide))
        · have := sb.subset (List.mem_map_of_mem (f := fun s : Stop => s.course) hx)
          simp at this
          omega
  | italian =>
    simp only at h
    split at h
    · cases h
    · rename_i h1
      split at h
      · cases h
      · rename_i h2
        cases h
        have sb := six_sub h1
        refine glue ?_ (fun x hx => ?_) (bs_up h2)
        · have : List.Pairwise (fun a b : Stop => b.course < a.course) _ := List.pairwise_map.mp (List.Pairwise.sublist sb (R := fun a b => b < a) (by decide))
          exact List.pairwise_reverse.mpr this
        · have := sb.subset (List.mem_map_of_mem (f := fun s : Stop => s.course) (List.mem_reverse.mp hx))
          simp at this
          omega
  | german =>
    simp only at h
    split at h
    · split at h
      · cases h
      · cases h; exact up_nil _
    · exact gs_up h
theorem la_pos {p q n : Nat} {l u : List UInt8} (h : LuteTab.lengthAt p l = .ok (n, q, u)) : 0 < n := by
  have h2 : ∀ i : Nat, 0 < 2 ^ i := fun i => Nat.pow_pos (by decide)
  unfold LuteTab.lengthAt at h
  split at h
  · cases h
  · split at h
    · cases h
    · split at h
      · split at h
        · cases h
        · cases h; exact Nat.add_pos_left (h2 _) _
      · split at h <;> cases h
      · cases h; exact h2 _
      · cases h
def LnK (x : LuteTab.Line) : Prop := match x with
  | .bar => True
  | .moment n l => 0 < n ∧ Up 0 l
theorem ls_k {k : LuteTab.Kind} : ∀ {f last many p : Nat} {l : List UInt8} {x : LuteTab.Piece}, LuteTab.linesAt k f last many p l = .ok x → ∀ y ∈ x, LnK y
  | f, last, many, p, [], x, h => by
    have h' : LuteTab.linesAt k f last many p [] = if last = 0 then .error p else .ok [] := by cases f <;> rw [LuteTab.linesAt]
    rw [h'] at h
    split at h
    · cases h
    · cases h; simp
  | 0, last, many, p, c :: r, x, h => by rw [LuteTab.linesAt] at h; cases h; simp
  | f + 1, last, many, p, c :: r, x, h => by
    have mp : ∀ {e : Except Nat LuteTab.Piece} {a : LuteTab.Line}, (e.map fun (x : LuteTab.Piece) => a :: x) = .ok x → LnK a → (∀ z, e = .ok z → ∀ y ∈ z, LnK y) → ∀ y ∈ x, LnK y := fun {e a} h ha hz => by
      cases e with
      | error _ => cases h
      | ok z =>
        cases h
        intro y hy
        rcases List.mem_cons.mp hy with rfl | hy
        · exact ha
        · exact hz z rfl y hy
    rw [LuteTab.linesAt] at h
    split at h
    · cases h
    · split at h
      · split at h
        · cases h
        · exact mp h True.intro fun z hz => ls_k hz
      · split at h
        · split at h
          · cases h
          · split at h
            · cases h
            · rename_i h0 _ _ _ _ h1
              exact mp h ⟨by omega, st_up h1⟩ fun z hz => ls_k hz
        · split at h
          · cases h
          · rename_i h1
            split at h
            · cases h
            · split at h
              · cases h
              · rename_i h2
                exact mp h ⟨la_pos h1, st_up h2⟩ fun z hz => ls_k hz
/-- **what a piece that is read keeps** -/
theorem read_k {cs : List UInt8} {k : LuteTab.Kind} {p : LuteTab.Piece} (h : LuteTab.read cs = .ok (k, p)) : MomP p ∧ PcK (p.map lnOf) := by
  have hk : ∀ y ∈ p, LnK y := by
    unfold LuteTab.read at h
    split at h
    · cases h
    · rename_i k' q u _
      cases e : LuteTab.linesAt k' (u.length + 1) 0 0 q u with
      | error _ => rw [e] at h; cases h
      | ok z => rw [e] at h; cases h; exact ls_k e
  refine ⟨fun n l hm => (hk _ hm).1, ⟨fun q hq => ?_, fun q hq h0 => ?_, fun q hq s hs => ?_⟩⟩
  · obtain ⟨y, hy, rfl⟩ := List.mem_map.mp hq
    cases y with
    | bar => exact List.Pairwise.nil
    | moment n l => exact (hk _ hy).2.1
  · obtain ⟨y, hy, rfl⟩ := List.mem_map.mp hq
    cases y with
    | bar => rfl
    | moment n l =>
      have h0 : n = 0 := h0
      have := (hk _ hy).1
      omega
  · obtain ⟨y, hy, rfl⟩ := List.mem_map.mp hq
    cases y with
    | bar => exact absurd hs (by show ¬ s ∈ []; simp)
    | moment n l => exact (hk _ hy).2.2 s hs
end Lt
end
section
set_option Elab.async false
set_option linter.all false
set_option maxRecDepth 100000
set_option maxHeartbeats 400000
namespace Lt
open PySem PySem.Spec PyProof.Rows L2
theorem plc_eq (t : Lute.Inst) (s : Stop) (h : 1 ≤ s.course) : plc (t.frets.map ro) (t.courses.map ro) (t.basses.map ro) s = t.place s.course s.fret := by
  unfold plc Lute.Inst.place Lute.Inst.many Lute.Inst.opens
  rw [List.length_map, List.length_map, List.length_map, List.length_append, decide_eq_true h, Bool.true_and]
  by_cases hc : s.course ≤ t.courses.length
  · rw [if_pos hc, if_pos hc, decide_eq_true (show s.course ≤ t.courses.length + t.basses.length by omega), Bool.true_and]
  · rw [if_neg hc, if_neg hc]
    congr 1
    rw [decide_eq_decide]
    omega
theorem mis_eq {pl pl' : Stop → Bool} : ∀ (p : LuteTab.Piece) (i x : Nat), (∀ q ∈ p.map lnOf, ∀ s ∈ q.2, pl s = pl' s) →
    mMis pl i (p.map lnOf) = match (LuteSound.struckFrom i x p).find? fun (s : LuteSound.Struck) => !pl' s.halt_ with
      | none => none
      | some s => some (s.line, s.halt_.course)
  | [], i, x, _ => rfl
  | .bar :: r, i, x, h => by
    rw [List.map_cons, LuteSound.struckFrom]
    show mMis pl i ((0, []) :: r.map lnOf) = _
    rw [mMis]
    exact mis_eq r (i + 1) x fun q hq => h q (List.mem_cons_of_mem _ hq)
  | .moment n l :: r, i, x, h => by
    rw [List.map_cons, LuteSound.struckFrom]
    show mMis pl i ((n, l) :: r.map lnOf) = _
    rw [mMis, List.find?_append]
    have e : ((l.map fun (s : LuteTab.Stop) => (⟨i, x, x + n, s⟩ : LuteSound.Struck)).find? fun (s : LuteSound.Struck) => !pl' s.halt_) = (l.find? fun s => !pl s).map fun s => (⟨i, x, x + n, s⟩ : LuteSound.Struck) := by
      rw [List.find?_map]
      congr 1
      have : ∀ l' : List Stop, (∀ s ∈ l', pl s = pl' s) → (l'.find? ((fun (s : LuteSound.Struck) => !pl' s.halt_) ∘ fun (s : LuteTab.Stop) => (⟨i, x, x + n, s⟩ : LuteSound.Struck))) = l'.find? fun s => !pl s := by
        intro l'
        induction l' with
        | nil => intro _; rfl
        | cons a b ih =>
          intro hh
          have h1 := hh a List.mem_cons_self
          rw [List.find?_cons, List.find?_cons]
          show (match !pl' a with | true => some a | false => _) = (match !pl a with | true => some a | false => _)
          rw [h1, ih fun s hs => hh s (List.mem_cons_of_mem _ hs)]
      exact this l fun s hs => h (n, l) List.mem_cons_self s hs
    rw [e]
    cases l.find? fun s => !pl s with
    | some s => rfl
    | none => exact mis_eq r (i + 1) (x + n) fun q hq => h q (List.mem_cons_of_mem _ hq)
theorem cnt_eq : ∀ (p : LuteTab.Piece) (i x : Nat), ((p.map lnOf).map fun q => (q.2.length : Int)).sum = ((LuteSound.struckFrom i x p).length : Int)
  | [], i, x => rfl
  | .bar :: r, i, x => by
    rw [List.map_cons, List.map_cons, LuteSound.struckFrom, List.sum_cons, cnt_eq r (i + 1) x]
    show (0 : Int) + _ = _
    omega
  | .moment n l :: r, i, x => by
    rw [List.map_cons, List.map_cons, LuteSound.struckFrom, List.sum_cons, cnt_eq r (i + 1) (x + n), List.length_append, List.length_map]
    show ((l.length : Nat) : Int) + _ = _
    omega
/-- an instrument and a piece read -/
theorem tbl_of {ci ct : List UInt8} {F : St3 → List Ln → List Int} {f : Lute.Inst → LuteTab.Piece → List Int} (h : ∀ t k p, Lute.readInst ci = .ok t → LuteTab.read ct = .ok (k, p) → F (fr3 t) (p.map lnOf) = f t p) :
    (match mTbl dz0 fz0 ci ct with
      | .error z => [z]
      | .ok (s, ps) => F s ps) = LuteD.of ci ct f := by
  unfold mTbl mTb LuteD.of
  by_cases hl : 4096 < ci.length ∨ 65536 < ct.length
  · rw [if_pos hl, if_pos (show LuteD.INST < ci.length ∨ LuteD.PIECE < ct.length from hl)]; rfl
  · rw [if_neg hl, if_neg (show ¬ (LuteD.INST < ci.length ∨ LuteD.PIECE < ct.length) from hl), mInst_eq]
    cases hi : Lute.readInst ci with
    | error e => rfl
    | ok t =>
      have hp := mPc_eq ct
      cases hr : LuteTab.read ct with
      | error e =>
        rw [hr] at hp
        rw [hp]
        rfl
      | ok y =>
        obtain ⟨k, p⟩ := y
        rw [hr] at hp
        rw [hp]
        exact h t k p hi hr
theorem mis_fit {t : Lute.Inst} {p : LuteTab.Piece} (k : PcK (p.map lnOf)) : mMis (plc (fr3 t).1 (fr3 t).2.1 (fr3 t).2.2) 0 (p.map lnOf) = (LuteSound.misfit t p).map fun s => (s.line, s.halt_.course) := by
  show mMis (plc (t.frets.map ro) (t.courses.map ro) (t.basses.map ro)) 0 (p.map lnOf) = _
  rw [mis_eq (pl' := fun s => t.place s.course s.fret) p 0 0 fun q hq s hs => plc_eq t s (k.one q hq s hs)]
  unfold LuteSound.misfit LuteSound.struck LuteSound.fitsStop
  cases (LuteSound.struckFrom 0 0 p).find? fun (s : LuteSound.Struck) => !t.place s.halt_.course s.halt_.fret <;> rfl
theorem ans_eq (ci ct : List UInt8) : ansF dz0 fz0 ci ct = LuteD.answer (.fits ci ct) := by
  refine tbl_of fun t k p hi hr => ?_
  simp only [mis_fit (read_k hr).2, cnt_eq p 0 0]
  cases LuteSound.misfit t p <;> rfl
end Lt
end
section
set_option Elab.async false
set_option linter.all false
set_option maxRecDepth 100000
set_option maxHeartbeats 4000000
namespace Lt
open PySem PySem.Spec PyProof.Rows L2
def GFn (K : PySem.W.Frag) (mg : Str → Option Value) (x nm : Str) (st : Stmt) : Prop := ∃ f fd, mg x = some (.ref f) ∧ Fun K nm nm st f fd
def GMt (K : PySem.W.Frag) (C : Addr) (m qual : Str) (st : Stmt) : Prop := ∃ f fd, Meth K C m f ∧ Fun K m qual st f fd
def GMk (K : PySem.W.Frag) (C : Addr) (qual : Str) (st : Stmt) : Prop := ∃ f fd, Mk K C f ∧ Fun K "__init__" qual st f fd
def GXk (K : PySem.W.Frag) (C : Addr) (qual : Str) (st : Stmt) : Prop := ∃ f fd, XMk K C f ∧ Fun K "__init__" qual st f fd
/-- a refusal's class -/
structure Rf1 (K : PySem.W.Frag) (mg : Str → Option Value) (CR C : Addr) (x qual : Str) (st : Stmt) : Prop where
  m : mg x = some (.ref C)
  r : PySem.W.exmOne K (.ref C) (.ref CR) = some true
  x : XCls K C
  a : NoAttr K C "answer"
  i : GXk K C qual st
theorem rfc_nil {K : PySem.W.Frag} {CR : Addr} {cl : Int → Addr} : RfC K CR cl [] := ⟨fun _ h => (nomatch h), fun _ h => (nomatch h), fun _ h => (nomatch h)⟩
theorem rfc_cons {K : PySem.W.Frag} {mg : Str → Option Value} {CR : Addr} {cl : Int → Addr} {z : Int} {Z : List Int} {x q : Str} {st : Stmt} (h : Rf1 K mg CR (cl z) x q st) (r : RfC K CR cl Z) : RfC K CR cl (z :: Z) :=
  ⟨fun y hy => (List.mem_cons.mp hy).elim (fun e => e ▸ h.r) (r.r y), fun y hy => (List.mem_cons.mp hy).elim (fun e => e ▸ h.x) (r.x y), fun y hy => (List.mem_cons.mp hy).elim (fun e => e ▸ h.a) (r.a y)⟩
structure TxF (K : PySem.W.Frag) (mg : Str → Option Value) : Prop where
  common_factor : GFn K mg "common_factor" "common_factor" s_common_factor
  common_factor_of_all : GFn K mg "common_factor_of_all" "common_factor_of_all" s_common_factor_of_all
  is_interval : GFn K mg "is_interval" "is_interval" s_is_interval
  upon : GFn K mg "upon" "upon" s_upon
  raised : GFn K mg "raised" "raised" s_raised
  narrower : GFn K mg "narrower" "narrower" s_narrower
  sign_number : GFn K mg "sign_number" "sign_number" s_sign_number
  read_interval : GFn K mg "read_interval" "read_interval" s_read_interval
  read_unison : GFn K mg "read_unison" "read_unison" s_read_unison
  read_factors : GFn K mg "read_factors" "read_factors" s_read_factors
  power_of_factor : GFn K mg "power_of_factor" "power_of_factor" s_power_of_factor
  read_power : GFn K mg "read_power" "read_power" s_read_power
  read_signed : GFn K mg "read_signed" "read_signed" s_read_signed
  read_instrument : GFn K mg "read_instrument" "read_instrument" s_read_instrument
  read_length_instruments : GFn K mg "read_length_instruments" "read_length" s_read_length_instruments
  read_line_instruments : GFn K mg "read_line_instruments" "read_line" s_read_line_instruments
  read_fret : GFn K mg "read_fret" "read_fret" s_read_fret
  read_course : GFn K mg "read_course" "read_course" s_read_course
  read_bass : GFn K mg "read_bass" "read_bass" s_read_bass
  skip_word : GFn K mg "skip_word" "skip_word" s_skip_word
  read_rest : GFn K mg "read_rest" "read_rest" s_read_rest
  check_fit : GFn K mg "check_fit" "check_fit" s_check_fit
  count_notes : GFn K mg "count_notes" "count_notes" s_count_notes
  read_french_stops : GFn K mg "read_french_stops" "read_french_stops" s_read_french_stops
  read_italian_stops : GFn K mg "read_italian_stops" "read_italian_stops" s_read_italian_stops
  read_german_stops : GFn K mg "read_german_stops" "read_german_stops" s_read_german_stops
  read_neck : GFn K mg "read_neck" "read_neck" s_read_neck
  add_stop : GFn K mg "add_stop" "add_stop" s_add_stop
  read_french_bass : GFn K mg "read_french_bass" "read_french_bass" s_read_french_bass
  read_bass_number : GFn K mg "read_bass_number" "read_bass_number" s_read_bass_number
  read_german_stop : GFn K mg "read_german_stop" "read_german_stop" s_read_german_stop
  read_crossing : GFn K mg "read_crossing" "read_crossing" s_read_crossing
  read_piece : GFn K mg "read_piece" "read_piece" s_read_piece
  read_kind : GFn K mg "read_kind" "read_kind" s_read_kind
  read_line_pieces : GFn K mg "read_line_pieces" "read_line" s_read_line_pieces
  read_length_pieces : GFn K mg "read_length_pieces" "read_length" s_read_length_pieces
  read_stops : GFn K mg "read_stops" "read_stops" s_read_stops
  read_tablature : GFn K mg "read_tablature" "read_tablature" s_read_tablature
  tablature_of : GFn K mg "tablature_of" "tablature_of" s_tablature_of
  check_sizes : GFn K mg "check_sizes" "check_sizes" s_check_sizes
  instrument_of : GFn K mg "instrument_of" "instrument_of" s_instrument_of
  piece_of : GFn K mg "piece_of" "piece_of" s_piece_of
structure TxG (K : PySem.W.Frag) (mg : Str → Option Value) : Prop where
  B : Blt mg
  WIDEST_POWER : GI mg "WIDEST_POWER" 99
  FINEST_PART : GI mg "FINEST_PART" 24
  NO_BYTE : GI mg "NO_BYTE" 256
  MOST_DIGITS : GI mg "MOST_DIGITS" ((4 : Nat) : Int)
  LEAST_LENGTH : GI mg "LEAST_LENGTH" 10000
  GREATEST_LENGTH : GI mg "GREATEST_LENGTH" 200000
  LENGTH_DIGITS : GI mg "LENGTH_DIGITS" ((7 : Nat) : Int)
  MOST_FRETS : GI mg "MOST_FRETS" 15
  MOST_STRINGS : GI mg "MOST_STRINGS" 14
  LINE_FEED : GI mg "LINE_FEED" 10
  NECK_COURSES : GI mg "NECK_COURSES" 6
  FIRST_BASS : GI mg "FIRST_BASS" 7
  MOST_CROSSING_BYTES : GI mg "MOST_CROSSING_BYTES" 3
  MOST_LINES : GI mg "MOST_LINES" 512
  FRENCH : GI mg "FRENCH" 0
  ITALIAN : GI mg "ITALIAN" 1
  MOST_INSTRUMENT_BYTES : GI mg "MOST_INSTRUMENT_BYTES" 4096
  MOST_PIECE_BYTES : GI mg "MOST_PIECE_BYTES" 65536
  DIGITS : GS mg "DIGITS" dz0
  FACTORS : GS mg "FACTORS" fz0
  FRENCH_FRETS : GS mg "FRENCH_FRETS" zF
  FRENCH_LOWEST : GS mg "FRENCH_LOWEST" "4567"
  ITALIAN_FRETS : GS mg "ITALIAN_FRETS" zI
  GERMAN_UNSTOPPED : GS mg "GERMAN_UNSTOPPED" "54321"
  GERMAN_SIXTH : GS mg "GERMAN_SIXTH" zP
  GERMAN_CROSSINGS : GS mg "GERMAN_CROSSINGS" zX
  LENGTH_SIGNS : GS mg "LENGTH_SIGNS" zL
  PRIMES : GT K mg "PRIMES" (prm.map V.int)
  UNISON : GT K mg "UNISON" (un5.map V.int)
  LENGTHS : GT K mg "LENGTHS" (lens.map V.int)
  KIND_WORDS : GT K mg "KIND_WORDS" (kws.map V.str)
structure TxR (K : PySem.W.Frag) (mg : Str → Option Value) (C : Addr) : Prop where
  m : mg "Reader" = some (.ref C)
  T : RdC K C
  i : GMk K C "Reader.__init__" s_Reader_init
  en : GMt K C "ended" "Reader.ended" s_Reader_ended
  by_ : GMt K C "byte" "Reader.byte" s_Reader_byte
  se : GMt K C "sees" "Reader.sees" s_Reader_sees
  pi : GMt K C "pick" "Reader.pick" s_Reader_pick
  sk : GMt K C "skip" "Reader.skip" s_Reader_skip
  wn : GMt K C "whole_number" "Reader.whole_number" s_Reader_whole_number
structure TxI (K : PySem.W.Frag) (mg : Str → Option Value) (C : Addr) : Prop where
  m : mg "Instrument" = some (.ref C)
  T : InC K C
  i : GMk K C "Instrument.__init__" s_Instrument_init
  sc : GMt K C "string_count" "Instrument.string_count" s_Instrument_string_count
  hp : GMt K C "has_place" "Instrument.has_place" s_Instrument_has_place
structure TxL (K : PySem.W.Frag) (mg : Str → Option Value) (C : Addr) : Prop where
  m : mg "Line" = some (.ref C)
  T : LnC K C
  i : GMk K C "Line.__init__" s_Line_init
  ib : GMt K C "is_bar" "Line.is_bar" s_Line_is_bar
structure TxB_ (K : PySem.W.Frag) (mg : Str → Option Value) (C : Addr) : Prop where
  m : mg "Tablature" = some (.ref C)
  T : TbC K C
  i : GMk K C "Tablature.__init__" s_Tablature_init
structure TxX (K : PySem.W.Frag) (mg : Str → Option Value) (CT CR C2 C3 C6 C8 : Addr) : Prop where
  mT : mg "TextFault" = some (.ref CT)
  mR : mg "Refusal" = some (.ref CR)
  xT : XCls K CT
  aT : NoAttr K CT "place"
  eT : PySem.W.exmOne K (.ref CT) (.ref CT) = some true
  iT : GXk K CT "TextFault.__init__" s_TextFault_init
  r2 : Rf1 K mg CR C2 "TooLong" "TooLong.__init__" s_TooLong_init
  r3 : Rf1 K mg CR C3 "Misfit" "Misfit.__init__" s_Misfit_init
  r6 : Rf1 K mg CR C6 "NoInstrument" "NoInstrument.__init__" s_NoInstrument_init
  r8 : Rf1 K mg CR C8 "NoPiece" "NoPiece.__init__" s_NoPiece_init
  lm : NoAttr K C3 "line"
  cm : NoAttr K C3 "course"
  sp : PySem.W.specialIn K (.ref CR) "__getattribute__" = some (some (.builtin "type.__getattribute__"))
  rd : PySem.W.readsIn K CR (.type "type") = true
  fc : ∃ f fd, PySem.W.findCls K (.ref CR) (.type "type") "__init__" = some (.val (.ref f)) ∧ Fun K "__init__" "Refusal.__init__" s_Refusal_init f fd
  m1 : PySem.W.exmOne K (.ref C3) (.ref C3) = some true
  m2 : PySem.W.exmOne K (.ref C2) (.ref C3) = some false
  m6 : PySem.W.exmOne K (.ref C6) (.ref C3) = some false
  m8 : PySem.W.exmOne K (.ref C8) (.ref C3) = some false
section
variable {P : Program} {w : World} {K : PySem.W.Frag} {mg : Str → Option Value} {base : Heap}
abbrev Bd (x qual : Str) (st : Stmt) (ps : List Str) : Prop := ∀ (kV doc pm : Value) (an : Option Addr) (cdv ct : Value) (us : List Value), us.length = ps.length → bindArgs (PySem.W.fnOf x qual (defArgs st) (defBody st) (defScope st) .none kV doc pm an cdv ct) ⟨us, []⟩ = pure (ps.zip us)
theorem def_mk {k : Nat} {x nm : Str} {st : Stmt} {ps : List Str} {sp : Sp} (h : GFn K mg x nm st) (hb : Bd nm nm st ps) (ok : ∀ f fd, Fun K nm nm st f fd → FnOk P w K mg base (CX1 P w) k f fd ps sp) : Def P w K mg base k x ps sp :=
  let ⟨f, fd, hm, F⟩ := h; ⟨f, fd, hm, F.kp, F.binds hb, ok f fd F⟩
theorem mth_mk {k : Nat} {C : Addr} {m qual : Str} {st : Stmt} {ps : List Str} {sp : Sp} (c : Cls K C) (h : GMt K C m qual st) (hb : Bd m qual st ps) (ok : ∀ f fd, Fun K m qual st f fd → FnOk P w K mg base (CX1 P w) k f fd ps sp) : Mth P w K mg base k C m ps sp :=
  let ⟨f, fd, hm, F⟩ := h; ⟨c, f, fd, hm, F.binds hb, ok f fd F⟩
theorem mkr_mk {k : Nat} {C : Addr} {x qual : Str} {st : Stmt} {ps : List Str} {sp : Sp} (hx : mg x = some (.ref C)) (h : GMk K C qual st) (hb : Bd "__init__" qual st ps) (ok : ∀ f fd, Fun K "__init__" qual st f fd → FnOk P w K mg base (CX1 P w) k f fd ps sp) : Mkr P w K mg base k C x ps sp :=
  let ⟨f, fd, hm, F⟩ := h; ⟨hx, f, fd, hm, F.binds hb, ok f fd F⟩
theorem xmr_mk {k : Nat} {C : Addr} {x qual : Str} {st : Stmt} {ps : List Str} {sp : Sp} (hx : mg x = some (.ref C)) (c : XCls K C) (h : GXk K C qual st) (hb : Bd "__init__" qual st ps) (ok : ∀ f fd, Fun K "__init__" qual st f fd → FnOkU P w K mg base (CX1 P w) k f fd ps sp) : XMr P w K mg base k C x ps sp :=
  let ⟨f, fd, hm, F⟩ := h; ⟨hx, c, f, fd, hm, F.binds hb, ok f fd F⟩
theorem top_fn {CR0 CI CL CB CT CR C2 C3 C6 C8 f : Addr} {fd : FuncData} (F : TxF K mg) (G : TxG K mg) (R : TxR K mg CR0) (I : TxI K mg CI) (L : TxL K mg CL) (B_ : TxB_ K mg CB) (X : TxX K mg CT CR C2 C3 C6 C8) (Ff : Fun K "fits" "fits" s_fits f fd) :
    FnOk P w K mg base (CX1 P w) 16 f fd ["i", "t"] (spFits K dz0 fz0) := by
  have B := G.B
  have d_cf := def_mk (P := P) (w := w) (base := base) F.common_factor (fun _ _ _ _ _ _ us hl => match us, hl with | [_, _], _ => rfl) fun f fd h => ok_cf h B
  have d_cfa := def_mk (P := P) (w := w) (base := base) F.common_factor_of_all (fun _ _ _ _ _ _ us hl => match us, hl with | [_], _ => rfl) fun f fd h => ok_cfa h d_cf
  have d_ii := def_mk (P := P) (w := w) (base := base) F.is_interval (fun _ _ _ _ _ _ us hl => match us, hl with | [_], _ => rfl) fun f fd h => ok_ii h B G.WIDEST_POWER G.FINEST_PART d_cfa
  have d_up := def_mk (P := P) (w := w) (base := base) F.upon (fun _ _ _ _ _ _ us hl => match us, hl with | [_, _], _ => rfl) fun f fd h => ok_up h B d_cfa
  have d_ra := def_mk (P := P) (w := w) (base := base) F.raised (fun _ _ _ _ _ _ us hl => match us, hl with | [_, _], _ => rfl) fun f fd h => ok_ra h
  have d_nr := def_mk (P := P) (w := w) (base := base) F.narrower (fun _ _ _ _ _ _ us hl => match us, hl with | [_, _], _ => rfl) fun f fd h => ok_nr h B G.PRIMES d_ra
  have X1 : TFm P w K mg base CT := xmr_mk X.mT X.xT X.iT (fun _ _ _ _ _ _ us hl => match us, hl with | [_, _], _ => rfl) fun f fd h => ok_tf h X.xT X.aT
  obtain ⟨fR, fdR, hfR, FR⟩ := X.fc
  have RI : RfI P w K mg base CR fR fdR := ⟨X.mR, X.sp, X.rd, hfR, FR.kp, FR.binds (fun _ _ _ _ _ _ us hl => match us, hl with | [_, _], _ => rfl), ok_rf FR⟩
  have XM : XMr P w K mg base 2 C3 "Misfit" ["self", "line", "course"] (spMf C3) := xmr_mk X.r3.m X.r3.x X.r3.i (fun _ _ _ _ _ _ us hl => match us, hl with | [_, _, _], _ => rfl) fun f fd h => ok_mf h RI X.r3.x X.r3.a X.lm X.cm
  have X2 : XMr P w K mg base 2 C2 "TooLong" ["self"] (spR0 C2 (-2)) := xmr_mk X.r2.m X.r2.x X.r2.i (fun _ _ _ _ _ _ us hl => match us, hl with | [_], _ => rfl) fun f fd h => ok_TooLong h RI X.r2.x X.r2.a
  have X6 : XMr P w K mg base 2 C6 "NoInstrument" ["self"] (spR0 C6 (-6)) := xmr_mk X.r6.m X.r6.x X.r6.i (fun _ _ _ _ _ _ us hl => match us, hl with | [_], _ => rfl) fun f fd h => ok_NoInstrument h RI X.r6.x X.r6.a
  have X8 : XMr P w K mg base 2 C8 "NoPiece" ["self"] (spR0 C8 (-8)) := xmr_mk X.r8.m X.r8.x X.r8.i (fun _ _ _ _ _ _ us hl => match us, hl with | [_], _ => rfl) fun f fd h => ok_NoPiece h RI X.r8.x X.r8.a
  have d_sn := def_mk (P := P) (w := w) (base := base) F.sign_number (fun _ _ _ _ _ _ us hl => match us, hl with | [_, _], _ => rfl) fun f fd h => ok_sn h B
  have m_en := mth_mk (P := P) (w := w) (mg := mg) (base := base) R.T.cl R.en (fun _ _ _ _ _ _ us hl => match us, hl with | [_], _ => rfl) fun f fd h => ok_en h R.T
  have m_by := mth_mk (P := P) (w := w) (mg := mg) (base := base) R.T.cl R.by_ (fun _ _ _ _ _ _ us hl => match us, hl with | [_], _ => rfl) fun f fd h => ok_by h R.T G.NO_BYTE m_en
  have m_se := mth_mk (P := P) (w := w) (mg := mg) (base := base) R.T.cl R.se (fun _ _ _ _ _ _ us hl => match us, hl with | [_, _], _ => rfl) fun f fd h => ok_se h d_sn m_by
  have m_pi := mth_mk (P := P) (w := w) (mg := mg) (base := base) R.T.cl R.pi (fun _ _ _ _ _ _ us hl => match us, hl with | [_, _], _ => rfl) fun f fd h => ok_pi h R.T X1 d_sn m_by
  have m_sk := mth_mk (P := P) (w := w) (mg := mg) (base := base) R.T.cl R.sk (fun _ _ _ _ _ _ us hl => match us, hl with | [_, _], _ => rfl) fun f fd h => ok_sk h m_pi
  have m_wn := mth_mk (P := P) (w := w) (mg := mg) (base := base) R.T.cl R.wn (fun _ _ _ _ _ _ us hl => match us, hl with | [_, _], _ => rfl) fun f fd h => ok_wn h R.T X1 G.DIGITS (oks (by decide +kernel)) m_pi m_se
  have k_r : Mkr P w K mg base 1 CR0 "Reader" ["self", "text", "place", "end"] (spRI CR0) := mkr_mk R.m R.i (fun _ _ _ _ _ _ us hl => match us, hl with | [_, _, _, _], _ => rfl) fun f fd h => ok_ri h R.T
  have RE : RdE P w K mg base CR0 CT dz0 := ⟨R.T, X1, k_r, m_en, m_by, m_se, m_pi, m_sk, m_wn⟩
  have d_un := def_mk (P := P) (w := w) (base := base) F.read_unison (fun _ _ _ _ _ _ us hl => match us, hl with | [_], _ => rfl) fun f fd h => ok_un h RE G.UNISON
  have d_sg := def_mk (P := P) (w := w) (base := base) F.read_signed (fun _ _ _ _ _ _ us hl => match us, hl with | [_], _ => rfl) fun f fd h => ok_sg h RE G.MOST_DIGITS
  have d_pw := def_mk (P := P) (w := w) (base := base) F.read_power (fun _ _ _ _ _ _ us hl => match us, hl with | [_, _], _ => rfl) fun f fd h => ok_pw h RE G.MOST_DIGITS d_sg d_cf
  have d_pf := def_mk (P := P) (w := w) (base := base) F.power_of_factor (fun _ _ _ _ _ _ us hl => match us, hl with | [_, _], _ => rfl) fun f fd h => ok_pf h B
  have d_fc := def_mk (P := P) (w := w) (base := base) F.read_factors (fun _ _ _ _ _ _ us hl => match us, hl with | [_], _ => rfl) fun f fd h => ok_fc h RE G.UNISON G.FACTORS (oks (by decide +kernel)) (by decide +kernel) (by decide +kernel) d_pw d_pf d_up
  have d_riv := def_mk (P := P) (w := w) (base := base) F.read_interval (fun _ _ _ _ _ _ us hl => match us, hl with | [_, _, _], _ => rfl) fun f fd h => ok_riv h RE d_un d_fc d_ii
  have d_rr := def_mk (P := P) (w := w) (base := base) F.read_rest (fun _ _ _ _ _ _ us hl => match us, hl with | [_], _ => rfl) fun f fd h => ok_rr h RE G.LINE_FEED d_riv
  have d_sw := def_mk (P := P) (w := w) (base := base) F.skip_word (fun _ _ _ _ _ _ us hl => match us, hl with | [_, _, _], _ => rfl) fun f fd h => ok_sw h RE
  have m_sc := mth_mk (P := P) (w := w) (mg := mg) (base := base) I.T.cl I.sc (fun _ _ _ _ _ _ us hl => match us, hl with | [_], _ => rfl) fun f fd h => ok_scn h B I.T
  have m_hp := mth_mk (P := P) (w := w) (mg := mg) (base := base) I.T.cl I.hp (fun _ _ _ _ _ _ us hl => match us, hl with | [_, _, _], _ => rfl) fun f fd h => ok_hp h B I.T m_sc
  have k_i : Mkr P w K mg base 1 CI "Instrument" ["self"] (spII0 CI) := mkr_mk I.m I.i (fun _ _ _ _ _ _ us hl => match us, hl with | [_], _ => rfl) fun f fd h => ok_in0 h I.T
  have IE : InE P w K mg base CR0 CI CT dz0 fz0 := ⟨RE, B, I.T, G.UNISON, m_sc, d_sw, d_rr, d_nr, d_ii, d_up⟩
  have d_fr := def_mk (P := P) (w := w) (base := base) F.read_fret (fun _ _ _ _ _ _ us hl => match us, hl with | [_, _], _ => rfl) fun f fd h => ok_fr h IE G.MOST_FRETS
  have d_co := def_mk (P := P) (w := w) (base := base) F.read_course (fun _ _ _ _ _ _ us hl => match us, hl with | [_, _], _ => rfl) fun f fd h => ok_co h IE G.MOST_STRINGS
  have d_ba := def_mk (P := P) (w := w) (base := base) F.read_bass (fun _ _ _ _ _ _ us hl => match us, hl with | [_, _], _ => rfl) fun f fd h => ok_ba h IE G.MOST_STRINGS
  have d_ln := def_mk (P := P) (w := w) (base := base) F.read_line_instruments (fun _ _ _ _ _ _ us hl => match us, hl with | [_, _], _ => rfl) fun f fd h => ok_ln h IE d_fr d_co d_ba
  have d_le := def_mk (P := P) (w := w) (base := base) F.read_length_instruments (fun _ _ _ _ _ _ us hl => match us, hl with | [_], _ => rfl) fun f fd h => ok_le h RE G.LENGTH_DIGITS G.LEAST_LENGTH G.GREATEST_LENGTH
  have d_rin := def_mk (P := P) (w := w) (base := base) F.read_instrument (fun _ _ _ _ _ _ us hl => match us, hl with | [_], _ => rfl) fun f fd h => ok_rin h IE k_i d_le d_ln
  have d_add := def_mk (P := P) (w := w) (base := base) F.add_stop (fun _ _ _ _ _ _ us hl => match us, hl with | [_, _, _], _ => rfl) fun f fd h => ok_add h B X1
  have d_bn := def_mk (P := P) (w := w) (base := base) F.read_bass_number (fun _ _ _ _ _ _ us hl => match us, hl with | [_], _ => rfl) fun f fd h => ok_bn h RE G.FIRST_BASS
  have d_nk := def_mk (P := P) (w := w) (base := base) F.read_neck (fun _ _ _ _ _ _ us hl => match us, hl with | [_, _, _], _ => rfl) fun f fd h => ok_nk h B RE
  have d_fb := def_mk (P := P) (w := w) (base := base) F.read_french_bass (fun _ _ _ _ _ _ us hl => match us, hl with | [_], _ => rfl) fun f fd h => ok_fb h RE G.FIRST_BASS G.FRENCH_LOWEST
  have d_cr := def_mk (P := P) (w := w) (base := base) F.read_crossing (fun _ _ _ _ _ _ us hl => match us, hl with | [_], _ => rfl) fun f fd h => ok_cr h RE G.MOST_CROSSING_BYTES G.GERMAN_CROSSINGS
  have d_gs := def_mk (P := P) (w := w) (base := base) F.read_german_stop (fun _ _ _ _ _ _ us hl => match us, hl with | [_], _ => rfl) fun f fd h => ok_gs h RE G.GERMAN_UNSTOPPED G.GERMAN_SIXTH G.NECK_COURSES d_bn d_cr
  have d_frs := def_mk (P := P) (w := w) (base := base) F.read_french_stops (fun _ _ _ _ _ _ us hl => match us, hl with | [_], _ => rfl) fun f fd h => ok_frs h B RE G.NECK_COURSES G.FRENCH_FRETS d_nk d_fb d_add
  have d_its := def_mk (P := P) (w := w) (base := base) F.read_italian_stops (fun _ _ _ _ _ _ us hl => match us, hl with | [_], _ => rfl) fun f fd h => ok_its h B RE G.NECK_COURSES G.ITALIAN_FRETS d_nk d_bn d_add
  have d_grs := def_mk (P := P) (w := w) (base := base) F.read_german_stops (fun _ _ _ _ _ _ us hl => match us, hl with | [_], _ => rfl) fun f fd h => ok_grs h RE d_gs d_add
  have d_rst := def_mk (P := P) (w := w) (base := base) F.read_stops (fun _ _ _ _ _ _ us hl => match us, hl with | [_, _], _ => rfl) fun f fd h => ok_rst h G.FRENCH G.ITALIAN d_frs d_its d_grs
  have m_ib := mth_mk (P := P) (w := w) (mg := mg) (base := base) L.T.cl L.ib (fun _ _ _ _ _ _ us hl => match us, hl with | [_], _ => rfl) fun f fd h => ok_ib h L.T
  have k_l : Mkr P w K mg base 1 CL "Line" ["self", "length", "stops"] (spLI CL) := mkr_mk L.m L.i (fun _ _ _ _ _ _ us hl => match us, hl with | [_, _, _], _ => rfl) fun f fd h => ok_li h L.T
  have d_rk := def_mk (P := P) (w := w) (base := base) F.read_kind (fun _ _ _ _ _ _ us hl => match us, hl with | [_], _ => rfl) fun f fd h => ok_rk h B RE G.KIND_WORDS
  have d_rl := def_mk (P := P) (w := w) (base := base) F.read_length_pieces (fun _ _ _ _ _ _ us hl => match us, hl with | [_, _], _ => rfl) fun f fd h => ok_rl h RE G.LENGTH_SIGNS G.LENGTHS
  have d_pl := def_mk (P := P) (w := w) (base := base) F.read_line_pieces (fun _ _ _ _ _ _ us hl => match us, hl with | [_, _, _], _ => rfl) fun f fd h => ok_pl h RE k_l d_rl d_rst
  have d_pc := def_mk (P := P) (w := w) (base := base) F.read_piece (fun _ _ _ _ _ _ us hl => match us, hl with | [_], _ => rfl) fun f fd h => ok_pc h B RE L.T G.MOST_LINES m_ib d_rk d_pl
  have d_ck := def_mk (P := P) (w := w) (base := base) F.check_fit (fun _ _ _ _ _ _ us hl => match us, hl with | [_, _], _ => rfl) fun f fd h => ok_ck h B I.T L.T m_hp XM
  have d_cnt := def_mk (P := P) (w := w) (base := base) F.count_notes (fun _ _ _ _ _ _ us hl => match us, hl with | [_], _ => rfl) fun f fd h => ok_cnt h B L.T
  have d_sz := def_mk (P := P) (w := w) (base := base) F.check_sizes (fun _ _ _ _ _ _ us hl => match us, hl with | [_, _], _ => rfl) fun f fd h => ok_sz h B G.MOST_INSTRUMENT_BYTES G.MOST_PIECE_BYTES X2
  have d_io := def_mk (P := P) (w := w) (base := base) F.instrument_of (fun _ _ _ _ _ _ us hl => match us, hl with | [_], _ => rfl) fun f fd h => ok_io h X.mT X.eT d_rin X6
  have d_po := def_mk (P := P) (w := w) (base := base) F.piece_of (fun _ _ _ _ _ _ us hl => match us, hl with | [_], _ => rfl) fun f fd h => ok_po h X.mT X.eT d_pc X8
  have k_b : Mkr P w K mg base 1 CB "Tablature" ["self", "instrument", "lines"] (spTI CB) := mkr_mk B_.m B_.i (fun _ _ _ _ _ _ us hl => match us, hl with | [_, _, _], _ => rfl) fun f fd h => ok_tbi h B_.T
  have d_tbo := def_mk (P := P) (w := w) (base := base) F.tablature_of (fun _ _ _ _ _ _ us hl => match us, hl with | [_, _], _ => rfl) fun f fd h => ok_tbo (cl := (fun z : Int => ([0, 0, C2, C3, 0, 0, C6, 0, C8, 0, 0] : List Addr).getD z.natAbs 0)) h k_b d_io d_po
  have d_rtb := def_mk (P := P) (w := w) (base := base) F.read_tablature (fun _ _ _ _ _ _ us hl => match us, hl with | [_, _], _ => rfl) fun f fd h => ok_rtb (cl := (fun z : Int => ([0, 0, C2, C3, 0, 0, C6, 0, C8, 0, 0] : List Addr).getD z.natAbs 0)) h d_sz d_tbo
  exact ok_fits (cl := (fun z : Int => ([0, 0, C2, C3, 0, 0, C6, 0, C8, 0, 0] : List Addr).getD z.natAbs 0)) Ff B_.T X.r3.m X.mR (rfc_cons X.r2 (rfc_cons X.r6 (rfc_cons X.r8 rfc_nil))) ⟨X.m1, (by intro z hz; simp only [List.mem_cons, List.not_mem_nil, or_false] at hz; rcases hz with rfl | rfl | rfl; exact X.m2; exact X.m6; exact X.m8), X.r3.x, X.r3.a, X.lm, X.cm⟩ d_rtb d_ck d_cnt
end
end Lt
end
section
set_option Elab.async false
set_option linter.all false
set_option maxRecDepth 100000
set_option maxHeartbeats 4000000
namespace Lt
open PySem PySem.Spec PyProof.Rows L2
section
variable {K : PySem.W.Frag} {h : Heap} {mg : Str → Option Value} {x nm m qual : Str} {st : Stmt} {f C : Addr} {oc kV doc pm cdv ct : Value} {od an : Option Addr} {osl : Array (Option Value)}
theorem gfn_mk (X : K.In h) (G : h.Ns mainGlobals mg) (a : PySem.W.nsIn K mainGlobals x = some (some (.ref f))) (l : K.lookup f = some ⟨oc, od, .func (PySem.W.fnOf nm nm (defArgs st) (defBody st) (defScope st) .none kV doc pm an cdv ct), osl⟩) (c : PySem.W.codeIn K cdv nm = true) (k : PySem.W.keepIn K (.ref f) = true) : GFn K mg x nm st :=
  ⟨f, _, PySem.W.mg_of X G a, fun_mk l c k⟩
theorem gmt_mk (a : PySem.W.findIn K (.ref C) m = some (some (.ref f))) (i : PySem.W.isFn K (.ref f) = true) (l : K.lookup f = some ⟨oc, od, .func (PySem.W.fnOf m qual (defArgs st) (defBody st) (defScope st) .none kV doc pm an cdv ct), osl⟩) (c : PySem.W.codeIn K cdv qual = true) (k : PySem.W.keepIn K (.ref f) = true) : GMt K C m qual st :=
  ⟨f, _, ⟨a, i, k⟩, fun_mk l c k⟩
theorem gmk_mk (mk : PySem.W.makesIn K C = true) (kc : PySem.W.keepIn K (.ref C) = true) (a : PySem.W.findIn K (.ref C) "__init__" = some (some (.ref f))) (i : PySem.W.isFn K (.ref f) = true) (l : K.lookup f = some ⟨oc, od, .func (PySem.W.fnOf "__init__" qual (defArgs st) (defBody st) (defScope st) .none kV doc pm an cdv ct), osl⟩) (c : PySem.W.codeIn K cdv qual = true) (k : PySem.W.keepIn K (.ref f) = true) : GMk K C qual st :=
  ⟨f, _, ⟨mk, a, i, kc⟩, fun_mk l c k⟩
theorem gxk_mk (mk : xmakesIn K C = true) (kc : PySem.W.keepIn K (.ref C) = true) (a : PySem.W.findIn K (.ref C) "__init__" = some (some (.ref f))) (i : PySem.W.isFn K (.ref f) = true) (l : K.lookup f = some ⟨oc, od, .func (PySem.W.fnOf "__init__" qual (defArgs st) (defBody st) (defScope st) .none kV doc pm an cdv ct), osl⟩) (c : PySem.W.codeIn K cdv qual = true) (k : PySem.W.keepIn K (.ref f) = true) : GXk K C qual st :=
  ⟨f, _, ⟨mk, a, i, kc⟩, fun_mk l c k⟩
theorem gfc_mk (a : PySem.W.findCls K (.ref C) (.type "type") "__init__" = some (.val (.ref f))) (l : K.lookup f = some ⟨oc, od, .func (PySem.W.fnOf "__init__" qual (defArgs st) (defBody st) (defScope st) .none kV doc pm an cdv ct), osl⟩) (c : PySem.W.codeIn K cdv qual = true) (k : PySem.W.keepIn K (.ref f) = true) :
    ∃ f fd, PySem.W.findCls K (.ref C) (.type "type") "__init__" = some (.val (.ref f)) ∧ Fun K "__init__" qual st f fd := ⟨f, _, a, fun_mk l c k⟩
theorem gi_mk {i : Int} {t : Tok} (X : K.In h) (G : h.Ns mainGlobals mg) (a : PySem.W.nsIn K mainGlobals x = some (some (.int i t))) : GI mg x i := ⟨_, PySem.W.mg_of X G a, t, rfl⟩
theorem gs_mk {z : Str} {t : Tok} (X : K.In h) (G : h.Ns mainGlobals mg) (a : PySem.W.nsIn K mainGlobals x = some (some (.str z t))) : GS mg x z := ⟨_, PySem.W.mg_of X G a, t, rfl⟩
theorem gt_mk {xs : List V} {its : Array Value} {n : Nat} (X : K.In h) (G : h.Ns mainGlobals mg) (a : PySem.W.nsIn K mainGlobals x = some (some (.ref f))) (l : K.lookup f = some ⟨.type "tuple", od, .seq its n, osl⟩) (hz : its.size ≤ 100) (r : Vals xs its.toList) : GT K mg x xs :=
  ⟨f, PySem.W.mg_of X G a, fun H => .inr ⟨_, its, n, l, rfl, rfl, by rw [sizeLine_eq]; omega, r⟩⟩
end
theorem byt_eq {l : List Int} (h : ∀ z ∈ l, 0 ≤ z ∧ z ≤ 255) : (LuSoundNeutral.bytes l).map cV = l.map V.int := by
  unfold LuSoundNeutral.bytes
  rw [List.map_map]
  refine List.map_congr_left fun z hz => ?_
  have := h z hz
  show V.int (((UInt8.ofNat z.toNat).toNat : Nat) : Int) = V.int z
  congr 1
  rw [UInt8.toNat_ofNat']
  omega
theorem inI {lo hi : Int} {l : List Int} (h : l.all (PySem.W.Codec.inInt lo hi) = true) : ∀ z ∈ l, lo ≤ z ∧ z ≤ hi := fun z hz => by
  have := List.all_eq_true.mp h z hz
  unfold PySem.W.Codec.inInt at this
  simpa using this
theorem fin_s {K : PySem.W.Frag} {H : Hp} {p1 p2 : Addr} {i t : List Int} (hs : SqL K H p1 (i.map V.int)) (hs2 : SqL K H p2 (t.map V.int)) (hi : i.all (PySem.W.Codec.inInt 0 255) = true) (ht : t.all (PySem.W.Codec.inInt 0 255) = true) (hl : t.length ≤ 66000) :
    spFits K dz0 fz0 [.ref p1, .ref p2] H (fun v H' => Dw K H' v (.list ((PyWqaucn.fits i t).map .int))) fun _ _ _ => False := by
  refine ⟨p1, p2, LuSoundNeutral.bytes i, LuSoundNeutral.bytes t, rfl, by rw [byt_eq (inI hi)]; exact hs, by rw [byt_eq (inI ht)]; exact hs2, ?_, fun H' l hl' => ?_⟩
  · unfold LuSoundNeutral.bytes
    rw [List.length_map]
    omega
  · rw [ans_eq] at hl'
    exact .lst (SqL.of hl') (dw_ints _)
theorem top_all {K : PySem.W.Frag} {mg : Str → Option Value} {P : Program} {w : World} {fa : Addr} (hfa : mg "fits" = some (.ref fa)) (a : GFn K mg "fits" "fits" s_fits) (F : TxF K mg) (G' : TxG K mg) (R : ∃ C, TxR K mg C) (I : ∃ C, TxI K mg C) (L : ∃ C, TxL K mg C) (B_ : ∃ C, TxB_ K mg C)
    (XX : ∃ CT CR C2 C3 C6 C8, TxX K mg CT CR C2 C3 C6 C8) :
    ∃ fd : FuncData, (∀ (s : Shared) (us : List Value), us.length = (["i", "t"] : List Str).length → BindsTo s fd ⟨us, []⟩ ((["i", "t"] : List Str).zip us)) ∧ ∀ base : Heap, K.In base → base.Ns mainGlobals mg → FnOk P w K mg base (CX1 P w) 16 fa fd ["i", "t"] (spFits K dz0 fz0) := by
  obtain ⟨f, fd, hm, Ff⟩ := a
  have e := hfa.symm.trans hm
  cases e
  obtain ⟨_, R⟩ := R
  obtain ⟨_, I⟩ := I
  obtain ⟨_, L⟩ := L
  obtain ⟨_, B_⟩ := B_
  obtain ⟨_, _, _, _, _, _, XX⟩ := XX
  refine ⟨fd, fun s us hu => ?_, fun base _ _ => top_fn F G' R I L B_ XX Ff⟩
  obtain ⟨oc, od, kV, doc, pm, an, cdv, ct, osl, rfl, lk, hcd⟩ := Ff.ex
  match us, hu with
  | [_, _], _ => exact .of_eq rfl
open PySem.W (Codec OpenSpec) in
theorem walk_specX {r : OpenSpec} {k : Nat} {q : Program} {loose : List Str} {XP : (Str → Option Value) → Heap → Prop} {YP : World → Heap → Prop} {d : DefRec} {K : Params → PySem.W.Frag} {ps : List Str} {sp : PySem.W.Frag → Sp}
    (hwell : r.wellSaid = true) (hdf : d.params.defaults = []) (hlen : r.args.length = ps.length) (hr : Room k callerA)
    (hY : ∀ (w : World) (h : Heap), YP w h → (K w.params).In h)
    (F : ∀ (w : World) (mg : Str → Option Value) (fa : Addr) (h : Heap), YP w h → (K w.params).In h → h.Ns mainGlobals mg → mg d.name = some (.ref fa) →
      ∃ fd : FuncData, (∀ (s : Shared) (us : List Value), us.length = ps.length → BindsTo s fd ⟨us, []⟩ (ps.zip us)) ∧
        ∀ base : Heap, (K w.params).In base → base.Ns mainGlobals mg → FnOk r.prog w (K w.params) mg base (CX1 r.prog w) k fa fd ps (sp (K w.params)))
    (hsp : ∀ (K : PySem.W.Frag) (H : Hp) (xs : List V) (a : Codec.denoteAll r.args), OnlyF H → Codec.withinAll r.args a = true → Codec.app r.args r.asked a = true → DwAll K H xs (Codec.encAll r.args a) →
      sp K xs H (fun v H' => Dw K H' v (r.ret.enc (Codec.app r.args r.f a))) fun _ _ _ => False) : PySem.W.WalkOS q loose XP YP r d [] (fun f vs => PySem.call f vs) :=
  walk_spec (K := K) (CX := fun w => CX1 r.prog w) (sp := fun w => sp (K w.params)) hwell hdf hlen hr hY F (fun w H xs a h1 h2 h3 h4 => hsp (K w.params) H xs a h1 h2 h3 h4) fun w H s e s' ⟨_, _, _, _, _, _, _, _, _, _, _, z⟩ => z
end Lt
end
set_option Elab.async false
set_option linter.all false
def PySem.W.Fast.tw12014415338192952538 : Nat := 0
def PySem.W.Fast.tw17173196455565563650 : Nat := 0
def PySem.W.Fast.tw5120138210734503146 : Nat := 0
def PySem.W.Fast.tw17619549650230440145 : Nat := 0
def PySem.W.Fast.tw8918789030835580993 : Nat := 0
def PySem.W.Fast.tw14328275235221117970 : Nat := 0
def PySem.W.Fast.tw4040484652917441453 : Nat := 0
def PySem.W.Fast.tw13112581112985167142 : Nat := 0
def PySem.W.Fast.tw7516905503033402524 : Nat := 0
def PySem.W.Fast.tw10121527647655877502 : Nat := 0
def PySem.W.Fast.tw7349513121521160775 : Nat := 0
def PySem.W.Fast.tw3431842931083744906 : Nat := 0
def PySem.W.Fast.tw17347440865280325763 : Nat := 0
def PySem.W.Fast.tw2568776249635930138 : Nat := 0
def PySem.W.Fast.tw2375395947780092544 : Nat := 0
def PySem.W.Fast.tw8100963324904799352 : Nat := 0
def PySem.W.Fast.tw2637954653193684645 : Nat := 0
def PySem.W.Fast.tw4193231389260931485 : Nat := 0
def PySem.W.Fast.tw13565047696353383459 : Nat := 0
def PySem.W.Fast.tw734554000199602412 : Nat := 0
def PySem.W.Fast.tw13670831960009502006 : Nat := 0
def PySem.W.Fast.tw16081047622183289929 : Nat := 0
def PySem.W.Fast.tw15613629003677458724 : Nat := 0
def PySem.W.Fast.tw28966252754279991 : Nat := 0
def PySem.W.Fast.tw875331881002385032 : Nat := 0
def PySem.W.Fast.tw6361498519033376170 : Nat := 0
def PySem.W.Fast.tw5387100759060630995 : Nat := 0
def PySem.W.Fast.tw7815055726035832880 : Nat := 0
open PySem PySem.W PyProof.Rows
set_option maxRecDepth 100000 in
set_option maxHeartbeats 0 in
theorem PySem.Challenge.cw_lutesounds_s01_fits_holds : PySem.Challenge.rw_lutesounds_s01_fits.Holds := by
  w_on; k_headS; (case hw => exact ⟨[.list [], .list []], by decide +kernel, by decide +kernel⟩)
  k_fillS
  refine Lt.walk_specX (r := PySem.Challenge.rw_lutesounds_s01_fits) (k := 16) (ps := ["i", "t"]) (sp := fun K => Lt.spFits K Lt.dz0 Lt.fz0) (by decide +kernel) rfl rfl ⟨rfl, by decide, by decide⟩ (fun w h Y => PySem.W.kIn_of Y) ?F ?S
  case F =>
    intro w mg fa h Y KX G hmg
    refine' Lt.top_all hmg ?a ?F ?G ?R ?I ?L ?B_ ?X
    case a => (refine' Lt.gfn_mk KX G ?gfn_a ?gfn_l ?gfn_c ?gfn_k; (case gfn_a => k_is); (case gfn_l => k_is); (case gfn_c => k_is); (case gfn_k => k_is))
    case F =>
      constructor
      · (refine' Lt.gfn_mk KX G ?gfn_a ?gfn_l ?gfn_c ?gfn_k; (case gfn_a => k_is); (case gfn_l => k_is); (case gfn_c => k_is); (case gfn_k => k_is))
      · (refine' Lt.gfn_mk KX G ?gfn_a ?gfn_l ?gfn_c ?gfn_k; (case gfn_a => k_is); (case gfn_l => k_is); (case gfn_c => k_is); (case gfn_k => k_is))
      · (refine' Lt.gfn_mk KX G ?gfn_a ?gfn_l ?gfn_c ?gfn_k; (case gfn_a => k_is); (case gfn_l => k_is); (case gfn_c => k_is); (case gfn_k => k_is))
      · (refine' Lt.gfn_mk KX G ?gfn_a ?gfn_l ?gfn_c ?gfn_k; (case gfn_a => k_is); (case gfn_l => k_is); (case gfn_c => k_is); (case gfn_k => k_is))
      · (refine' Lt.gfn_mk KX G ?gfn_a ?gfn_l ?gfn_c ?gfn_k; (case gfn_a => k_is); (case gfn_l => k_is); (case gfn_c => k_is); (case gfn_k => k_is))
      · (refine' Lt.gfn_mk KX G ?gfn_a ?gfn_l ?gfn_c ?gfn_k; (case gfn_a => k_is); (case gfn_l => k_is); (case gfn_c => k_is); (case gfn_k => k_is))
      · (refine' Lt.gfn_mk KX G ?gfn_a ?gfn_l ?gfn_c ?gfn_k; (case gfn_a => k_is); (case gfn_l => k_is); (case gfn_c => k_is); (case gfn_k => k_is))
      · (refine' Lt.gfn_mk KX G ?gfn_a ?gfn_l ?gfn_c ?gfn_k; (case gfn_a => k_is); (case gfn_l => k_is); (case gfn_c => k_is); (case gfn_k => k_is))
      · (refine' Lt.gfn_mk KX G ?gfn_a ?gfn_l ?gfn_c ?gfn_k; (case gfn_a => k_is); (case gfn_l => k_is); (case gfn_c => k_is); (case gfn_k => k_is))
      · (refine' Lt.gfn_mk KX G ?gfn_a ?gfn_l ?gfn_c ?gfn_k; (case gfn_a => k_is); (case gfn_l => k_is); (case gfn_c => k_is); (case gfn_k => k_is))
      · (refine' Lt.gfn_mk KX G ?gfn_a ?gfn_l ?gfn_c ?gfn_k; (case gfn_a => k_is); (case gfn_l => k_is); (case gfn_c => k_is); (case gfn_k => k_is))
      · (refine' Lt.gfn_mk KX G ?gfn_a ?gfn_l ?gfn_c ?gfn_k; (case gfn_a => k_is); (case gfn_l => k_is); (case gfn_c => k_is); (case gfn_k => k_is))
      · (refine' Lt.gfn_mk KX G ?gfn_a ?gfn_l ?gfn_c ?gfn_k; (case gfn_a => k_is); (case gfn_l => k_is); (case gfn_c => k_is); (case gfn_k => k_is))
      · (refine' Lt.gfn_mk KX G ?gfn_a ?gfn_l ?gfn_c ?gfn_k; (case gfn_a => k_is); (case gfn_l => k_is); (case gfn_c => k_is); (case gfn_k => k_is))
      · (refine' Lt.gfn_mk KX G ?gfn_a ?gfn_l ?gfn_c ?gfn_k; (case gfn_a => k_is); (case gfn_l => k_is); (case gfn_c => k_is); (case gfn_k => k_is))
      · (refine' Lt.gfn_mk KX G ?gfn_a ?gfn_l ?gfn_c ?gfn_k; (case gfn_a => k_is); (case gfn_l => k_is); (case gfn_c => k_is); (case gfn_k => k_is))
      · (refine' Lt.gfn_mk KX G ?gfn_a ?gfn_l ?gfn_c ?gfn_k; (case gfn_a => k_is); (case gfn_l => k_is); (case gfn_c => k_is); (case gfn_k => k_is))
      · (refine' Lt.gfn_mk KX G ?gfn_a ?gfn_l ?gfn_c ?gfn_k; (case gfn_a => k_is); (case gfn_l => k_is); (case gfn_c => k_is); (case gfn_k => k_is))
      · (refine' Lt.gfn_mk KX G ?gfn_a ?gfn_l ?gfn_c ?gfn_k; (case gfn_a => k_is); (case gfn_l => k_is); (case gfn_c => k_is); (case gfn_k => k_is))
      · (refine' Lt.gfn_mk KX G ?gfn_a ?gfn_l ?gfn_c ?gfn_k; (case gfn_a => k_is); (case gfn_l => k_is); (case gfn_c => k_is); (case gfn_k => k_is))
      · (refine' Lt.gfn_mk KX G ?gfn_a ?gfn_l ?gfn_c ?gfn_k; (case gfn_a => k_is); (case gfn_l => k_is); (case gfn_c => k_is); (case gfn_k => k_is))
      · (refine' Lt.gfn_mk KX G ?gfn_a ?gfn_l ?gfn_c ?gfn_k; (case gfn_a => k_is); (case gfn_l => k_is); (case gfn_c => k_is); (case gfn_k => k_is))
      · (refine' Lt.gfn_mk KX G ?gfn_a ?gfn_l ?gfn_c ?gfn_k; (case gfn_a => k_is); (case gfn_l => k_is); (case gfn_c => k_is); (case gfn_k => k_is))
      · (refine' Lt.gfn_mk KX G ?gfn_a ?gfn_l ?gfn_c ?gfn_k; (case gfn_a => k_is); (case gfn_l => k_is); (case gfn_c => k_is); (case gfn_k => k_is))
      · (refine' Lt.gfn_mk KX G ?gfn_a ?gfn_l ?gfn_c ?gfn_k; (case gfn_a => k_is); (case gfn_l => k_is); (case gfn_c => k_is); (case gfn_k => k_is))
      · (refine' Lt.gfn_mk KX G ?gfn_a ?gfn_l ?gfn_c ?gfn_k; (case gfn_a => k_is); (case gfn_l => k_is); (case gfn_c => k_is); (case gfn_k => k_is))
      · (refine' Lt.gfn_mk KX G ?gfn_a ?gfn_l ?gfn_c ?gfn_k; (case gfn_a => k_is); (case gfn_l => k_is); (case gfn_c => k_is); (case gfn_k => k_is))
      · (refine' Lt.gfn_mk KX G ?gfn_a ?gfn_l ?gfn_c ?gfn_k; (case gfn_a => k_is); (case gfn_l => k_is); (case gfn_c => k_is); (case gfn_k => k_is))
      · (refine' Lt.gfn_mk KX G ?gfn_a ?gfn_l ?gfn_c ?gfn_k; (case gfn_a => k_is); (case gfn_l => k_is); (case gfn_c => k_is); (case gfn_k => k_is))
      · (refine' Lt.gfn_mk KX G ?gfn_a ?gfn_l ?gfn_c ?gfn_k; (case gfn_a => k_is); (case gfn_l => k_is); (case gfn_c => k_is); (case gfn_k => k_is))
      · (refine' Lt.gfn_mk KX G ?gfn_a ?gfn_l ?gfn_c ?gfn_k; (case gfn_a => k_is); (case gfn_l => k_is); (case gfn_c => k_is); (case gfn_k => k_is))
      · (refine' Lt.gfn_mk KX G ?gfn_a ?gfn_l ?gfn_c ?gfn_k; (case gfn_a => k_is); (case gfn_l => k_is); (case gfn_c => k_is); (case gfn_k => k_is))
      · (refine' Lt.gfn_mk KX G ?gfn_a ?gfn_l ?gfn_c ?gfn_k; (case gfn_a => k_is); (case gfn_l => k_is); (case gfn_c => k_is); (case gfn_k => k_is))
      · (refine' Lt.gfn_mk KX G ?gfn_a ?gfn_l ?gfn_c ?gfn_k; (case gfn_a => k_is); (case gfn_l => k_is); (case gfn_c => k_is); (case gfn_k => k_is))
      · (refine' Lt.gfn_mk KX G ?gfn_a ?gfn_l ?gfn_c ?gfn_k; (case gfn_a => k_is); (case gfn_l => k_is); (case gfn_c => k_is); (case gfn_k => k_is))
      · (refine' Lt.gfn_mk KX G ?gfn_a ?gfn_l ?gfn_c ?gfn_k; (case gfn_a => k_is); (case gfn_l => k_is); (case gfn_c => k_is); (case gfn_k => k_is))
      · (refine' Lt.gfn_mk KX G ?gfn_a ?gfn_l ?gfn_c ?gfn_k; (case gfn_a => k_is); (case gfn_l => k_is); (case gfn_c => k_is); (case gfn_k => k_is))
      · (refine' Lt.gfn_mk KX G ?gfn_a ?gfn_l ?gfn_c ?gfn_k; (case gfn_a => k_is); (case gfn_l => k_is); (case gfn_c => k_is); (case gfn_k => k_is))
      · (refine' Lt.gfn_mk KX G ?gfn_a ?gfn_l ?gfn_c ?gfn_k; (case gfn_a => k_is); (case gfn_l => k_is); (case gfn_c => k_is); (case gfn_k => k_is))
      · (refine' Lt.gfn_mk KX G ?gfn_a ?gfn_l ?gfn_c ?gfn_k; (case gfn_a => k_is); (case gfn_l => k_is); (case gfn_c => k_is); (case gfn_k => k_is))
      · (refine' Lt.gfn_mk KX G ?gfn_a ?gfn_l ?gfn_c ?gfn_k; (case gfn_a => k_is); (case gfn_l => k_is); (case gfn_c => k_is); (case gfn_k => k_is))
      · (refine' Lt.gfn_mk KX G ?gfn_a ?gfn_l ?gfn_c ?gfn_k; (case gfn_a => k_is); (case gfn_l => k_is); (case gfn_c => k_is); (case gfn_k => k_is))
    case G =>
      constructor
      · constructor <;> (refine' PySem.W.mg_none_of KX G ?no_a; (case no_a => k_is))
      · (refine' Lt.gi_mk KX G ?gi_a; (case gi_a => k_is))
      · (refine' Lt.gi_mk KX G ?gi_a; (case gi_a => k_is))
      · (refine' Lt.gi_mk KX G ?gi_a; (case gi_a => k_is))
      · (refine' Lt.gi_mk KX G ?gi_a; (case gi_a => k_is))
      · (refine' Lt.gi_mk KX G ?gi_a; (case gi_a => k_is))
      · (refine' Lt.gi_mk KX G ?gi_a; (case gi_a => k_is))
      · (refine' Lt.gi_mk KX G ?gi_a; (case gi_a => k_is))
      · (refine' Lt.gi_mk KX G ?gi_a; (case gi_a => k_is))
      · (refine' Lt.gi_mk KX G ?gi_a; (case gi_a => k_is))
      · (refine' Lt.gi_mk KX G ?gi_a; (case gi_a => k_is))
      · (refine' Lt.gi_mk KX G ?gi_a; (case gi_a => k_is))
      · (refine' Lt.gi_mk KX G ?gi_a; (case gi_a => k_is))
      · (refine' Lt.gi_mk KX G ?gi_a; (case gi_a => k_is))
      · (refine' Lt.gi_mk KX G ?gi_a; (case gi_a => k_is))
      · (refine' Lt.gi_mk KX G ?gi_a; (case gi_a => k_is))
      · (refine' Lt.gi_mk KX G ?gi_a; (case gi_a => k_is))
      · (refine' Lt.gi_mk KX G ?gi_a; (case gi_a => k_is))
      · (refine' Lt.gi_mk KX G ?gi_a; (case gi_a => k_is))
      · (refine' Lt.gs_mk KX G ?gs_a; (case gs_a => k_is))
      · (refine' Lt.gs_mk KX G ?gs_a; (case gs_a => k_is))
      · (refine' Lt.gs_mk KX G ?gs_a; (case gs_a => k_is))
      · (refine' Lt.gs_mk KX G ?gs_a; (case gs_a => k_is))
      · (refine' Lt.gs_mk KX G ?gs_a; (case gs_a => k_is))
      · (refine' Lt.gs_mk KX G ?gs_a; (case gs_a => k_is))
      · (refine' Lt.gs_mk KX G ?gs_a; (case gs_a => k_is))
      · (refine' Lt.gs_mk KX G ?gs_a; (case gs_a => k_is))
      · (refine' Lt.gs_mk KX G ?gs_a; (case gs_a => k_is))
      · (refine' Lt.gt_mk KX G ?gt_a ?gt_l ?gt_z ?gt_r; (case gt_a => k_is); (case gt_l => k_is); (case gt_z => decide); (case gt_r => repeat (first | exact Paired.nil | refine Paired.cons ⟨_, rfl⟩ ?_)))
      · (refine' Lt.gt_mk KX G ?gt_a ?gt_l ?gt_z ?gt_r; (case gt_a => k_is); (case gt_l => k_is); (case gt_z => decide); (case gt_r => repeat (first | exact Paired.nil | refine Paired.cons ⟨_, rfl⟩ ?_)))
      · (refine' Lt.gt_mk KX G ?gt_a ?gt_l ?gt_z ?gt_r; (case gt_a => k_is); (case gt_l => k_is); (case gt_z => decide); (case gt_r => repeat (first | exact Paired.nil | refine Paired.cons ⟨_, rfl⟩ ?_)))
      · (refine' Lt.gt_mk KX G ?gt_a ?gt_l ?gt_z ?gt_r; (case gt_a => k_is); (case gt_l => k_is); (case gt_z => decide); (case gt_r => repeat (first | exact Paired.nil | refine Paired.cons ⟨_, rfl⟩ ?_)))
    case R =>
      refine' ⟨_, Lt.TxR.mk ?m ?T ?i ?e0 ?e1 ?e2 ?e3 ?e4 ?e5⟩
      case m => (refine' PySem.W.mg_of KX G ?mg_a; (case mg_a => k_is))
      case T => (refine' Lt.RdC.mk ?a ?n0 ?n1 ?n2; (case a => (refine' L2.Cls.mk ?cls_a ?cls_b ?cls_c ?cls_d; (case cls_a => k_is); (case cls_b => k_is); (case cls_c => k_is); (case cls_d => k_is))); (case n0 => (unfold L2.NoAttr; k_is)); (case n1 => (unfold L2.NoAttr; k_is)); (case n2 => (unfold L2.NoAttr; k_is)))
      case i => (refine' Lt.gmk_mk ?gmk_m ?gmk_kc ?gmk_a ?gmk_i ?gmk_l ?gmk_c ?gmk_k; (case gmk_m => k_is); (case gmk_kc => k_is); (case gmk_a => k_is); (case gmk_i => k_is); (case gmk_l => k_is); (case gmk_c => k_is); (case gmk_k => k_is))
      case e0 => (refine' Lt.gmt_mk ?gmt_a ?gmt_i ?gmt_l ?gmt_c ?gmt_k; (case gmt_a => k_is); (case gmt_i => k_is); (case gmt_l => k_is); (case gmt_c => k_is); (case gmt_k => k_is))
      case e1 => (refine' Lt.gmt_mk ?gmt_a ?gmt_i ?gmt_l ?gmt_c ?gmt_k; (case gmt_a => k_is); (case gmt_i => k_is); (case gmt_l => k_is); (case gmt_c => k_is); (case gmt_k => k_is))
      case e2 => (refine' Lt.gmt_mk ?gmt_a ?gmt_i ?gmt_l ?gmt_c ?gmt_k; (case gmt_a => k_is); (case gmt_i => k_is); (case gmt_l => k_is); (case gmt_c => k_is); (case gmt_k => k_is))
      case e3 => (refine' Lt.gmt_mk ?gmt_a ?gmt_i ?gmt_l ?gmt_c ?gmt_k; (case gmt_a => k_is); (case gmt_i => k_is); (case gmt_l => k_is); (case gmt_c => k_is); (case gmt_k => k_is))
      case e4 => (refine' Lt.gmt_mk ?gmt_a ?gmt_i ?gmt_l ?gmt_c ?gmt_k; (case gmt_a => k_is); (case gmt_i => k_is); (case gmt_l => k_is); (case gmt_c => k_is); (case gmt_k => k_is))
      case e5 => (refine' Lt.gmt_mk ?gmt_a ?gmt_i ?gmt_l ?gmt_c ?gmt_k; (case gmt_a => k_is); (case gmt_i => k_is); (case gmt_l => k_is); (case gmt_c => k_is); (case gmt_k => k_is))
    case I =>
      refine' ⟨_, Lt.TxI.mk ?m ?T ?i ?e0 ?e1⟩
      case m => (refine' PySem.W.mg_of KX G ?mg_a; (case mg_a => k_is))
      case T => (refine' Lt.InC.mk ?a ?n0 ?n1 ?n2; (case a => (refine' L2.Cls.mk ?cls_a ?cls_b ?cls_c ?cls_d; (case cls_a => k_is); (case cls_b => k_is); (case cls_c => k_is); (case cls_d => k_is))); (case n0 => (unfold L2.NoAttr; k_is)); (case n1 => (unfold L2.NoAttr; k_is)); (case n2 => (unfold L2.NoAttr; k_is)))
      case i => (refine' Lt.gmk_mk ?gmk_m ?gmk_kc ?gmk_a ?gmk_i ?gmk_l ?gmk_c ?gmk_k; (case gmk_m => k_is); (case gmk_kc => k_is); (case gmk_a => k_is); (case gmk_i => k_is); (case gmk_l => k_is); (case gmk_c => k_is); (case gmk_k => k_is))
      case e0 => (refine' Lt.gmt_mk ?gmt_a ?gmt_i ?gmt_l ?gmt_c ?gmt_k; (case gmt_a => k_is); (case gmt_i => k_is); (case gmt_l => k_is); (case gmt_c => k_is); (case gmt_k => k_is))
      case e1 => (refine' Lt.gmt_mk ?gmt_a ?gmt_i ?gmt_l ?gmt_c ?gmt_k; (case gmt_a => k_is); (case gmt_i => k_is); (case gmt_l => k_is); (case gmt_c => k_is); (case gmt_k => k_is))
    case L =>
      refine' ⟨_, Lt.TxL.mk ?m ?T ?i ?e0⟩
      case m => (refine' PySem.W.mg_of KX G ?mg_a; (case mg_a => k_is))
      case T => (refine' Lt.LnC.mk ?a ?n0 ?n1; (case a => (refine' L2.Cls.mk ?cls_a ?cls_b ?cls_c ?cls_d; (case cls_a => k_is); (case cls_b => k_is); (case cls_c => k_is); (case cls_d => k_is))); (case n0 => (unfold L2.NoAttr; k_is)); (case n1 => (unfold L2.NoAttr; k_is)))
      case i => (refine' Lt.gmk_mk ?gmk_m ?gmk_kc ?gmk_a ?gmk_i ?gmk_l ?gmk_c ?gmk_k; (case gmk_m => k_is); (case gmk_kc => k_is); (case gmk_a => k_is); (case gmk_i => k_is); (case gmk_l => k_is); (case gmk_c => k_is); (case gmk_k => k_is))
      case e0 => (refine' Lt.gmt_mk ?gmt_a ?gmt_i ?gmt_l ?gmt_c ?gmt_k; (case gmt_a => k_is); (case gmt_i => k_is); (case gmt_l => k_is); (case gmt_c => k_is); (case gmt_k => k_is))
    case B_ =>
      refine' ⟨_, Lt.TxB_.mk ?m ?T ?i⟩
      case m => (refine' PySem.W.mg_of KX G ?mg_a; (case mg_a => k_is))
      case T => (refine' Lt.TbC.mk ?a ?n0 ?n1; (case a => (refine' L2.Cls.mk ?cls_a ?cls_b ?cls_c ?cls_d; (case cls_a => k_is); (case cls_b => k_is); (case cls_c => k_is); (case cls_d => k_is))); (case n0 => (unfold L2.NoAttr; k_is)); (case n1 => (unfold L2.NoAttr; k_is)))
      case i => (refine' Lt.gmk_mk ?gmk_m ?gmk_kc ?gmk_a ?gmk_i ?gmk_l ?gmk_c ?gmk_k; (case gmk_m => k_is); (case gmk_kc => k_is); (case gmk_a => k_is); (case gmk_i => k_is); (case gmk_l => k_is); (case gmk_c => k_is); (case gmk_k => k_is))
    case X =>
      refine' ⟨_, _, _, _, _, _, Lt.TxX.mk ?mT ?mR ?xT ?aT ?eT ?iT ?r2 ?r3 ?r6 ?r8 ?lm ?cm ?sp ?rd ?fc ?m1 ?m2 ?m6 ?m8⟩
      case mT => (refine' PySem.W.mg_of KX G ?mg_a; (case mg_a => k_is))
      case mR => (refine' PySem.W.mg_of KX G ?mg_a; (case mg_a => k_is))
      case xT => (refine' L2.XCls.mk ?xcls_a ?xcls_b ?xcls_c ?xcls_d ?xcls_e ?xcls_f; (case xcls_a => kernel_rfl!); (case xcls_b => k_is); (case xcls_c => k_is); (case xcls_d => k_is); (case xcls_e => k_is); (case xcls_f => k_is))
      case aT => (unfold L2.NoAttr; k_is)
      case eT => kernel_rfl!
      case iT => (refine' Lt.gxk_mk ?gxk_m ?gxk_kc ?gxk_a ?gxk_i ?gxk_l ?gxk_c ?gxk_k; (case gxk_m => kernel_rfl!); (case gxk_kc => k_is); (case gxk_a => k_is); (case gxk_i => k_is); (case gxk_l => k_is); (case gxk_c => k_is); (case gxk_k => k_is))
      case r2 => (refine' Lt.Rf1.mk ?rf1_m ?rf1_r ?rf1_x ?rf1_a ?rf1_i; (case rf1_m => (refine' PySem.W.mg_of KX G ?mg_a; (case mg_a => k_is))); (case rf1_r => kernel_rfl!); (case rf1_x => (refine' L2.XCls.mk ?xcls_a ?xcls_b ?xcls_c ?xcls_d ?xcls_e ?xcls_f; (case xcls_a => kernel_rfl!); (case xcls_b => k_is); (case xcls_c => k_is); (case xcls_d => k_is); (case xcls_e => k_is); (case xcls_f => k_is))); (case rf1_a => (unfold L2.NoAttr; k_is)); (case rf1_i => (refine' Lt.gxk_mk ?gxk_m ?gxk_kc ?gxk_a ?gxk_i ?gxk_l ?gxk_c ?gxk_k; (case gxk_m => kernel_rfl!); (case gxk_kc => k_is); (case gxk_a => k_is); (case gxk_i => k_is); (case gxk_l => k_is); (case gxk_c => k_is); (case gxk_k => k_is))))
      case r3 => (refine' Lt.Rf1.mk ?rf1_m ?rf1_r ?rf1_x ?rf1_a ?rf1_i; (case rf1_m => (refine' PySem.W.mg_of KX G ?mg_a; (case mg_a => k_is))); (case rf1_r => kernel_rfl!); (case rf1_x => (refine' L2.XCls.mk ?xcls_a ?xcls_b ?xcls_c ?xcls_d ?xcls_e ?xcls_f; (case xcls_a => kernel_rfl!); (case xcls_b => k_is); (case xcls_c => k_is); (case xcls_d => k_is); (case xcls_e => k_is); (case xcls_f => k_is))); (case rf1_a => (unfold L2.NoAttr; k_is)); (case rf1_i => (refine' Lt.gxk_mk ?gxk_m ?gxk_kc ?gxk_a ?gxk_i ?gxk_l ?gxk_c ?gxk_k; (case gxk_m => kernel_rfl!); (case gxk_kc => k_is); (case gxk_a => k_is); (case gxk_i => k_is); (case gxk_l => k_is); (case gxk_c => k_is); (case gxk_k => k_is))))
      case r6 => (refine' Lt.Rf1.mk ?rf1_m ?rf1_r ?rf1_x ?rf1_a ?rf1_i; (case rf1_m => (refine' PySem.W.mg_of KX G ?mg_a; (case mg_a => k_is))); (case rf1_r => kernel_rfl!); (case rf1_x => (refine' L2.XCls.mk ?xcls_a ?xcls_b ?xcls_c ?xcls_d ?xcls_e ?xcls_f; (case xcls_a => kernel_rfl!); (case xcls_b => k_is); (case xcls_c => k_is); (case xcls_d => k_is); (case xcls_e => k_is); (case xcls_f => k_is))); (case rf1_a => (unfold L2.NoAttr; k_is)); (case rf1_i => (refine' Lt.gxk_mk ?gxk_m ?gxk_kc ?gxk_a ?gxk_i ?gxk_l ?gxk_c ?gxk_k; (case gxk_m => kernel_rfl!); (case gxk_kc => k_is); (case gxk_a => k_is); (case gxk_i => k_is); (case gxk_l => k_is); (case gxk_c => k_is); (case gxk_k => k_is))))
      case r8 => (refine' Lt.Rf1.mk ?rf1_m ?rf1_r ?rf1_x ?rf1_a ?rf1_i; (case rf1_m => (refine' PySem.W.mg_of KX G ?mg_a; (case mg_a => k_is))); (case rf1_r => kernel_rfl!); (case rf1_x => (refine' L2.XCls.mk ?xcls_a ?xcls_b ?xcls_c ?xcls_d ?xcls_e ?xcls_f; (case xcls_a => kernel_rfl!); (case xcls_b => k_is); (case xcls_c => k_is); (case xcls_d => k_is); (case xcls_e => k_is); (case xcls_f => k_is))); (case rf1_a => (unfold L2.NoAttr; k_is)); (case rf1_i => (refine' Lt.gxk_mk ?gxk_m ?gxk_kc ?gxk_a ?gxk_i ?gxk_l ?gxk_c ?gxk_k; (case gxk_m => kernel_rfl!); (case gxk_kc => k_is); (case gxk_a => k_is); (case gxk_i => k_is); (case gxk_l => k_is); (case gxk_c => k_is); (case gxk_k => k_is))))
      case lm => (unfold L2.NoAttr; k_is)
      case cm => (unfold L2.NoAttr; k_is)
      case sp => k_is
      case rd => k_is
      case fc => (refine' Lt.gfc_mk ?gfc_a ?gfc_l ?gfc_c ?gfc_k; (case gfc_a => k_is); (case gfc_l => k_is); (case gfc_c => k_is); (case gfc_k => k_is))
      case m1 => kernel_rfl!
      case m2 => kernel_rfl!
      case m6 => kernel_rfl!
      case m8 => kernel_rfl!
  case S =>
    intro K H xs a hO hwi hask hx
    cases hx with
    | cons h1 h2 =>
      cases h2 with
      | cons h2 h3 =>
        cases h3
        cases h1 with
        | lst hs ha =>
          cases h2 with
          | lst hs2 ha2 =>
            have e := L2.ints_dw a.1 _ ha
            subst e
            have e2 := L2.ints_dw a.2.1 _ ha2
            subst e2
            have q : ((Codec.inLen 0 4200 a.1 && a.1.all (Codec.inInt 0 255)) && ((Codec.inLen 0 66000 a.2.1 && a.2.1.all (Codec.inInt 0 255)) && true)) = true := hwi
            simp only [Bool.and_eq_true, Bool.and_true] at q
            exact Lt.fin_s hs hs2 q.1.2 q.2.2 (Codec.inNat_iff.mp q.2.1).2
#print axioms PySem.Challenge.cw_lutesounds_s01_fits_holds
